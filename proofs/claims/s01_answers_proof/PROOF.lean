import PyProof.Rows.All
import Wide.All
import OpenK.AllK
import Wide.FinOn
import PyProof.EqAt
import PyProof.EqKinds
import PyProof.TupleCall
import KE.BitLaws
import KE.OsGo
import PySem.Challenge.RW_slotchip_s01_answers
import KE.KTryMore
import KE.KDictSum
import PyProof.Rows.SortShellAny
import Open.SpecLaws
set_option Elab.async false
set_option linter.all false
set_option maxRecDepth 100000
namespace Sh
section
open PySem PySem.W PySem.Calls PyProof.Rows
set_option maxHeartbeats 0
theorem said1 : (sreFenced PySem.Challenge.pw_slotchip_s01_answers.main && ((moduleNames PySem.Challenge.pw_slotchip_s01_answers.main.body).isEmpty || lookedIntoSs (moduleNames PySem.Challenge.pw_slotchip_s01_answers.main.body) PySem.Challenge.pw_slotchip_s01_answers.main.body)) = true := by decide +kernel
theorem said2 : namesResolve PySem.Challenge.pw_slotchip_s01_answers = true := by k_qdec
theorem said3 : PySem.Challenge.pw_slotchip_s01_answers.boundNames.all (fun n => !worldNames.contains n) = true := by decide +kernel
theorem said4 : noRoadLSs { strict := !(importedModules PySem.Challenge.pw_slotchip_s01_answers.main.body).all cThrough.contains, foot := none, bare := (["vars", "dir", "locals"] : List Str).filter (readsOut PySem.Challenge.pw_slotchip_s01_answers PySem.Challenge.pw_slotchip_s01_answers.main.body) } PySem.Challenge.pw_slotchip_s01_answers.main.body = true := by k_qdec
theorem said5 : namesMeet PySem.Challenge.pw_slotchip_s01_answers PySem.Challenge.pw_slotchip_s01_answers.main.body (fun _ n => attrL n) = true := by k_qdec
theorem said6 : (PySem.Challenge.rw_slotchip_s01_answers.prog.boundNames.contains PySem.Challenge.rw_slotchip_s01_answers.name) = true := by decide +kernel
theorem said7 : (!startupNames.contains PySem.Challenge.rw_slotchip_s01_answers.name) = true := by decide +kernel
theorem said8 : specDef PySem.Challenge.rw_slotchip_s01_answers.prog PySem.Challenge.rw_slotchip_s01_answers.name PySem.Challenge.rw_slotchip_s01_answers.args.length = true := by decide +kernel
theorem said9 : PySem.Challenge.rw_slotchip_s01_answers.args.all Codec.fits = true := by decide +kernel
theorem said10 : PySem.Challenge.rw_slotchip_s01_answers.ret.ok = true := by decide +kernel
theorem looks_ok : looksOpen PySem.Challenge.pw_slotchip_s01_answers = true := by
  unfold looksOpen
  exact look_both (look_both (look_both (look_both said1 said2) said3) said4) said5
theorem said_ok : PySem.Challenge.rw_slotchip_s01_answers.wellSaid = true := by
  unfold OpenSpec.wellSaid
  exact look_both (look_both (look_both (look_both (look_both looks_ok said6) said7) said8) said9) said10
def q : Program := { PySem.Challenge.rw_slotchip_s01_answers.prog with main := { PySem.Challenge.rw_slotchip_s01_answers.prog.main with body := PySem.Challenge.rw_slotchip_s01_answers.prog.main.body.drop 181 } }
def loose : List Str := [
  Str.ofString "MASK", Str.ofString "MASK_64", Str.ofString "signed", Str.ofString "clamped", Str.ofString "SIZE", Str.ofString "STATUS",
  Str.ofString "GBR", Str.ofString "MACH", Str.ofString "MACL", Str.ofString "PR", Str.ofString "PLACE", Str.ofString "NoInstruction",
  Str.ofString "BehindJump", Str.ofString "NotMultiple", Str.ofString "NotWithin", Str.ofString "Machine", Str.ofString "base",
  Str.ofString "long_base", Str.ofString "jump_by_register", Str.ofString "call_by_register", Str.ofString "come_back",
  Str.ofString "come_back_with_status", Str.ofString "jump_to_register", Str.ofString "call_to_register", Str.ofString "short_target",
  Str.ofString "leap_where_1", Str.ofString "leap_where_0", Str.ofString "jump_where_1", Str.ofString "jump_where_0", Str.ofString "jump_by_number",
  Str.ofString "call_by_number", Str.ofString "load_word", Str.ofString "load_long", Str.ofString "call_system", Str.ofString "tell_place",
  Str.ofString "BY_GROUP_bound", Str.ofString "BY_I_IN_0", Str.ofString "WHERE_N_IS_0_IN_0", Str.ofString "BY_I_IN_4", Str.ofString "BY_N_IN_8",
  Str.ofString "BY_N_IN_C", Str.ofString "bound_act", Str.ofString "next_product", Str.ofString "read_sum", Str.ofString "write_sum",
  Str.ofString "add_long_product", Str.ofString "add_word_product", Str.ofString "add_to_lower_half", Str.ofString "store_indexed",
  Str.ofString "load_indexed", Str.ofString "multiply", Str.ofString "read_control", Str.ofString "read_system", Str.ofString "read_t",
  Str.ofString "clear_t", Str.ofString "raise_t", Str.ofString "clear_sum", Str.ofString "do_nothing", Str.ofString "begin_unsigned_division",
  Str.ofString "sleep", Str.ofString "BY_K_group0", Str.ofString "BY_I_group0", Str.ofString "WHERE_N_IS_0", Str.ofString "act_of_group_0",
  Str.ofString "store_at", Str.ofString "store_below", Str.ofString "begin_signed_division", Str.ofString "have_no_bit_in_common",
  Str.ofString "bits_of_both", Str.ofString "bits_of_one", Str.ofString "bits_of_either", Str.ofString "have_same_byte", Str.ofString "join_halves",
  Str.ofString "multiply_halves", Str.ofString "multiply_signed_halves", Str.ofString "BY_K_group2", Str.ofString "act_of_group_2",
  Str.ofString "is_same", Str.ofString "is_at_least", Str.ofString "is_above", Str.ofString "is_at_least_signed", Str.ofString "is_above_signed",
  Str.ofString "subtract", Str.ofString "add", Str.ofString "subtract_with_t", Str.ofString "add_with_t", Str.ofString "keep_signed",
  Str.ofString "subtract_signed", Str.ofString "add_signed", Str.ofString "keep_product", Str.ofString "multiply_whole",
  Str.ofString "multiply_whole_signed", Str.ofString "divide_step", Str.ofString "BY_K_group3", Str.ofString "act_of_group_3",
  Str.ofString "AMOUNTS", Str.ofString "double", Str.ofString "halve", Str.ofString "halve_signed", Str.ofString "turn_left",
  Str.ofString "turn_right", Str.ofString "turn_left_through_t", Str.ofString "turn_right_through_t", Str.ofString "shift_left",
  Str.ofString "shift_right", Str.ofString "count_down", Str.ofString "is_at_least_zero", Str.ofString "is_above_zero", Str.ofString "which_of",
  Str.ofString "store_which", Str.ofString "load_which", Str.ofString "take_which", Str.ofString "claim_byte", Str.ofString "BY_I_group4",
  Str.ofString "act_of_group_4", Str.ofString "load_at", Str.ofString "load_and_pass", Str.ofString "move", Str.ofString "turn_bits",
  Str.ofString "exchange_bytes", Str.ofString "exchange_halves", Str.ofString "negate", Str.ofString "negate_with_t", Str.ofString "lowest_byte",
  Str.ofString "lower_half", Str.ofString "lowest_byte_signed", Str.ofString "lower_half_signed", Str.ofString "BY_K_group6",
  Str.ofString "act_of_group_6", Str.ofString "place_near", Str.ofString "store_near", Str.ofString "load_near", Str.ofString "is_number",
  Str.ofString "BY_N_group8", Str.ofString "act_of_group_8", Str.ofString "place_by_base", Str.ofString "store_by_base", Str.ofString "load_by_base",
  Str.ofString "combined", Str.ofString "has_no_bit_of", Str.ofString "combine", Str.ofString "byte_place", Str.ofString "byte_has_no_bit_of",
  Str.ofString "combine_byte", Str.ofString "BY_N_groupc", Str.ofString "act_of_group_c", Str.ofString "store_with_offset",
  Str.ofString "load_with_offset", Str.ofString "add_number", Str.ofString "take_number", Str.ofString "BY_GROUP_groups157e",
  Str.ofString "act_of_whole_group", Str.ofString "free_act", Str.ofString "meaning", Str.ofString "step", Str.ofString "do_steps",
  Str.ofString "changed_bytes", Str.ofString "run", Str.ofString "RESET", Str.ofString "SET", Str.ofString "GET", Str.ofString "REFUSED",
  Str.ofString "MOST_STEPS", Str.ofString "answer_set", Str.ofString "answer_get", Str.ofString "answer_run"]
theorem chains_ok : chainsOk q = true := by decide +kernel
theorem opens_ok : opensWell PySem.Challenge.rw_slotchip_s01_answers.prog = true := by decide +kernel
theorem bare_ok : PySem.Challenge.rw_slotchip_s01_answers.prog.bare := ⟨rfl, rfl, rfl, rfl, rfl, by decide +kernel⟩
theorem head_of {d : DefRec} (hdef : defOf q PySem.Challenge.rw_slotchip_s01_answers.name = some (d, [])) (hp : PySem.Challenge.rw_slotchip_s01_answers.prog.theDef PySem.Challenge.rw_slotchip_s01_answers.name = some (d.params, d.body, d.scope))
    (hk : kwWritten? d.params.kwonlyargs d.params.kw_defaults = some []) (H : Hook) (N : Nat)
    (left : LeftO PySem.Challenge.rw_slotchip_s01_answers.prog q loose (fun s => xlAt q [] s && recOk [] s) (Hook.obs H) (Hook.val H) N)
    (hw : ∃ args, PySem.Challenge.rw_slotchip_s01_answers.pre args = true ∧ WData.layableAll args = true)
    (call : WalkOS q loose (XL q []) (Hook.says H) PySem.Challenge.rw_slotchip_s01_answers d [] fun f vs => PySem.call f vs) : PySem.Challenge.rw_slotchip_s01_answers.Holds :=
  holds_os left (Hook.of H) (Hook.keeps H) (fun s e => xl_of s (Bool.and_eq_true_iff.mp e).1) XL.keeps hdef hp hk (fun _ e => recFacts_of (Bool.and_eq_true_iff.mp e).2) os_shapes said_ok (look_both chains_ok opens_ok) bare_ok hw call
end
end Sh
section
open PySem PySem.W PyProof.Rows
local macro_rules | `(tactic| o_law) => `(tactic| skip)
local macro_rules | `(tactic| k_head) => `(tactic| k_headS)
local macro_rules | `(tactic| w_witness2) => `(tactic| exact ⟨[.list [.int 0]], by decide +kernel, by decide +kernel⟩)
local macro_rules
  | `(tactic| refine $_:ident ($_:ident := $_) ($_:ident := $_) ($_:ident := $_) ($_:ident := $_) ($_:ident := $_:ident $H) ($_:ident := $_) ($_:ident := $_) ($_:ident := $t8) $_*) => do
    let (hl, hw, hc) := (Lean.mkIdent `hl, Lean.mkIdent `hw, Lean.mkIdent `hc)
    `(tactic| refine' Sh.head_of (by rfl) (by rfl) (by rfl) $H $t8 ?$hl:ident ?$hw:ident ?$hc:ident)
set_option maxHeartbeats 0
open_top Sh.head for PySem.Challenge.rw_slotchip_s01_answers
end
namespace L2
open PySem PySem.Spec PyProof.Rows
inductive V where
  | non | bl (b : Bool) | int (i : Int) | str (x : Str) | byt (b : Array UInt8) | flt (b : UInt64) | ref (a : Addr) | ty (n : String)
  deriving DecidableEq
end L2
namespace L2
open PySem PySem.Spec PyProof.Rows
structure Meth (K : PySem.W.Frag) (C : Addr) (m : Str) (f : Addr) : Prop where
  at_ : PySem.W.findIn K (.ref C) m = some (some (.ref f))
  fn : PySem.W.isFn K (.ref f) = true
  kp : PySem.W.keepIn K (.ref f) = true
end L2
namespace L2
open PySem PySem.Spec PyProof.Rows
def inClass (s : Stmt) (j : Nat) : Stmt := match s with
  | .ClassDef _ _ _ body _ _ _ _ _ _ _ => body.getD j (.Pass ⟨0, 0, 0, 0⟩)
  | _ => .Pass ⟨0, 0, 0, 0⟩
def defArgs (s : Stmt) : Arguments := match s with
  | .FunctionDef _ a _ _ _ _ _ _ _ _ => a
  | _ => { posonlyargs := [], args := [], vararg := none, kwonlyargs := [], kw_defaults := [], kwarg := none, defaults := [] }
def defBody (s : Stmt) : List Stmt := match s with
  | .FunctionDef _ _ b _ _ _ _ _ _ _ => b
  | _ => []
def defScope (s : Stmt) : Scope := match s with
  | .FunctionDef _ _ _ _ _ _ sc _ _ _ => sc
  | _ => { kind := .function, names := [], isGenerator := false, isCoroutine := false }
structure Fun (K : PySem.W.Frag) (x qual : Str) (st : Stmt) (f : Addr) (fd : FuncData) : Prop where
  ex : ∃ (oc : Value) (od : Option Addr) (kV doc pm : Value) (an : Option Addr) (cdv ct : Value) (osl : Array (Option Value)),
    fd = PySem.W.fnOf x qual (defArgs st) (defBody st) (defScope st) .none kV doc pm an cdv ct ∧ K.lookup f = some ⟨oc, od, .func fd, osl⟩ ∧ PySem.W.codeIn K cdv qual = true
  kp : PySem.W.keepIn K (.ref f) = true
section
variable {P : Program} {w : World} {K : PySem.W.Frag} {mg : Str → Option Value} {base : Heap}
theorem fun_mk {x qual : Str} {st : Stmt} {f : Addr} {oc : Value} {od an : Option Addr} {osl : Array (Option Value)} {kV doc pm cdv ct : Value} (l : K.lookup f = some ⟨oc, od, .func (PySem.W.fnOf x qual (defArgs st) (defBody st) (defScope st) .none kV doc pm an cdv ct), osl⟩)
    (c : PySem.W.codeIn K cdv qual = true) (k : PySem.W.keepIn K (.ref f) = true) : Fun K x qual st f (PySem.W.fnOf x qual (defArgs st) (defBody st) (defScope st) .none kV doc pm an cdv ct) := ⟨⟨oc, od, kV, doc, pm, an, cdv, ct, osl, rfl, l, c⟩, k⟩
end
end L2
namespace Sh
inductive Ac where
  | jump_by_register | call_by_register | come_back | come_back_with_status | jump_to_register | call_to_register | leap_where_1 | leap_where_0 | jump_where_1 | jump_where_0
  | jump_by_number | call_by_number | load_word | load_long | call_system | tell_place | add_long_product | add_word_product
  | store_indexed | load_indexed | multiply | read_control | read_system | read_t | clear_t | raise_t | clear_sum | do_nothing | begin_unsigned_division | sleep
  | store_at | store_below | begin_signed_division | have_no_bit_in_common | bits_of_both | bits_of_one | bits_of_either | have_same_byte | join_halves | multiply_halves | multiply_signed_halves
  | is_same | is_at_least | is_above | is_at_least_signed | is_above_signed | subtract | add | subtract_with_t | add_with_t | subtract_signed | add_signed | multiply_whole | multiply_whole_signed | divide_step
  | double | halve | halve_signed | turn_left | turn_right | turn_left_through_t | turn_right_through_t | shift_left | shift_right | count_down | is_at_least_zero | is_above_zero | store_which | load_which | take_which | claim_byte
  | load_at | load_and_pass | move | turn_bits | exchange_bytes | exchange_halves | negate | negate_with_t | lowest_byte | lower_half | lowest_byte_signed | lower_half_signed
  | store_near | load_near | is_number | store_by_base | load_by_base | has_no_bit_of | combine | byte_has_no_bit_of | combine_byte | store_with_offset | load_with_offset | add_number | take_number
  deriving DecidableEq
end Sh
namespace Sh
open PySem PyProof.Rows L2
structure Xs where
  ni : Addr
  bj : Addr
  nm : Addr
  nw : Addr
end Sh
namespace Sh
open PySem PyProof.Rows L2
def top (i : Nat) : Stmt := PySem.Challenge.pw_slotchip_s01_answers.main.body.getD i (.Pass ⟨0, 0, 0, 0⟩)
abbrev mth (j : Nat) : Stmt := inClass (top 17) j
abbrev bmE : List Value := [.type "Exception", .type "BaseException", .type "object"]
structure XT (K : PySem.W.Frag) (xs : Xs) : Prop where
  ni : PySem.W.nsIn K mainGlobals "NoInstruction" = some (some (.ref xs.ni))
  bj : PySem.W.nsIn K mainGlobals "BehindJump" = some (some (.ref xs.bj))
  nm : PySem.W.nsIn K mainGlobals "NotMultiple" = some (some (.ref xs.nm))
  nw : PySem.W.nsIn K mainGlobals "NotWithin" = some (some (.ref xs.nw))
  xni : PySem.W.excIn K xs.ni bmE "Exception.__new__" = true
  xbj : PySem.W.excIn K xs.bj bmE "Exception.__new__" = true
  xnm : PySem.W.excIn K xs.nm bmE "Exception.__new__" = true
  xnw : PySem.W.excIn K xs.nw bmE "Exception.__new__" = true
end Sh
namespace Sh
open PySem PyProof.Rows L2
abbrev lBG : List (Int × Ac) := [(9, .load_word), (10, .jump_by_number), (11, .call_by_number), (13, .load_long)]
abbrev lBI0 : List (Int × Ac) := [(3, .call_by_register), (35, .jump_by_register)]
abbrev lBN0 : List (Int × Ac) := [(11, .come_back), (43, .come_back_with_status)]
abbrev lBI4 : List (Int × Ac) := [(11, .call_to_register), (43, .jump_to_register)]
abbrev lBN8 : List (Int × Ac) := [(9, .leap_where_1), (11, .leap_where_0), (13, .jump_where_1), (15, .jump_where_0)]
abbrev lBNC : List (Int × Ac) := [(3, .call_system), (7, .tell_place)]
abbrev lK0 : List (Int × Ac) := [(4, .store_indexed), (5, .store_indexed), (6, .store_indexed), (7, .multiply), (12, .load_indexed), (13, .load_indexed), (14, .load_indexed)]
abbrev lI0 : List (Int × Ac) := [(2, .read_control), (18, .read_control), (34, .read_control), (10, .read_system), (26, .read_system), (42, .read_system), (41, .read_t)]
abbrev lN0 : List (Int × Ac) := [(8, .clear_t), (24, .raise_t), (40, .clear_sum), (9, .do_nothing), (25, .begin_unsigned_division), (27, .sleep)]
abbrev l2 : List (Int × Ac) := [(0, .store_at), (1, .store_at), (2, .store_at), (4, .store_below), (5, .store_below), (6, .store_below), (7, .begin_signed_division), (8, .have_no_bit_in_common), (9, .bits_of_both), (10, .bits_of_one), (11, .bits_of_either), (12, .have_same_byte), (13, .join_halves), (14, .multiply_halves), (15, .multiply_signed_halves)]
abbrev l3 : List (Int × Ac) := [(0, .is_same), (2, .is_at_least), (3, .is_at_least_signed), (4, .divide_step), (5, .multiply_whole), (6, .is_above), (7, .is_above_signed), (8, .subtract), (10, .subtract_with_t), (11, .subtract_signed), (12, .add), (13, .multiply_whole_signed), (14, .add_with_t), (15, .add_signed)]
abbrev l4 : List (Int × Ac) := [(0, .double), (32, .double), (1, .halve), (33, .halve_signed), (4, .turn_left), (5, .turn_right), (36, .turn_left_through_t), (37, .turn_right_through_t), (8, .shift_left), (24, .shift_left), (40, .shift_left), (9, .shift_right), (25, .shift_right), (41, .shift_right), (16, .count_down), (17, .is_at_least_zero), (21, .is_above_zero),
  (2, .store_which), (18, .store_which), (34, .store_which), (3, .store_which), (19, .store_which), (35, .store_which), (6, .load_which), (22, .load_which), (38, .load_which), (7, .load_which), (23, .load_which), (39, .load_which), (10, .take_which), (26, .take_which), (42, .take_which), (14, .take_which), (30, .take_which), (46, .take_which), (27, .claim_byte)]
abbrev l6 : List Ac := [.load_at, .load_at, .load_at, .move, .load_and_pass, .load_and_pass, .load_and_pass, .turn_bits, .exchange_bytes, .exchange_halves, .negate_with_t, .negate, .lowest_byte, .lower_half, .lowest_byte_signed, .lower_half_signed]
abbrev l8 : List (Int × Ac) := [(0, .store_near), (1, .store_near), (4, .load_near), (5, .load_near), (8, .is_number)]
abbrev lC : List (Int × Ac) := [(0, .store_by_base), (1, .store_by_base), (2, .store_by_base), (4, .load_by_base), (5, .load_by_base), (6, .load_by_base), (8, .has_no_bit_of), (9, .combine), (10, .combine), (11, .combine), (12, .byte_has_no_bit_of), (13, .combine_byte), (14, .combine_byte), (15, .combine_byte)]
abbrev lW : List (Int × Ac) := [(1, .store_with_offset), (5, .load_with_offset), (7, .add_number), (14, .take_number)]
end Sh
namespace Sh
open PySem PyProof.Rows L2
structure XM (K : PySem.W.Frag) (xs : Xs) : Prop where
  e11 : PySem.W.exmOne K (.ref xs.ni) (.ref xs.ni) = some true
  e21 : PySem.W.exmOne K (.ref xs.bj) (.ref xs.ni) = some false
  e22 : PySem.W.exmOne K (.ref xs.bj) (.ref xs.bj) = some true
  e31 : PySem.W.exmOne K (.ref xs.nm) (.ref xs.ni) = some false
  e32 : PySem.W.exmOne K (.ref xs.nm) (.ref xs.bj) = some false
  e33 : PySem.W.exmOne K (.ref xs.nm) (.ref xs.nm) = some true
  e41 : PySem.W.exmOne K (.ref xs.nw) (.ref xs.ni) = some false
  e42 : PySem.W.exmOne K (.ref xs.nw) (.ref xs.bj) = some false
  e43 : PySem.W.exmOne K (.ref xs.nw) (.ref xs.nm) = some false
  e44 : PySem.W.exmOne K (.ref xs.nw) (.ref xs.nw) = some true
end Sh
set_option maxHeartbeats 0
namespace Sh
open PySem PyProof.Rows L2
structure FA (K : PySem.W.Frag) (x : Str) (i : Nat) (f : Addr) : Prop where
  n : PySem.W.nsIn K mainGlobals x = some (some (.ref f))
  g : ∃ fd, Fun K x x (top i) f fd
structure MA (K : PySem.W.Frag) (C : Addr) (m q : Str) (j : Nat) (f : Addr) : Prop where
  n : Meth K C m f
  g : ∃ fd, Fun K m q (mth j) f fd
section
variable {K : PySem.W.Frag} {x q : Str} {i : Nat} {f C a : Addr} {oc : Value} {od an : Option Addr} {osl : Array (Option Value)} {kV doc pm cdv ct : Value} {es : Array DictEntry} {ep : Nat} {its : Array Value} {n : Nat} {tk : Tok} {z : Int}
theorem fa_mk (e1 : PySem.W.nsIn K mainGlobals x = some (some (.ref f))) (e2 : K.lookup f = some ⟨oc, od, .func (PySem.W.fnOf x x (defArgs (top i)) (defBody (top i)) (defScope (top i)) .none kV doc pm an cdv ct), osl⟩)
    (e3 : PySem.W.codeIn K cdv x = true) (e4 : PySem.W.keepIn K (.ref f) = true) : FA K x i f := ⟨e1, _, fun_mk e2 e3 e4⟩
theorem ma_mk (e1 : PySem.W.findIn K (.ref C) x = some (some (.ref f))) (e2 : K.lookup f = some ⟨oc, od, .func (PySem.W.fnOf x q (defArgs (mth i)) (defBody (mth i)) (defScope (mth i)) .none kV doc pm an cdv ct), osl⟩)
    (e3 : PySem.W.codeIn K cdv q = true) (e4 : PySem.W.keepIn K (.ref f) = true) (e5 : PySem.W.isFn K (.ref f) = true) : MA K C x q i f := ⟨⟨e1, e5, e4⟩, _, fun_mk e2 e3 e4⟩
def NA (K : PySem.W.Frag) (x : Str) (z : Int) : Prop := ∃ t, PySem.W.nsIn K mainGlobals x = some (some (.int z t))
theorem na_mk (e1 : PySem.W.nsIn K mainGlobals x = some (some (.int z tk))) : NA K x z := ⟨_, e1⟩
def entB : List (Int × Addr) → List DictEntry → Bool
  | [], [] => true
  | (i, f) :: r, e :: es => (match e.key with | .int j _ => j == i | _ => false) && (e.hash == hashInt i) && (match e.val with | .ref g => g == f | _ => false) && entB r es
  | _, _ => false
def TB (K : PySem.W.Frag) (x : Str) (tab : List (Int × Addr)) : Prop := ∃ (a : Addr) (es : Array DictEntry) (ep : Nat), PySem.W.nsIn K mainGlobals x = some (some (.ref a)) ∧ K.lookup a = some ⟨.type "dict", none, .dict es ep, #[]⟩ ∧ entB tab es.toList = true ∧ (a == sysModules) = false
theorem tb_mk {tab : List (Int × Addr)} (e1 : PySem.W.nsIn K mainGlobals x = some (some (.ref a))) (e2 : K.lookup a = some ⟨.type "dict", none, .dict es ep, #[]⟩) (e3 : entB tab es.toList = true) (e4 : (a == sysModules) = false) : TB K x tab := ⟨_, _, _, e1, e2, e3, e4⟩
def valB : List V → List Value → Bool
  | [], [] => true
  | .int i :: r, .int j _ :: us => (i == j) && valB r us
  | .ref f :: r, .ref g :: us => (f == g) && valB r us
  | _, _ => false
def TuAt (K : PySem.W.Frag) (x : Str) (xs : List V) : Prop := ∃ (a : Addr) (od : Option Addr) (its : Array Value) (n : Nat) (osl : Array (Option Value)), PySem.W.nsIn K mainGlobals x = some (some (.ref a)) ∧ K.lookup a = some ⟨.type "tuple", od, .seq its n, osl⟩ ∧ valB xs its.toList = true
theorem tt_mk {xs : List V} (e1 : PySem.W.nsIn K mainGlobals x = some (some (.ref a))) (e2 : K.lookup a = some ⟨.type "tuple", od, .seq its n, osl⟩) (e3 : valB xs its.toList = true) : TuAt K x xs := ⟨_, _, _, _, _, e1, e2, e3⟩
end
def adr : Ac → Addr
  | .jump_by_register => 171
  | .call_by_register => 178
  | .come_back => 185
  | .come_back_with_status => 192
  | .jump_to_register => 199
  | .call_to_register => 206
  | .leap_where_1 => 220
  | .leap_where_0 => 227
  | .jump_where_1 => 234
  | .jump_where_0 => 241
  | .jump_by_number => 248
  | .call_by_number => 255
  | .load_word => 262
  | .load_long => 269
  | .call_system => 276
  | .tell_place => 283
  | .add_long_product => 324
  | .add_word_product => 331
  | .store_indexed => 345
  | .load_indexed => 352
  | .multiply => 359
  | .read_control => 366
  | .read_system => 373
  | .read_t => 380
  | .clear_t => 387
  | .raise_t => 394
  | .clear_sum => 401
  | .do_nothing => 408
  | .begin_unsigned_division => 415
  | .sleep => 422
  | .store_at => 439
  | .store_below => 446
  | .begin_signed_division => 453
  | .have_no_bit_in_common => 460
  | .bits_of_both => 467
  | .bits_of_one => 474
  | .bits_of_either => 481
  | .have_same_byte => 486
  | .join_halves => 493
  | .multiply_halves => 500
  | .multiply_signed_halves => 507
  | .is_same => 522
  | .is_at_least => 529
  | .is_above => 536
  | .is_at_least_signed => 543
  | .is_above_signed => 550
  | .subtract => 557
  | .add => 564
  | .subtract_with_t => 571
  | .add_with_t => 578
  | .subtract_signed => 592
  | .add_signed => 599
  | .multiply_whole => 613
  | .multiply_whole_signed => 620
  | .divide_step => 627
  | .double => 643
  | .halve => 650
  | .halve_signed => 657
  | .turn_left => 664
  | .turn_right => 671
  | .turn_left_through_t => 678
  | .turn_right_through_t => 685
  | .shift_left => 692
  | .shift_right => 699
  | .count_down => 706
  | .is_at_least_zero => 713
  | .is_above_zero => 720
  | .store_which => 734
  | .load_which => 741
  | .take_which => 748
  | .claim_byte => 755
  | .load_at => 772
  | .load_and_pass => 779
  | .move => 786
  | .turn_bits => 793
  | .exchange_bytes => 800
  | .exchange_halves => 807
  | .negate => 814
  | .negate_with_t => 821
  | .lowest_byte => 828
  | .lower_half => 835
  | .lowest_byte_signed => 842
  | .lower_half_signed => 849
  | .store_near => 871
  | .load_near => 878
  | .is_number => 885
  | .store_by_base => 907
  | .load_by_base => 914
  | .has_no_bit_of => 928
  | .combine => 935
  | .byte_has_no_bit_of => 949
  | .combine_byte => 956
  | .store_with_offset => 971
  | .load_with_offset => 978
  | .add_number => 985
  | .take_number => 992
def xsr : Xs := ⟨38, 51, 64, 77⟩
structure FactsA (K : PySem.W.Frag) : Prop where
  f_jump_by_register : FA K "jump_by_register" 21 171
  f_call_by_register : FA K "call_by_register" 22 178
  f_come_back : FA K "come_back" 23 185
  f_come_back_with_status : FA K "come_back_with_status" 24 192
  f_jump_to_register : FA K "jump_to_register" 25 199
  f_call_to_register : FA K "call_to_register" 26 206
  f_leap_where_1 : FA K "leap_where_1" 28 220
  f_leap_where_0 : FA K "leap_where_0" 29 227
  f_jump_where_1 : FA K "jump_where_1" 30 234
  f_jump_where_0 : FA K "jump_where_0" 31 241
  f_jump_by_number : FA K "jump_by_number" 32 248
  f_call_by_number : FA K "call_by_number" 33 255
  f_load_word : FA K "load_word" 34 262
  f_load_long : FA K "load_long" 35 269
  f_call_system : FA K "call_system" 36 276
  f_tell_place : FA K "tell_place" 37 283
  f_add_long_product : FA K "add_long_product" 49 324
  f_add_word_product : FA K "add_word_product" 50 331
  f_store_indexed : FA K "store_indexed" 53 345
  f_load_indexed : FA K "load_indexed" 54 352
  f_multiply : FA K "multiply" 55 359
  f_read_control : FA K "read_control" 56 366
  f_read_system : FA K "read_system" 57 373
  f_read_t : FA K "read_t" 58 380
  f_clear_t : FA K "clear_t" 59 387
  f_raise_t : FA K "raise_t" 60 394
  f_clear_sum : FA K "clear_sum" 61 401
  f_do_nothing : FA K "do_nothing" 62 408
  f_begin_unsigned_division : FA K "begin_unsigned_division" 63 415
  f_sleep : FA K "sleep" 64 422
  f_store_at : FA K "store_at" 70 439
  f_store_below : FA K "store_below" 71 446
  f_begin_signed_division : FA K "begin_signed_division" 72 453
  f_have_no_bit_in_common : FA K "have_no_bit_in_common" 73 460
  f_bits_of_both : FA K "bits_of_both" 74 467
  f_bits_of_one : FA K "bits_of_one" 75 474
  f_bits_of_either : FA K "bits_of_either" 76 481
  f_have_same_byte : FA K "have_same_byte" 77 486
  f_join_halves : FA K "join_halves" 78 493
  f_multiply_halves : FA K "multiply_halves" 79 500
  f_multiply_signed_halves : FA K "multiply_signed_halves" 80 507
  f_is_same : FA K "is_same" 84 522
  f_is_at_least : FA K "is_at_least" 85 529
  f_is_above : FA K "is_above" 86 536
  f_is_at_least_signed : FA K "is_at_least_signed" 87 543
  f_is_above_signed : FA K "is_above_signed" 88 550
  f_subtract : FA K "subtract" 89 557
  f_add : FA K "add" 90 564
  f_subtract_with_t : FA K "subtract_with_t" 91 571
  f_add_with_t : FA K "add_with_t" 92 578
  f_subtract_signed : FA K "subtract_signed" 94 592
  f_add_signed : FA K "add_signed" 95 599
  f_multiply_whole : FA K "multiply_whole" 97 613
  f_multiply_whole_signed : FA K "multiply_whole_signed" 98 620
  f_divide_step : FA K "divide_step" 99 627
  f_double : FA K "double" 104 643
  f_halve : FA K "halve" 105 650
  f_halve_signed : FA K "halve_signed" 106 657
  f_turn_left : FA K "turn_left" 107 664
  f_turn_right : FA K "turn_right" 108 671
  f_turn_left_through_t : FA K "turn_left_through_t" 109 678
  f_turn_right_through_t : FA K "turn_right_through_t" 110 685
  f_shift_left : FA K "shift_left" 111 692
  f_shift_right : FA K "shift_right" 112 699
  f_count_down : FA K "count_down" 113 706
  f_is_at_least_zero : FA K "is_at_least_zero" 114 713
  f_is_above_zero : FA K "is_above_zero" 115 720
  f_store_which : FA K "store_which" 117 734
  f_load_which : FA K "load_which" 118 741
  f_take_which : FA K "take_which" 119 748
  f_claim_byte : FA K "claim_byte" 120 755
  f_load_at : FA K "load_at" 124 772
  f_load_and_pass : FA K "load_and_pass" 125 779
  f_move : FA K "move" 126 786
  f_turn_bits : FA K "turn_bits" 127 793
  f_exchange_bytes : FA K "exchange_bytes" 128 800
  f_exchange_halves : FA K "exchange_halves" 129 807
  f_negate : FA K "negate" 130 814
  f_negate_with_t : FA K "negate_with_t" 131 821
  f_lowest_byte : FA K "lowest_byte" 132 828
  f_lower_half : FA K "lower_half" 133 835
  f_lowest_byte_signed : FA K "lowest_byte_signed" 134 842
  f_lower_half_signed : FA K "lower_half_signed" 135 849
  f_store_near : FA K "store_near" 140 871
  f_load_near : FA K "load_near" 141 878
  f_is_number : FA K "is_number" 142 885
  f_store_by_base : FA K "store_by_base" 147 907
  f_load_by_base : FA K "load_by_base" 148 914
  f_has_no_bit_of : FA K "has_no_bit_of" 150 928
  f_combine : FA K "combine" 151 935
  f_byte_has_no_bit_of : FA K "byte_has_no_bit_of" 153 949
  f_combine_byte : FA K "combine_byte" 154 956
  f_store_with_offset : FA K "store_with_offset" 158 971
  f_load_with_offset : FA K "load_with_offset" 159 978
  f_add_number : FA K "add_number" 160 985
  f_take_number : FA K "take_number" 161 992
structure FactsF (K : PySem.W.Frag) : Prop where
  f_signed : FA K "signed" 3 21
  f_clamped : FA K "clamped" 4 28
  f_base : FA K "base" 19 157
  f_long_base : FA K "long_base" 20 164
  f_short_target : FA K "short_target" 27 213
  f_read_sum : FA K "read_sum" 47 310
  f_write_sum : FA K "write_sum" 48 317
  f_keep_product : FA K "keep_product" 96 606
  f_place_near : FA K "place_near" 139 864
  f_place_by_base : FA K "place_by_base" 146 900
  f_byte_place : FA K "byte_place" 152 942
  f_combined : FA K "combined" 149 921
  f_keep_signed : FA K "keep_signed" 93 585
  f_which_of : FA K "which_of" 116 727
  f_next_product : FA K "next_product" 46 303
  f_add_to_lower_half : FA K "add_to_lower_half" 51 338
  f_bound_act : FA K "bound_act" 44 296
  f_act_of_group_0 : FA K "act_of_group_0" 68 432
  f_act_of_group_2 : FA K "act_of_group_2" 82 515
  f_act_of_group_3 : FA K "act_of_group_3" 101 635
  f_act_of_group_4 : FA K "act_of_group_4" 122 765
  f_act_of_group_6 : FA K "act_of_group_6" 137 857
  f_act_of_group_8 : FA K "act_of_group_8" 144 893
  f_act_of_group_c : FA K "act_of_group_c" 156 964
  f_act_of_whole_group : FA K "act_of_whole_group" 163 1000
  f_free_act : FA K "free_act" 165 1007
  f_meaning : FA K "meaning" 166 1014
  f_step : FA K "step" 168 1021
  f_do_steps : FA K "do_steps" 169 1028
  f_changed_bytes : FA K "changed_bytes" 170 1035
  f_run : FA K "run" 171 1042
  f_answer_set : FA K "answer_set" 178 1049
  f_answer_get : FA K "answer_get" 179 1056
  f_answer_run : FA K "answer_run" 180 1063
  f_answers : FA K "answers" 181 1070
structure FactsM (K : PySem.W.Frag) : Prop where
  m_check : MA K 146 "check" "Machine.check" 5 129
  m_load : MA K 146 "load" "Machine.load" 6 136
  m_store : MA K 146 "store" "Machine.store" 7 143
  m_read : MA K 146 "read" "Machine.read" 1 101
  m_write_status : MA K 146 "write_status" "Machine.write_status" 3 115
  m_write : MA K 146 "write" "Machine.write" 2 108
  m_begin : MA K 146 "begin" "Machine.begin" 4 122
  m___init__ : MA K 146 "__init__" "Machine.__init__" 0 94
structure FactsN (K : PySem.W.Frag) : Prop where
  n_MASK : NA K "MASK" 4294967295
  n_MASK_64 : NA K "MASK_64" 18446744073709551615
  n_SIZE : NA K "SIZE" 65536
  n_STATUS : NA K "STATUS" 16
  n_GBR : NA K "GBR" 17
  n_MACH : NA K "MACH" 19
  n_MACL : NA K "MACL" 20
  n_PR : NA K "PR" 21
  n_PLACE : NA K "PLACE" 22
  n_RESET : NA K "RESET" 0
  n_SET : NA K "SET" 1
  n_GET : NA K "GET" 2
  n_REFUSED : NA K "REFUSED" (-2)
  n_MOST_STEPS : NA K "MOST_STEPS" 1000000
structure FactsB (K : PySem.W.Frag) : Prop where
  b_len : PySem.W.nsIn K mainGlobals "len" = some none
  b_max : PySem.W.nsIn K mainGlobals "max" = some none
  b_min : PySem.W.nsIn K mainGlobals "min" = some none
  b_any : PySem.W.nsIn K mainGlobals "any" = some none
  b_sorted : PySem.W.nsIn K mainGlobals "sorted" = some none
  b_range : PySem.W.nsIn K mainGlobals "range" = some none
structure FactsC (K : PySem.W.Frag) : Prop where
  nC : PySem.W.nsIn K mainGlobals "Machine" = some (some (.ref 146))
  pg : PySem.W.plainGet K 146 Str.empty = true
  hd : PySem.W.hasDictIn K 146 = true
  po : PySem.W.plainOver K 146 = true
  sa : PySem.W.findIn K (.ref 146) "__setattr__" = some (some (.builtin "object.__setattr__"))
  mks : PySem.W.makesIn K 146 = true
  kp : PySem.W.keepIn K (.ref 146) = true
  nRegs : PySem.W.findIn K (.ref 146) "regs" = some none
  nT : PySem.W.findIn K (.ref 146) "t" = some none
  nS : PySem.W.findIn K (.ref 146) "s" = some none
  nQ : PySem.W.findIn K (.ref 146) "q" = some none
  nM : PySem.W.findIn K (.ref 146) "m" = some none
  nMask : PySem.W.findIn K (.ref 146) "mask" = some none
  nPlace : PySem.W.findIn K (.ref 146) "place" = some none
  nFollow : PySem.W.findIn K (.ref 146) "follow" = some none
  nWait : PySem.W.findIn K (.ref 146) "waiting" = some none
  nWhy : PySem.W.findIn K (.ref 146) "why" = some none
  nMem : PySem.W.findIn K (.ref 146) "memory" = some none
  nTd : PySem.W.findIn K (.ref 146) "touched" = some none
  nKn : PySem.W.findIn K (.ref 146) "known" = some none
  xt : XT K xsr
  xm : XM K xsr
structure FactsT (K : PySem.W.Frag) : Prop where
  bg : TB K "BY_GROUP_bound" (lBG.map fun p => (p.1, adr p.2))
  bi0 : TB K "BY_I_IN_0" (lBI0.map fun p => (p.1, adr p.2))
  bn0 : TB K "WHERE_N_IS_0_IN_0" (lBN0.map fun p => (p.1, adr p.2))
  bi4 : TB K "BY_I_IN_4" (lBI4.map fun p => (p.1, adr p.2))
  bn8 : TB K "BY_N_IN_8" (lBN8.map fun p => (p.1, adr p.2))
  bnc : TB K "BY_N_IN_C" (lBNC.map fun p => (p.1, adr p.2))
  k0 : TB K "BY_K_group0" (lK0.map fun p => (p.1, adr p.2))
  i0 : TB K "BY_I_group0" (lI0.map fun p => (p.1, adr p.2))
  n0 : TB K "WHERE_N_IS_0" (lN0.map fun p => (p.1, adr p.2))
  t2 : TB K "BY_K_group2" (l2.map fun p => (p.1, adr p.2))
  t3 : TB K "BY_K_group3" (l3.map fun p => (p.1, adr p.2))
  t4 : TB K "BY_I_group4" (l4.map fun p => (p.1, adr p.2))
  t8 : TB K "BY_N_group8" (l8.map fun p => (p.1, adr p.2))
  tc : TB K "BY_N_groupc" (lC.map fun p => (p.1, adr p.2))
  tw : TB K "BY_GROUP_groups157e" (lW.map fun p => (p.1, adr p.2))
  t6 : TuAt K "BY_K_group6" (l6.map fun c => V.ref (adr c))
  am : TuAt K "AMOUNTS" [.int 2, .int 8, .int 16]
end Sh
namespace L2
open PySem PySem.Spec PyProof.Rows
abbrev Key := Sum Int Str
def keyIs : Key → Value → Bool
  | .inl k, v => Value.isInt k v
  | .inr x, v => Value.isStrOf x v
def keyH (w : World) : Key → Int
  | .inl k => hashInt k
  | .inr x => hashStr w x
theorem keyIs_shape : ∀ {k : Key} {v : Value}, keyIs k v = true → (∃ i t, k = Sum.inl i ∧ v = Value.int i t) ∨ (∃ x t, k = Sum.inr x ∧ v = Value.str x t)
  | .inl i, v, h => by
    obtain ⟨t, e⟩ := Value.isInt_shape (k := i) (v := v) h
    exact .inl ⟨i, t, rfl, e⟩
  | .inr x, v, h => by
    obtain ⟨t, e⟩ := Value.isStrOf_shape (x := x) (v := v) h
    exact .inr ⟨x, t, rfl, e⟩
theorem keyIs_int (i : Int) (t : Tok) : keyIs (.inl i) (.int i t) = true := by simp [keyIs, Value.isInt]
theorem keyIs_str (x : Str) (t : Tok) : keyIs (.inr x) (.str x t) = true := by simp [keyIs, Value.isStrOf]
theorem key_ll (a b : Int) : decide ((Sum.inl a : Key) = Sum.inl b) = (a == b) := by
  by_cases e : a = b
  · subst e; simp
  · have h : ¬ (Sum.inl a : Key) = Sum.inl b := fun q => e (Sum.inl.inj q)
    rw [decide_eq_false h]
    exact (beq_eq_false_iff_ne.mpr e).symm
theorem key_rr (a b : Str) : decide ((Sum.inr a : Key) = Sum.inr b) = decide (a = b) := by
  by_cases e : a = b
  · subst e; simp
  · have h : ¬ (Sum.inr a : Key) = Sum.inr b := fun q => e (Sum.inr.inj q)
    rw [decide_eq_false h, decide_eq_false e]
theorem key_lr (a : Int) (b : Str) : decide ((Sum.inl a : Key) = Sum.inr b) = false := decide_eq_false (fun q => nomatch q)
theorem key_rl (a : Str) (b : Int) : decide ((Sum.inr a : Key) = Sum.inl b) = false := decide_eq_false (fun q => nomatch q)
def mixKind (prog : Program) (w : World) : PySem.KeyKind prog w Key where
  is := keyIs
  hash := keyH w
  inj := fun v a b ha hb => by
    rcases keyIs_shape ha with ⟨i, t, rfl, rfl⟩ | ⟨x, t, rfl, rfl⟩
    · rcases keyIs_shape hb with ⟨j, u, rfl, e⟩ | ⟨y, u, rfl, e⟩
      · injection e with e1 _; rw [e1]
      · exact nomatch e
    · rcases keyIs_shape hb with ⟨j, u, rfl, e⟩ | ⟨y, u, rfl, e⟩
      · exact nomatch e
      · injection e with e1 _; rw [e1]
  byValue := fun k v h => by
    rcases keyIs_shape h with ⟨i, t, rfl, rfl⟩ | ⟨x, t, rfl, rfl⟩ <;> rfl
  pyHash := fun hv h => by
    rcases keyIs_shape hv with ⟨i, t, rfl, rfl⟩ | ⟨x, t, rfl, rfl⟩
    · exact wpAny_pyHash_int h
    · exact wpAny_pyHash_str h
  eqBool := fun hu hv h => by
    rcases keyIs_shape hu with ⟨i, t, rfl, rfl⟩ | ⟨x, t, rfl, rfl⟩
    · rcases keyIs_shape hv with ⟨j, u, rfl, rfl⟩ | ⟨y, u, rfl, rfl⟩
      · rw [key_ll] at h; exact wpAny_eqBool_int h
      · rw [key_lr] at h; exact SeqAt.EqAt.int_str i t y u _ _ _ _ h
    · rcases keyIs_shape hv with ⟨j, u, rfl, rfl⟩ | ⟨y, u, rfl, rfl⟩
      · rw [key_rl] at h; exact SeqAt.EqAt.str_int x t j u _ _ _ _ h
      · rw [key_rr] at h; exact wpAny_eqBool_str h
  «strs» := fun k x t v h => by
    rcases keyIs_shape h with ⟨i, u, rfl, e⟩ | ⟨y, u, rfl, e⟩
    · exact nomatch e
    · injection e with e1 _
      subst e1
      cases v <;> rfl
theorem mixKind_int (prog : Program) (w : World) (i : Int) (t : Tok) : (mixKind prog w).is (.inl i) (.int i t) = true := keyIs_int i t
theorem mixKind_str (prog : Program) (w : World) (x : Str) (t : Tok) : (mixKind prog w).is (.inr x) (.str x t) = true := keyIs_str x t
end L2
namespace L2
open PySem PySem.Spec PyProof.Rows
def RelV : V → Value → Prop
  | .non, u => u = Value.none
  | .bl b, u => u = Value.bool b
  | .int i, u => ∃ t, u = Value.int i t
  | .str x, u => ∃ t, u = Value.str x t
  | .byt b, u => ∃ t, u = Value.bytes b t
  | .flt b, u => ∃ t, u = Value.float b t
  | .ref a, u => u = Value.ref a
  | .ty n, u => u = Value.type n
abbrev Vals : List V → List Value → Prop := Paired RelV
theorem Vals.length {xs : List V} {us : List Value} (r : Vals xs us) : xs.length = us.length := Paired.length r
theorem Vals.get : ∀ {xs : List V} {us : List Value} {i : Nat} {x : V}, Vals xs us → xs[i]? = some x → ∃ u, us[i]? = some u ∧ RelV x u
  | _, _, _, _, .nil, e => by simp at e
  | _, _, 0, _, .cons r _, e => by simp at e; subst e; exact ⟨_, rfl, r⟩
  | _, _, i + 1, x, .cons _ t, e => by
    obtain ⟨u, h1, h2⟩ := Vals.get (i := i) (x := x) t (by simpa using e)
    exact ⟨u, by simpa using h1, h2⟩
theorem Vals.set {x : V} {u : Value} (r : RelV x u) : ∀ {xs : List V} {us : List Value} (i : Nat), Vals xs us → Vals (xs.set i x) (us.set i u)
  | _, _, _, .nil => .nil
  | _, _, 0, .cons _ t => .cons r t
  | _, _, i + 1, .cons q t => .cons q (Vals.set r i t)
theorem Vals.append : ∀ {xs ys : List V} {us ws : List Value}, Vals xs us → Vals ys ws → Vals (xs ++ ys) (us ++ ws)
  | _, _, _, _, .nil, s => s
  | _, _, _, _, .cons r t, s => .cons r (Vals.append t s)
theorem Vals.take : ∀ {xs : List V} {us : List Value} (n : Nat), Vals xs us → Vals (xs.take n) (us.take n)
  | _, _, 0, _ => .nil
  | _, _, _ + 1, .nil => .nil
  | _, _, n + 1, .cons r t => .cons r (Vals.take n t)
theorem Vals.drop : ∀ {xs : List V} {us : List Value} (n : Nat), Vals xs us → Vals (xs.drop n) (us.drop n)
  | _, _, 0, r => r
  | _, _, _ + 1, .nil => .nil
  | _, _, n + 1, .cons _ t => Vals.drop n t
def RelO : Option V → Option Value → Prop
  | some v, some u => RelV v u
  | none, none => True
  | _, _ => False
def KV {κ : Type} : List (κ × V) → List (κ × Value) → Prop := Paired fun (p : κ × V) (q : κ × Value) => p.1 = q.1 ∧ RelV p.2 q.2
def kV : Key → V
  | .inl i => .int i
  | .inr x => .str x
inductive HO where
  /-- a list -/
  | lst (xs : List V)
  /-- a tuple (never changes) -/
  | tup (xs : List V)
  /-- a dict whose keys are ints and texts; one whose keys are tuples of ints and texts (the empty one is both) -/
  | dK (kvs : List (Key × V)) | dT (kvs : List (List Key × V))
  /-- a set of ints: its members, its size -/
  | set (S : Int → Bool) (n : Nat)
  /-- an instance of the class at C, its dict at dx, its attributes -/
  | ins (C dx : Addr) (fs : List (Str × V))
  /-- the dict of the instance at x -/
  | own (x : Addr)
  /-- the dict of an exception -/
  | xd (fs : List (Str × V))
  /-- a bound method, f of x -/
  | met (f x : Addr)
  /-- a range object lo, lo + 1, .. below hi -/
  | rng (lo hi : Int)
  /-- a thing that is known to the object (the script; a dict while a loop walks it): read, never written while it is so -/
  | frz (o : Obj) (u : HO)
  /-- a code object's table -/
  | tbl (ps : Array Value)
  /-- any other thing, by what is true of its one object (a def of one's own: SetO a S n := HO.ext fun h => ..) -/
  | ext (φ : Heap → Prop)
abbrev Hp := Addr → Option HO
def upd (H : Hp) (a : Addr) (o : HO) : Hp := fun b => if b = a then some o else H b
theorem upd_same {H : Hp} {a : Addr} {o : HO} : upd H a o a = some o := by unfold upd; rw [if_pos rfl]
theorem upd_ne {H : Hp} {a b : Addr} {o : HO} (h : b ≠ a) : upd H a o b = H b := by unfold upd; rw [if_neg h]
theorem upd_upd {H : Hp} {a : Addr} {o u : HO} : upd (upd H a o) a u = upd H a u := by
  funext b; unfold upd; split <;> rfl
theorem ne_of {H : Hp} {a b : Addr} {o u : HO} (h : H a = some o) (h' : H b = some u) (d : o ≠ u) : a ≠ b := by
  intro e; subst e; rw [h] at h'; exact d (Option.some.inj h')
theorem ne_of_none {H : Hp} {a b : Addr} {o : HO} (h : H a = some o) (h' : H b = none) : a ≠ b := by
  intro e; subst e; rw [h] at h'; cases h'
section
variable (P : Program) (w : World)
def ObjOk (H : Hp) (h : Heap) (a : Addr) : HO → Prop
  | .lst xs => xs.length ≤ sizeLine ∧ ∃ (its : List Value) (n : Nat), Vals xs its ∧ h.get? a = some { cls := .type "list", data := .seq its.toArray n }
  | .tup xs => xs.length ≤ sizeLine ∧ ∃ its : List Value, Vals xs its ∧ IsTup h a its.toArray
  | .dK kvs => kvs.length ≤ sizeLine ∧ (a == sysModules) = false ∧ ∃ vs, KV kvs vs ∧ h.DictOf (mixKind P w) a vs
  | .dT kvs => kvs.length ≤ sizeLine ∧ (a == sysModules) = false ∧ ∃ xs : List (List Key × Addr × Value),
      Paired (fun (p : List Key × V) (q : List Key × Addr × Value) => p.1 = q.1 ∧ H q.2.1 = some (.tup (p.1.map kV)) ∧ RelV p.2 q.2.2) kvs xs ∧
      ∃ o es ep, h.get? a = some o ∧ o.ExactDict ∧ o.data = .dict es ep ∧ es.toList = xs.map (entryOfKey (tupleKind (mixKind P w))) ∧ (xs.map (·.1)).Nodup
  | .set S n => h.SetOf (intKind P w) a S n
  | .ins C dx fs => H dx = some (.own a) ∧ fs.length ≤ 1000 ∧ dx ≠ a ∧ h.get? a = some (PySem.W.instObj C dx) ∧
      ∃ mA, h.Ns1 dx mA ∧ (∀ f, RelO (fs.lookup f) (mA f)) ∧ PySem.Within mA (fs.map (·.1))
  | .own _ => ∃ o, h.get? a = some o
  | .xd fs => ∃ mA, h.Ns1 a mA ∧ ∀ f, RelO (fs.lookup f) (mA f)
  | .rng lo hi => ∃ t u v, h.get? a = some { cls := .type "range", data := .fields #[.int lo t, .int hi u, .int 1 v] }
  | .frz o u => h.get? a = some o ∧ ObjOk H h a u
  | .tbl ps => h.get? a = some { cls := .none, data := .fields ps }
  | .met f x => h.get? a = some (PySem.W.methodObj (.ref f) (.ref x))
  | .ext φ => φ h ∧ (∃ o, h.get? a = some o) ∧ ∀ h1 h2 : Heap, φ h1 → (∀ o, h1.get? a = some o → h2.get? a = some o) → φ h2
def HOk (H : Hp) (h : Heap) : Prop := ∀ a o, H a = some o → ObjOk P w H h a o
end
section
variable {P : Program} {w : World} {H H' : Hp} {h h' : Heap} {a : Addr} {o : HO}
theorem ObjOk.lt (x : ObjOk P w H h a o) : a < h.objs.size := by
  cases o with
  | lst xs => obtain ⟨_, _, _, _, e⟩ := x; exact Heap.lt_size e
  | tup xs => obtain ⟨_, _, _, p⟩ := x; exact p.lt
  | dK kvs => obtain ⟨_, _, _, _, o, _, _, e, _⟩ := x; exact Heap.lt_size e
  | dT kvs => obtain ⟨_, _, _, _, o, _, _, e, _⟩ := x; exact Heap.lt_size e
  | set S n => obtain ⟨o, _, _, _, e, _⟩ := x; exact Heap.lt_size e
  | ins C dx fs => obtain ⟨_, _, _, e, _⟩ := x; exact Heap.lt_size e
  | own y => obtain ⟨_, e⟩ := x; exact Heap.lt_size e
  | xd fs => obtain ⟨_, ⟨_, _, _, e, _⟩, _⟩ := x; exact Heap.lt_size e
  | rng lo hi => obtain ⟨_, _, _, e⟩ := x; exact Heap.lt_size e
  | frz ob u => obtain ⟨e, _⟩ := x; exact Heap.lt_size e
  | tbl ps => exact Heap.lt_size (show h.get? a = some _ from x)
  | met f y => exact Heap.lt_size (show h.get? a = some _ from x)
  | ext φ => obtain ⟨_, ⟨_, e⟩, _⟩ := x; exact Heap.lt_size e
theorem Paired.mapP {α β : Type} {F G : α → β → Prop} : ∀ {l₁ : List α} {l₂ : List β}, Paired F l₁ l₂ → (∀ a b, F a b → G a b) → Paired G l₁ l₂
  | _, _, .nil, _ => .nil
  | _, _, .cons r t, f => .cons (f _ _ r) (Paired.mapP t f)
theorem ObjOk.stay (x : ObjOk P w H h a o) (k : ∀ b u, (b = a ∨ H b = some (.own a)) → h.get? b = some u → h'.get? b = some u)
    (ho : ∀ b, H b = some (.own a) → H' b = some (.own a)) (ht : ∀ b xs, H b = some (.tup xs) → H' b = some (.tup xs)) : ObjOk P w H' h' a o := by
  induction o with
  | lst xs => obtain ⟨z, its, n, r, e⟩ := x; exact ⟨z, its, n, r, k _ _ (.inl rfl) e⟩
  | tup xs => obtain ⟨z, its, r, ob, e, c⟩ := x; exact ⟨z, its, r, ob, k _ _ (.inl rfl) e, c⟩
  | dK kvs => obtain ⟨z, y, vs, r, ob, es, ep, e, c⟩ := x; exact ⟨z, y, vs, r, ob, es, ep, k _ _ (.inl rfl) e, c⟩
  | dT kvs =>
    obtain ⟨z, y, xs, r, ob, es, ep, e, c⟩ := x
    exact ⟨z, y, xs, Paired.mapP r fun p q z => ⟨z.1, ht _ _ z.2.1, z.2.2⟩, ob, es, ep, k _ _ (.inl rfl) e, c⟩
  | set S n => obtain ⟨ob, es, ep, t, e, c⟩ := x; exact ⟨ob, es, ep, t, k _ _ (.inl rfl) e, c⟩
  | ins C dx fs =>
    obtain ⟨d, z, ne, e, mA, ⟨od, es, ep, e2, c⟩, r⟩ := x
    exact ⟨ho _ d, z, ne, k _ _ (.inl rfl) e, mA, ⟨od, es, ep, k _ _ (.inr d) e2, c⟩, r⟩
  | own y => obtain ⟨ob, e⟩ := x; exact ⟨ob, k _ _ (.inl rfl) e⟩
  | xd fs => obtain ⟨mA, ⟨od, es, ep, e, c⟩, r⟩ := x; exact ⟨mA, ⟨od, es, ep, k _ _ (.inl rfl) e, c⟩, r⟩
  | rng lo hi => obtain ⟨t, u, v, e⟩ := x; exact ⟨t, u, v, k _ _ (.inl rfl) e⟩
  | frz ob u ih => obtain ⟨e, q⟩ := x; exact ⟨k _ _ (.inl rfl) e, ih q⟩
  | tbl ps =>
    have e : h.get? a = some { cls := .none, data := .fields ps } := x
    show h'.get? a = some { cls := .none, data := .fields ps }
    exact k a _ (.inl rfl) e
  | met f y =>
    have e : h.get? a = some (PySem.W.methodObj (.ref f) (.ref y)) := x
    show h'.get? a = some (PySem.W.methodObj (.ref f) (.ref y))
    exact k a _ (.inl rfl) e
  | ext φ => obtain ⟨p, ⟨o, e⟩, st⟩ := x; exact ⟨st _ _ p fun o q => k _ _ (.inl rfl) q, ⟨o, k _ _ (.inl rfl) e⟩, st⟩
theorem HOk.lt (x : HOk P w H h) (e : H a = some o) : a < h.objs.size := (x a o e).lt
theorem HOk.fresh (x : HOk P w H h) (e : h.objs.size ≤ a) : H a = none := by
  cases q : H a with
  | none => rfl
  | some u => exact absurd (Nat.lt_of_lt_of_le (x.lt q) e) (Nat.lt_irrefl _)
theorem HOk.kept (x : HOk P w H h) (k : ∀ b u, h.get? b = some u → h'.get? b = some u) : HOk P w H h' := fun a o e =>
  (x a o e).stay (fun b u _ q => k b u q) (fun _ q => q) fun _ _ q => q
theorem HOk.laid (x : HOk P w H h) (k : ∀ b u, h.get? b = some u → h'.get? b = some u) (hp : h.objs.size ≤ a) (new : ObjOk P w (upd H a o) h' a o) : HOk P w (upd H a o) h' := fun b u e => by
  have hn := x.fresh hp
  by_cases hb : b = a
  · subst hb; rw [upd_same] at e; cases e; exact new
  · rw [upd_ne hb] at e
    exact (x b u e).stay (fun c v _ q => k c v q) (fun c q => by rw [upd_ne (ne_of_none q hn)]; exact q) fun c xs q => by rw [upd_ne (ne_of_none q hn)]; exact q
end
def Rd (H : Hp) (a : Addr) (u : HO) : Prop := H a = some u ∨ ∃ o, H a = some (.frz o u)
theorem Rd.ok {P : Program} {w : World} {H : Hp} {h : Heap} {a : Addr} {u : HO} (r : Rd H a u) (x : HOk P w H h) : ObjOk P w H h a u := by
  rcases r with r | ⟨o, r⟩
  · exact x a u r
  · obtain ⟨_, q⟩ := x a _ r
    exact q
def Mut : Option HO → Prop
  | some (.lst _) => True
  | some (.dK _) => True
  | some (.dT _) => True
  | some (.set _ _) => True
  | some (.ins _ _ _) => True
  | some (.ext _) => True
  | _ => False
section
variable {P : Program} {w : World} {H : Hp} {h h' : Heap} {x e : Addr} {o' : HO}
theorem HOk.write (ok : HOk P w H h) (mu : Mut (H x)) (he : e = x ∨ H e = some (.own x)) (k : ∀ b u, b ≠ e → h.get? b = some u → h'.get? b = some u) (heo : ∃ u, h'.get? e = some u)
    (new : ObjOk P w (upd H x o') h' x o') : HOk P w (upd H x o') h' := fun b u q => by
  have nown : ∀ c y, H c = some (.own y) → c ≠ x := fun c y r z => by subst z; rw [r] at mu; exact mu
  have ntup : ∀ c xs, H c = some (.tup xs) → c ≠ x := fun c xs r z => by subst z; rw [r] at mu; exact mu
  by_cases hb : b = x
  · subst hb; rw [upd_same] at q; cases q; exact new
  · rw [upd_ne hb] at q
    by_cases hbe : b = e
    · have q' : H b = some (.own x) := by
        rcases he with z | z
        · exact absurd (hbe.trans z) hb
        · rw [hbe]; exact z
      rw [q] at q'; cases q'
      obtain ⟨v, hv⟩ := heo
      exact ⟨v, by rw [hbe]; exact hv⟩
    · refine (ok b u q).stay (fun c v hc r => k c v ?_ r) (fun c r => by rw [upd_ne (nown c b r)]; exact r) fun c xs r => by rw [upd_ne (ntup c xs r)]; exact r
      rcases hc with rfl | hc
      · exact hbe
      · rintro rfl
        rcases he with z | z
        · exact nown c b hc z
        · rw [hc] at z; cases z; exact hb rfl
end
structure Un (fs ex : List Addr) (H H' : Hp) (h h' : Heap) : Prop where
  keep : ∀ b o, h.get? b = some o → H b = none → b ∉ fs → b ∉ ex → h'.get? b = some o
  slot : ∀ b o, h.get? b = some o → H b = none → b ∈ fs → b ∉ ex → ∃ sl, h'.get? b = some { o with slots := sl }
  free : ∀ b o, h.get? b = some o → H b = none → b ∉ ex → H' b = none
  there : ∀ b o, h.get? b = some o → b ∉ ex → ∃ o', h'.get? b = some o'
  tups : ∀ b xs, H b = some (.tup xs) → H' b = some (.tup xs)
  frzs : ∀ b o u, H b = some (.frz o u) → H' b = some (.frz o u)
  tbls : ∀ b ps, H b = some (.tbl ps) → ∃ more, H' b = some (.tbl (ps ++ more))
section
variable {fs fs' ex ex' : List Addr} {H H1 H2 : Hp} {h h1 h2 h' : Heap} {a x e : Addr} {o : HO}
theorem Un.any (u : Un fs ex H H1 h h1) {b : Addr} {ob : Obj} (q : h.get? b = some ob) (n : H b = none) (hx : b ∉ ex) : ∃ sl, h1.get? b = some { ob with slots := sl } := by
  by_cases hb : b ∈ fs
  · exact u.slot b ob q n hb hx
  · exact ⟨ob.slots, u.keep b ob q n hb hx⟩
theorem Un.kept (k : ∀ b u, h.get? b = some u → h'.get? b = some u) : Un fs ex H H h h' :=
  ⟨fun b ob q _ _ _ => k b ob q, fun b ob q _ _ _ => ⟨ob.slots, k b ob q⟩, fun _ _ _ n _ => n, fun b ob q _ => ⟨ob, k b ob q⟩, fun _ _ q => q, fun _ _ _ q => q, fun _ ps q => ⟨#[], by rw [q]; simp⟩⟩
theorem Un.refl : Un fs ex H H h h := Un.kept fun _ _ q => q
theorem Un.laid (k : ∀ b u, h.get? b = some u → h'.get? b = some u) (hp : h.objs.size ≤ a) (hn : H a = none) : Un fs ex H (upd H a o) h h' where
  keep := fun b u q _ _ _ => k b u q
  slot := fun b u q _ _ _ => ⟨u.slots, k b u q⟩
  free := fun b u q n _ => by rw [upd_ne (Nat.ne_of_lt (Nat.lt_of_lt_of_le (Heap.lt_size q) hp))]; exact n
  there := fun b u q _ => ⟨u, k b u q⟩
  tups := fun b xs q => by rw [upd_ne (ne_of_none q hn)]; exact q
  frzs := fun b u xs q => by rw [upd_ne (ne_of_none q hn)]; exact q
  tbls := fun b ps q => ⟨#[], by rw [upd_ne (ne_of_none q hn), q]; simp⟩
theorem Un.write (mu : Mut (H x)) (he : e = x ∨ H e = some (.own x)) (k : ∀ b u, b ≠ e → h.get? b = some u → h'.get? b = some u) (heo : ∃ u, h'.get? e = some u) : Un fs ex H (upd H x o) h h' := by
  have hx : ∀ b, H b = none → b ≠ x := fun b n z => by subst z; rw [n] at mu; exact mu
  have hb : ∀ b, H b = none → b ≠ e := fun b n z => by
    subst z
    rcases he with r | r
    · exact hx b n r
    · rw [n] at r; cases r
  have hm : ∀ b u, H b = some u → ¬ Mut (some u) → b ≠ x := fun b u q nm z => by subst z; rw [q] at mu; exact nm mu
  refine ⟨fun b u q n _ _ => k b u (hb b n) q, fun b u q n _ _ => ⟨u.slots, k b u (hb b n) q⟩, fun b u q n _ => by rw [upd_ne (hx b n)]; exact n, fun b u q _ => ?_,
    fun b xs q => by rw [upd_ne (hm b _ q fun z => z)]; exact q, fun b u xs q => by rw [upd_ne (hm b _ q fun z => z)]; exact q, fun b ps q => ⟨#[], by rw [upd_ne (hm b _ q fun z => z), q]; simp⟩⟩
  by_cases hbe : b = e
  · subst hbe; exact heo
  · exact ⟨u, k b u hbe q⟩
end
def trk (h : Heap) (H : Hp) : List Addr := (List.range h.objs.size).filter fun a => (H a).isSome
def hidT (h : Heap) (H : Hp) : Heap := PySem.W.hideAll h (trk h H)
theorem hidT_size (h : Heap) (H : Hp) : (hidT h H).objs.size = h.objs.size := PySem.W.hideAll_size _ _
theorem hidT_get {h : Heap} {H : Hp} {b : Addr} {o : Obj} (e : h.get? b = some o) (n : H b = none) : (hidT h H).get? b = some o :=
  PySem.W.hideAll_get _ e fun hm => by
    have q : (H b).isSome = true := (List.mem_filter.mp hm).2
    rw [n] at q; simp at q
theorem of_hidT {h : Heap} {H : Hp} {b : Addr} {o : Obj} (e : (hidT h H).get? b = some o) : h.get? b = some o ∧ H b = none := by
  have e' : h.get? b = some o := PySem.W.of_hideAll (trk h H) e
  refine ⟨e', ?_⟩
  cases q : H b with
  | none => rfl
  | some x =>
    have hm : b ∈ trk h H := List.mem_filter.mpr ⟨List.mem_range.mpr (Heap.lt_size e'), by simp [q]⟩
    have z : (hidT h H).get? b = none := PySem.W.hideAll_none (trk h H) hm
    rw [z] at e; cases e
def allNews (g h : Heap) (L : Addr) : List (Addr × Obj) := (List.range h.objs.size).filterMap fun a => if a = L ∨ (g.get? a).isSome = true then none else (h.get? a).map fun o => (a, o)
def rest (g h : Heap) (L d : Addr) : List (Addr × Obj) := (allNews g h L).filter fun p => decide (p.1 ≠ d)
end L2
namespace L2
open PySem PySem.Spec PyProof.Rows
structure Mod (K : PySem.W.Frag) (mg : Str → Option Value) (base : Heap) : Prop where
  kin : K.In base
  glob : base.Ns mainGlobals mg
  blt : ∃ mb, base.Ns builtinsNs mb ∧ ∀ x : Str, x ≠ "__name__" → mb x = bootBuiltins x
  nolimit : base.NoLimit
structure Cx where
  prog : Program
  w : World
  K : PySem.W.Frag
  mg : Str → Option Value
  base : Heap
  A : Around
  N : List Str
  s₀ : Shared
  H₀ : Hp
  env : Env
  outer : List Env
  stack : List Env
  ex : List Addr
  fn : Str → Bool
  calm : Bool
  pn : List (Addr × Obj)
  xe : Value → Shared → Prop
def frs (l : List Env) : List Addr := l.filterMap (·.frame)
abbrev Cx.fs (X : Cx) : List Addr := frs X.outer
def Vis (sc : Scope) (x : Str) : Prop := sc.names.lookup x = some .local ∨ sc.names.lookup x = some .cell ∨ sc.names.lookup x = some .free
def Loc (sc : Scope) (x : Str) : Prop := sc.names.lookup x = some .local ∨ sc.names.lookup x = some .cell
def Look (env : Env) (h : Heap) (m : Str → Option Value) (x : Str) (u : Value) : Prop :=
  (env.kindOf x = some .local ∧ m x = some u) ∨ ((env.kindOf x = some .cell ∨ env.kindOf x = some .free) ∧ ∃ c, env.cells.lookup x = some c ∧ h.IsCell c (some u))
structure Cx.Ok (X : Cx) : Prop where
  mod : Mod X.K X.mg X.base
  kind : X.env.scope.kind = .function
  glob : X.env.globals = mainGlobals
  blt : X.env.builtins = builtinsNs
  above : X.s₀.heap.objs.size ≤ X.env.locals
  inj : ∀ x y c, X.env.cells.lookup x = some c → X.env.cells.lookup y = some c → x = y
  has : ∀ x, (X.env.kindOf x = some .cell ∨ X.env.kindOf x = some .free) → ∃ c, X.env.cells.lookup x = some c
  cab : ∀ x c, X.fn x = true → X.env.cells.lookup x = some c → X.s₀.heap.objs.size ≤ c
  hd : X.calm = true → X.A.handled = none
  frames : X.A.frames = some X.stack
  stk : X.stack = X.outer ∨ (X.stack = X.env :: X.outer ∧ X.env.frame = some X.env.locals)
  exf : ∀ b ∈ X.ex, b ≠ X.env.locals ∧ ∀ x c, X.env.cells.lookup x = some c → c ≠ b
  bs : ∀ b o, X.base.get? b = some o → X.s₀.heap.get? b = some o ∧ X.H₀ b = none
  bsz : X.base.objs.size ≤ X.s₀.heap.objs.size
  noex : ∀ b o, X.base.get? b = some o → b ∉ X.ex
  exfs : ∀ b ∈ X.ex, b ∉ X.fs
  funs : X.s₀.heap.FunFrames X.base X.outer
  frf : ∀ b ∈ X.fs, X.H₀ b = none
structure Inv (X : Cx) (pins : List (Addr × Obj)) (σ : List (Option V)) (H : Hp) (s : Shared) : Prop where
  ok : X.Ok
  os : s.os = X.s₀.os
  bare : AllBare s.gens
  base : Un X.fs X.ex X.H₀ H X.s₀.heap s.heap
  loc : ∃ m, s.heap.Ns X.env.locals m ∧ ∀ (i : Nat) (x : Str) (v : V), X.N[i]? = some x → σ[i]? = some (some v) → Vis X.env.scope x → ∃ u, RelV v u ∧ Look X.env s.heap m x u
  cell : ∀ x c, X.env.cells.lookup x = some c → ∃ v, s.heap.IsCell c v
  free : H X.env.locals = none
  freeC : ∀ x c, X.env.cells.lookup x = some c → H c = none
  pin : ∀ p ∈ X.pn ++ pins, s.heap.get? p.1 = some p.2 ∧ H p.1 = none ∧ p.1 ≠ X.env.locals ∧ p.1 ∉ X.fs ∧ ∀ v, p.2.data ≠ .cell v
  hok : HOk X.prog X.w H s.heap
  len : σ.length = X.N.length
section
variable {X : Cx} {pins : List (Addr × Obj)} {σ : List (Option V)} {H H' : Hp} {s : Shared} {h' : Heap}
theorem Cx.Ok.nofr (ok : X.Ok) {b : Addr} {o : Obj} (e : X.base.get? b = some o) : b ∉ X.fs := fun hb => by
  have := (ok.funs.mem hb).1
  rw [e] at this; cases this
theorem Inv.bs (I : Inv X pins σ H s) : ∀ b o, X.base.get? b = some o → s.heap.get? b = some o ∧ H b = none := fun b o e =>
  ⟨I.base.keep b o (I.ok.bs b o e).1 (I.ok.bs b o e).2 (I.ok.nofr e) (I.ok.noex b o e), I.base.free b o (I.ok.bs b o e).1 (I.ok.bs b o e).2 (I.ok.noex b o e)⟩
theorem Inv.bk (I : Inv X pins σ H s) : ∀ b o, X.base.get? b = some o → s.heap.get? b = some o := fun b o e => (I.bs b o e).1
theorem Inv.mod (I : Inv X pins σ H s) : Mod X.K X.mg X.base := I.ok.mod
theorem Inv.kIn (I : Inv X pins σ H s) : X.K.In s.heap := I.ok.mod.kin.keeps I.bk
theorem Inv.fr (I : Inv X pins σ H s) : ∃ m, Fr X.base X.env.locals s.heap m :=
  let ⟨m, hn, _⟩ := I.loc
  ⟨m, hn, I.bk, Nat.le_trans I.ok.bsz I.ok.above⟩
theorem Inv.lt (I : Inv X pins σ H s) : X.env.locals < s.heap.objs.size := let ⟨_, hn, _⟩ := I.loc; hn.lt
theorem Inv.sz (I : Inv X pins σ H s) : X.s₀.heap.objs.size ≤ s.heap.objs.size := Nat.le_trans I.ok.above (Nat.le_of_lt I.lt)
theorem Inv.nofs (I : Inv X pins σ H s) {a : Addr} (h : s.heap.objs.size ≤ a) : a ∉ X.fs := fun hb => by
  obtain ⟨_, o, ho, _⟩ := I.ok.funs.mem hb
  exact absurd (Nat.lt_of_lt_of_le (Heap.lt_size ho) (Nat.le_trans I.sz h)) (Nat.lt_irrefl _)
theorem Inv.cne (I : Inv X pins σ H s) : ∀ x c, X.env.cells.lookup x = some c → c ≠ X.env.locals := fun x c e z => by
  obtain ⟨v, o, ho, hd⟩ := I.cell x c e
  obtain ⟨m, ⟨o', es, ep, ho', hd', _⟩, _⟩ := I.loc
  rw [z, ho'] at ho; cases ho; rw [hd'] at hd; cases hd
theorem Inv.funs (I : Inv X pins σ H s) : s.heap.FunFrames X.base X.outer := by
  have all : ∀ (l : List Env), (∀ b ∈ frs l, b ∈ X.fs) → X.s₀.heap.FunFrames X.base l → s.heap.FunFrames X.base l := by
    intro l
    induction l with
    | nil => intro _ _; trivial
    | cons env r ih =>
      intro hs hl
      obtain ⟨hk, ⟨L, o, hf, hn, ho, hd⟩, hr⟩ := hl
      have hL : L ∈ X.fs := hs L (by unfold frs; rw [List.filterMap_cons, hf]; exact List.mem_cons_self)
      obtain ⟨sl, e⟩ := I.base.slot L o ho (I.ok.frf L hL) hL fun z => I.ok.exfs L z hL
      exact ⟨hk, ⟨L, _, hf, hn, e, hd⟩, ih (fun b hb => hs b (by unfold frs; rw [List.filterMap_cons, hf]; exact List.mem_cons_of_mem _ hb)) hr⟩
  exact all X.outer (fun _ hb => hb) I.ok.funs
theorem Inv.stack (I : Inv X pins σ H s) : s.heap.FunFrames X.base X.stack := by
  rcases I.ok.stk with e | ⟨e, hf⟩
  · rw [e]; exact I.funs
  · rw [e]
    obtain ⟨m, hn, _⟩ := I.loc
    refine .cons (by rw [I.ok.kind]; decide) hf hn ?_ I.funs
    exact Heap.get?_none_of_le (Nat.le_trans I.ok.bsz I.ok.above)
theorem Inv.stkSub (I : Inv X pins σ H s) : ∀ b ∈ frs X.stack, b ∈ X.env.locals :: X.fs := fun b hb => by
  rcases I.ok.stk with e | ⟨e, hf⟩
  · rw [e] at hb; exact List.mem_cons_of_mem _ hb
  · rw [e] at hb
    unfold frs at hb
    rw [List.filterMap_cons, hf] at hb
    exact hb
theorem Inv.stkFree (I : Inv X pins σ H s) : ∀ b ∈ frs X.stack, H b = none := fun b hb => by
  rcases List.mem_cons.mp (I.stkSub b hb) with e | hb
  · rw [e]; exact I.free
  · obtain ⟨_, o, ho, _⟩ := I.ok.funs.mem hb
    exact I.base.free b o ho (I.ok.frf b hb) fun z => I.ok.exfs b z hb
theorem Inv.step {g' : Array GenState} {t' : Nat} {d' : Drawn} {ch : List Addr} (I : Inv X pins σ H s)
    (hch : ∀ b ∈ ch, (b ∈ X.ex ∨ X.s₀.heap.objs.size ≤ b) ∧ b ≠ X.env.locals ∧ (∀ x c, X.env.cells.lookup x = some c → c ≠ b) ∧ ∀ p ∈ X.pn ++ pins, p.1 ≠ b)
    (keep : ∀ b o, b ≠ X.env.locals → b ∉ X.fs → b ∉ ch → s.heap.get? b = some o → H b = none → h'.get? b = some o)
    (slot : ∀ b o, b ≠ X.env.locals → b ∈ X.fs → b ∉ ch → s.heap.get? b = some o → H b = none → ∃ sl, h'.get? b = some { o with slots := sl }) (free : ∀ b o, b ∉ ch → s.heap.get? b = some o → H b = none → H' b = none)
    (there : ∀ b o, b ∉ ch → s.heap.get? b = some o → ∃ o', h'.get? b = some o')
    (tups : ∀ b xs, H b = some (.tup xs) → H' b = some (.tup xs)) (frzs : ∀ b o u, H b = some (.frz o u) → H' b = some (.frz o u)) (tbls : ∀ b ps, H b = some (.tbl ps) → ∃ more, H' b = some (.tbl (ps ++ more)))
    (ns : ∀ m, s.heap.Ns X.env.locals m → h'.Ns X.env.locals m) (hok : HOk X.prog X.w H' h') (hg : AllBare g') :
    Inv X pins σ H' { s with heap := h', gens := g', drawn := d', toks := t' } := by
  have neL : ∀ b o, X.s₀.heap.get? b = some o → b ≠ X.env.locals := fun b o e => Nat.ne_of_lt (Nat.lt_of_lt_of_le (Heap.lt_size e) I.ok.above)
  have neC : ∀ b o, X.s₀.heap.get? b = some o → b ∉ X.ex → b ∉ ch := fun b o e hx hb => by
    rcases (hch b hb).1 with z | z
    · exact hx z
    · exact absurd (Nat.lt_of_lt_of_le (Heap.lt_size e) z) (Nat.lt_irrefl _)
  have cellK : ∀ x c, X.env.cells.lookup x = some c → ∀ v, s.heap.IsCell c v → h'.IsCell c v := fun x c e v ⟨o, ho, hd⟩ => by
    have nch : c ∉ ch := fun z => (hch c z).2.2.1 x c e rfl
    by_cases hc : c ∈ X.fs
    · obtain ⟨sl, q⟩ := slot c o (I.cne x c e) hc nch ho (I.freeC x c e)
      exact ⟨_, q, hd⟩
    · exact ⟨o, keep c o (I.cne x c e) hc nch ho (I.freeC x c e), hd⟩
  refine ⟨I.ok, I.os, hg, ⟨fun b o e n hb hx => ?_, fun b o e n hb hx => ?_, fun b o e n hx => ?_, fun b o e hx => ?_, fun b xs e => tups b xs (I.base.tups b xs e), fun b o xs e => frzs b o xs (I.base.frzs b o xs e), fun b ps e => ?_⟩, ?_, fun x c e => ?_, ?_, fun x c e => ?_, fun p hp => ?_, hok, I.len⟩
  · exact keep b o (neL b o e) hb (neC b o e hx) (I.base.keep b o e n hb hx) (I.base.free b o e n hx)
  · obtain ⟨sl, e1⟩ := I.base.slot b o e n hb hx
    obtain ⟨sl', e2⟩ := slot b _ (neL b o e) hb (neC b o e hx) e1 (I.base.free b o e n hx)
    exact ⟨sl', e2⟩
  · obtain ⟨o', e1⟩ := I.base.there b o e hx
    exact free b o' (neC b o e hx) e1 (I.base.free b o e n hx)
  · obtain ⟨o', e1⟩ := I.base.there b o e hx
    exact there b o' (neC b o e hx) e1
  · obtain ⟨m1, e1⟩ := I.base.tbls b ps e
    obtain ⟨m2, e2⟩ := tbls b _ e1
    exact ⟨m1 ++ m2, by rw [e2, Array.append_assoc]⟩
  · obtain ⟨m, hn, hl⟩ := I.loc
    refine ⟨m, ns m hn, fun i x v e1 e2 e3 => ?_⟩
    obtain ⟨u, r, l⟩ := hl i x v e1 e2 e3
    refine ⟨u, r, ?_⟩
    rcases l with l | ⟨k, c, e, z⟩
    · exact .inl l
    · exact .inr ⟨k, c, e, cellK x c e _ z⟩
  · obtain ⟨v, z⟩ := I.cell x c e
    exact ⟨v, cellK x c e v z⟩
  · obtain ⟨m, ⟨o, _, _, ho, _⟩, _⟩ := I.loc
    exact free _ o (fun z => (hch _ z).2.1 rfl) ho I.free
  · obtain ⟨v, o, ho, hd⟩ := I.cell x c e
    exact free c o (fun z => (hch c z).2.2.1 x c e rfl) ho (I.freeC x c e)
  · obtain ⟨e, n, ne, nf, d⟩ := I.pin p hp
    have nch : p.1 ∉ ch := fun z => (hch p.1 z).2.2.2 p hp rfl
    exact ⟨keep p.1 p.2 ne nf nch e n, free p.1 p.2 nch e n, ne, nf, d⟩
theorem Inv.un {t' : Nat} (I : Inv X pins σ H s) (u : Un X.fs [] H H' s.heap h') (hok : HOk X.prog X.w H' h') : Inv X pins σ H' { s with heap := h', toks := t' } := by
  obtain ⟨m, ⟨o, es, ep, ho, r⟩, _⟩ := id I.loc
  obtain ⟨sl, hL⟩ := u.any ho I.free (by simp)
  exact I.step (g' := s.gens) (d' := s.drawn) (ch := []) (fun _ z => nomatch z) (fun b o _ hb _ e n => u.keep b o e n hb (by simp)) (fun b o _ hb _ e n => u.slot b o e n hb (by simp)) (fun b o _ e n => u.free b o e n (by simp)) (fun b o _ e => u.there b o e (by simp)) u.tups u.frzs u.tbls (fun m' hm => by
    obtain ⟨o', es', ep', ho', r'⟩ := hm
    rw [ho] at ho'; cases ho'
    exact ⟨_, es', ep', hL, r'⟩) hok I.bare
theorem Inv.call {g' : Array GenState} {t' : Nat} {d' : Drawn} {ch : List Addr} (I : Inv X pins σ H s) (u : Un (frs X.stack) ch H H' s.heap h') (hok : HOk X.prog X.w H' h') (hg : AllBare g')
    (hch : ∀ b ∈ ch, (b ∈ X.ex ∨ X.s₀.heap.objs.size ≤ b) ∧ b ≠ X.env.locals ∧ (∀ x c, X.env.cells.lookup x = some c → c ≠ b) ∧ ∀ p ∈ X.pn ++ pins, p.1 ≠ b) :
    Inv X pins σ H' { s with heap := h', gens := g', drawn := d', toks := t' } := by
  obtain ⟨m, ⟨o, es, ep, ho, r⟩, _⟩ := id I.loc
  obtain ⟨sl, hL⟩ := u.any ho I.free fun z => (hch _ z).2.1 rfl
  exact I.step (ch := ch) hch (fun b o hL hb hc e n => u.keep b o e n (fun z => (List.mem_cons.mp (I.stkSub b z)).elim hL hb) hc) (fun b o _ _ hc e n => u.any e n hc) (fun b o hc e n => u.free b o e n hc) (fun b o hc e => u.there b o e hc) u.tups u.frzs u.tbls (fun m' hm => by
    obtain ⟨o', es', ep', ho', r'⟩ := hm
    rw [ho] at ho'; cases ho'
    exact ⟨_, es', ep', hL, r'⟩) hok hg
theorem Inv.turned {t' : Nat} {it : Addr} (I : Inv X pins σ H s) (k : ∀ b o, b ≠ it → s.heap.get? b = some o → h'.get? b = some o) (hn : H it = none) (hL : it ≠ X.env.locals)
    (h1 : it ∈ X.ex ∨ X.s₀.heap.objs.size ≤ it) (h2 : ∀ x c, X.env.cells.lookup x = some c → c ≠ it) (h3 : ∀ p ∈ X.pn ++ pins, p.1 ≠ it) : Inv X pins σ H { s with heap := h', toks := t' } := by
  have nit : ∀ b u, H b = some u → b ≠ it := fun b u e z => by rw [z, hn] at e; cases e
  refine I.step (g' := s.gens) (d' := s.drawn) (ch := [it]) (fun b hb => ?_) (fun b o _ _ hc e _ => k b o (fun z => hc (by simp [z])) e) (fun b o _ _ hc e _ => ⟨o.slots, k b o (fun z => hc (by simp [z])) e⟩) (fun _ _ _ _ n => n)
    (fun b o hc e => ⟨o, k b o (fun z => hc (by simp [z])) e⟩) (fun _ _ e => e) (fun _ _ _ e => e) (fun b ps e => ⟨#[], by rw [e]; simp⟩) (fun m hm => ?_) (fun b u e => ?_) I.bare
  · have e : b = it := by simpa using hb
    subst e
    exact ⟨h1, hL, h2, h3⟩
  · obtain ⟨o, es, ep, ho, r⟩ := hm
    exact ⟨o, es, ep, k _ o (Ne.symm hL) ho, r⟩
  · refine (I.hok b u e).stay (fun c v hc q => k c v ?_ q) (fun _ q => q) fun _ _ q => q
    rcases hc with z | z
    · rw [z]; exact nit b u e
    · exact nit c _ z
theorem Inv.tok (I : Inv X pins σ H s) (t : Nat) : Inv X pins σ H { s with toks := t } := I.un (h' := s.heap) (t' := t) Un.refl I.hok
theorem Inv.kept {t' : Nat} (I : Inv X pins σ H s) (k : ∀ b u, s.heap.get? b = some u → h'.get? b = some u) : Inv X pins σ H { s with heap := h', toks := t' } := I.un (Un.kept k) (I.hok.kept k)
theorem Inv.laid {a : Addr} {o : HO} {t' : Nat} (I : Inv X pins σ H s) (k : ∀ b u, s.heap.get? b = some u → h'.get? b = some u) (hp : s.heap.objs.size ≤ a) (new : ObjOk X.prog X.w (upd H a o) h' a o) :
    Inv X pins σ (upd H a o) { s with heap := h', toks := t' } := I.un (Un.laid k hp (I.hok.fresh hp)) (I.hok.laid k hp new)
theorem Inv.write {x e : Addr} {o : HO} {t' : Nat} (I : Inv X pins σ H s) (mu : Mut (H x)) (he : e = x ∨ H e = some (.own x)) (k : ∀ b u, b ≠ e → s.heap.get? b = some u → h'.get? b = some u) (heo : ∃ u, h'.get? e = some u)
    (new : ObjOk X.prog X.w (upd H x o) h' x o) : Inv X pins σ (upd H x o) { s with heap := h', toks := t' } := I.un (Un.write mu he k heo) (I.hok.write mu he k heo new)
theorem Inv.weak {σ' : List (Option V)} (I : Inv X pins σ H s) (hl : σ'.length = σ.length) (w : ∀ (i : Nat) v, σ'[i]? = some (some v) → σ[i]? = some (some v)) : Inv X pins σ' H s :=
  ⟨I.ok, I.os, I.bare, I.base, let ⟨m, hn, hl'⟩ := I.loc; ⟨m, hn, fun i x v e1 e2 e3 => hl' i x v e1 (w i v e2) e3⟩, I.cell, I.free, I.freeC, I.pin, I.hok, hl.trans I.len⟩
theorem Inv.pins_of {pins' : List (Addr × Obj)} (I : Inv X pins σ H s) (h : ∀ p ∈ pins', s.heap.get? p.1 = some p.2 ∧ H p.1 = none ∧ p.1 ≠ X.env.locals ∧ p.1 ∉ X.fs ∧ ∀ v, p.2.data ≠ .cell v) : Inv X pins' σ H s :=
  ⟨I.ok, I.os, I.bare, I.base, I.loc, I.cell, I.free, I.freeC, fun p hp => (List.mem_append.mp hp).elim (fun z => I.pin p (List.mem_append_left _ z)) (h p), I.hok, I.len⟩
theorem nodup_ix {N : List Str} (hN : N.Nodup) {i j : Nat} {x : Str} (a : N[i]? = some x) (b : N[j]? = some x) : i = j := by
  obtain ⟨h1, e1⟩ := List.getElem?_eq_some_iff.mp a
  obtain ⟨h2, e2⟩ := List.getElem?_eq_some_iff.mp b
  exact (List.getElem_inj hN).mp (e1.trans e2.symm)
theorem store_ok2 {M : Model} {A : Around} {E : Value → Shared → Prop} {i : Nat} {x : Str} {v : V} {u : Value} {Q : Unit → Shared → Prop} (I : Inv X pins σ H s) (hN : X.N.Nodup) (hi : X.N[i]? = some x) (hx : Loc X.env.scope x) (r : RelV v u)
    (h : ∀ s', Inv X pins (σ.set i (some v)) H s' → (∃ a, Heap.SameBut a s.heap s'.heap ∧ (a = X.env.locals ∨ X.env.cells.lookup x = some a)) → Q () s') (hf : X.fn x = true ∨ X.env.scope.names.lookup x = some .local := by first | exact .inl rfl | exact .inr rfl | assumption) : wpAny M A (storeName X.env x u) Q E s := by
  obtain ⟨m, hn, hl⟩ := id I.loc
  have hcls : (X.env.scope.kind == .class || (X.env.scope.kind == .module && X.env.locals != X.env.globals)) = false := by rw [I.ok.kind]; rfl
  have hiσ : i < σ.length := by rw [I.len]; exact (List.getElem?_eq_some_iff.mp hi).1
  have cne := I.cne
  have tracked : ∀ {a : Addr} {h' : Heap}, (∃ o, s.heap.get? a = some o ∧ H a = none) → Heap.SameBut a s.heap h' → HOk X.prog X.w H h' := fun {a h'} ha hs b ob e => by
    obtain ⟨_, _, hfree⟩ := ha
    refine (I.hok b ob e).stay (fun c w' hc q => (hs.2 c ?_).trans q) (fun _ q => q) fun _ _ q => q
    rintro rfl
    rcases hc with rfl | hc
    · rw [hfree] at e; cases e
    · rw [hfree] at hc; cases hc
  rcases hx with hk | hk
  · refine wpAny_storeName_local hk hn (fun h' hn' hs => ?_) hcls
    obtain ⟨oL, _, _, hoL, _⟩ := id hn
    refine h _ ⟨I.ok, I.os, I.bare, ⟨fun b o e n hb hx => ?_, fun b o e n hb hx => ?_, I.base.free, fun b o e hx => ?_, I.base.tups, I.base.frzs, I.base.tbls⟩, ⟨_, hn', fun j y v' e1 e2 e3 => ?_⟩, fun y c e => ?_, I.free, I.freeC, fun p hp => ?_, tracked ⟨oL, hoL, I.free⟩ hs, by simpa using I.len⟩ ⟨_, hs, .inl rfl⟩
    · exact (hs.2 b (Nat.ne_of_lt (Nat.lt_of_lt_of_le (Heap.lt_size e) I.ok.above))).trans (I.base.keep b o e n hb hx)
    · obtain ⟨sl, e1⟩ := I.base.slot b o e n hb hx
      exact ⟨sl, (hs.2 b (Nat.ne_of_lt (Nat.lt_of_lt_of_le (Heap.lt_size e) I.ok.above))).trans e1⟩
    · obtain ⟨o', e1⟩ := I.base.there b o e hx
      exact ⟨o', (hs.2 b (Nat.ne_of_lt (Nat.lt_of_lt_of_le (Heap.lt_size e) I.ok.above))).trans e1⟩
    · by_cases hj : j = i
      · subst hj
        rw [hi] at e1; cases e1
        rw [List.getElem?_set_self hiσ] at e2
        cases e2
        exact ⟨u, r, .inl ⟨hk, by simp⟩⟩
      · rw [List.getElem?_set_ne (Ne.symm hj)] at e2
        obtain ⟨u', r', q⟩ := hl j y v' e1 e2 e3
        refine ⟨u', r', ?_⟩
        rcases q with ⟨k, e⟩ | ⟨k, c, e, z⟩
        · refine .inl ⟨k, ?_⟩
          have : y ≠ x := fun e => hj (nodup_ix hN e1 (e ▸ hi))
          simp [this, e]
        · exact .inr ⟨k, c, e, z.sameBut hs (cne y c e)⟩
    · obtain ⟨w', z⟩ := I.cell y c e
      exact ⟨w', z.sameBut hs (cne y c e)⟩
    · obtain ⟨e, n, ne, nf, d⟩ := I.pin p hp
      exact ⟨(hs.2 p.1 ne).trans e, n, ne, nf, d⟩
  · have hfn : X.fn x = true := by
      rcases hf with z | z
      · exact z
      · rw [z] at hk; cases hk
    obtain ⟨c, hc⟩ := I.ok.has x (.inl hk)
    obtain ⟨w', z⟩ := I.cell x c hc
    refine wpAny_storeName_cell I.ok.kind hk hc z (fun h' hc' hs => ?_)
    obtain ⟨oc, hoc, hocd⟩ := id z
    refine h { s with heap := h' } ⟨I.ok, I.os, I.bare, ⟨fun b o e n hb hx => ?_, fun b o e n hb hx => ?_, I.base.free, fun b o e hx => ?_, I.base.tups, I.base.frzs, I.base.tbls⟩, ⟨m, hn.sameBut hs (Ne.symm (cne x c hc)), fun j y v' e1 e2 e3 => ?_⟩, fun y c' e => ?_, I.free, I.freeC, fun p hp => ?_, tracked ⟨oc, hoc, I.freeC x c hc⟩ hs, by simpa using I.len⟩ ⟨c, hs, .inr hc⟩
    · exact (hs.2 b (Nat.ne_of_lt (Nat.lt_of_lt_of_le (Heap.lt_size e) (I.ok.cab x c hfn hc)))).trans (I.base.keep b o e n hb hx)
    · obtain ⟨sl, e1⟩ := I.base.slot b o e n hb hx
      exact ⟨sl, (hs.2 b (Nat.ne_of_lt (Nat.lt_of_lt_of_le (Heap.lt_size e) (I.ok.cab x c hfn hc)))).trans e1⟩
    · obtain ⟨o', e1⟩ := I.base.there b o e hx
      exact ⟨o', (hs.2 b (Nat.ne_of_lt (Nat.lt_of_lt_of_le (Heap.lt_size e) (I.ok.cab x c hfn hc)))).trans e1⟩
    · by_cases hj : j = i
      · subst hj
        rw [hi] at e1; cases e1
        rw [List.getElem?_set_self hiσ] at e2
        cases e2
        exact ⟨u, r, .inr ⟨.inl hk, c, hc, hc'⟩⟩
      · rw [List.getElem?_set_ne (Ne.symm hj)] at e2
        obtain ⟨u', r', q⟩ := hl j y v' e1 e2 e3
        refine ⟨u', r', ?_⟩
        rcases q with q | ⟨k, c', e, z'⟩
        · exact .inl q
        · refine .inr ⟨k, c', e, z'.sameBut hs ?_⟩
          rintro rfl
          exact hj (nodup_ix hN e1 (I.ok.inj _ _ _ e hc ▸ hi))
    · by_cases hcc : c' = c
      · subst hcc; exact ⟨_, hc'⟩
      · obtain ⟨w2, z2⟩ := I.cell y c' e
        exact ⟨w2, z2.sameBut hs hcc⟩
    · obtain ⟨e, n, ne, nf, d⟩ := I.pin p hp
      refine ⟨(hs.2 p.1 ?_).trans e, n, ne, nf, d⟩
      intro q
      rw [q, hoc] at e
      have q' : oc = p.2 := Option.some.inj e
      exact d w' (by rw [← q']; exact hocd)
theorem store_ok {M : Model} {A : Around} {E : Value → Shared → Prop} {i : Nat} {x : Str} {v : V} {u : Value} {Q : Unit → Shared → Prop} (I : Inv X pins σ H s) (hN : X.N.Nodup) (hi : X.N[i]? = some x) (hx : Loc X.env.scope x) (r : RelV v u)
    (h : ∀ s', Inv X pins (σ.set i (some v)) H s' → Q () s') (hf : X.fn x = true ∨ X.env.scope.names.lookup x = some .local := by first | exact .inl rfl | exact .inr rfl | assumption) : wpAny M A (storeName X.env x u) Q E s :=
  store_ok2 I hN hi hx r (fun s' I' _ => h s' I') hf
theorem Inv.call' {s' : Shared} {ch : List Addr} (I : Inv X pins σ H s) (ho : s'.os = s.os) (u : Un (frs X.stack) ch H H' s.heap s'.heap) (hok : HOk X.prog X.w H' s'.heap) (hg : AllBare s'.gens)
    (hch : ∀ b ∈ ch, (b ∈ X.ex ∨ X.s₀.heap.objs.size ≤ b) ∧ b ≠ X.env.locals ∧ (∀ x c, X.env.cells.lookup x = some c → c ≠ b) ∧ ∀ p ∈ X.pn ++ pins, p.1 ≠ b) : Inv X pins σ H' s' := by
  obtain ⟨h', g', d', t', o'⟩ := s'
  have e : o' = s.os := ho
  subst e
  exact I.call (g' := g') (t' := t') (d' := d') u hok hg hch
end
abbrev XK := Value → Option Addr → Hp → Prop
abbrev St := List (Option V)
abbrev VK := V → Hp → Prop
abbrev TE := St → Hp → VK → Prop
abbrev TT := St → Hp → (Bool → Hp → Prop) → Prop
abbrev TA := St → Hp → (List V → Hp → Prop) → Prop
structure Ends where
  nx : St → Hp → Prop
  rt : VK
  bk : St → Hp → Prop := fun _ _ => False
  ct : St → Hp → Prop := fun _ _ => False
abbrev TS := Ends → St → Hp → Prop
def EP (X : Cx) (pins : List (Addr × Obj)) (σ : St) (Q : VK) (u : Value) (s' : Shared) : Prop := ∃ v H', Inv X pins σ H' s' ∧ RelV v u ∧ Q v H'
def TP (X : Cx) (pins : List (Addr × Obj)) (σ : St) (Q : Bool → Hp → Prop) (b : Bool) (s' : Shared) : Prop := ∃ H', Inv X pins σ H' s' ∧ Q b H'
def AP (X : Cx) (pins : List (Addr × Obj)) (σ : St) (Q : List V → Hp → Prop) (us : List Value) (s' : Shared) : Prop := ∃ vs H', Inv X pins σ H' s' ∧ Vals vs us ∧ Q vs H'
def SP (X : Cx) (pins : List (Addr × Obj)) (D : Ends) (f : Flow) (s' : Shared) : Prop :=
  match f with
  | .next => ∃ σ' H', Inv X pins σ' H' s' ∧ D.nx σ' H'
  | .brk => ∃ σ' H', Inv X pins σ' H' s' ∧ D.bk σ' H'
  | .cont => ∃ σ' H', Inv X pins σ' H' s' ∧ D.ct σ' H'
  | .ret u => ∃ v σ' H', Inv X pins σ' H' s' ∧ RelV v u ∧ D.rt v H'
def PE (X : Cx) (e : Expr) (t : TE) : Prop :=
  ∀ (pins : List (Addr × Obj)) (s : Shared) (σ : St) (H : Hp) (Q : VK), Inv X pins σ H s → t σ H Q → wpAny (model X.prog X.w) X.A (eval e X.env) (EP X pins σ Q) X.xe s
def PT (X : Cx) (e : Expr) (t : TT) : Prop :=
  ∀ (pins : List (Addr × Obj)) (s : Shared) (σ : St) (H : Hp) (Q : Bool → Hp → Prop), Inv X pins σ H s → t σ H Q → wpAny (model X.prog X.w) X.A (isTrue e X.env (eval e X.env)) (TP X pins σ Q) X.xe s
def PW (X : Cx) (e : Expr) (t : TT) : Prop :=
  ∀ (whole : Sem Value) (pins : List (Addr × Obj)) (s : Shared) (σ : St) (H : Hp) (Q : Bool → Hp → Prop), Inv X pins σ H s → t σ H Q → wpAny (model X.prog X.w) X.A (isTrue e X.env whole) (TP X pins σ Q) X.xe s
theorem PW.pt {X : Cx} {e : Expr} {t : TT} (h : PW X e t) : PT X e t := h _
def PA (X : Cx) (es : List Expr) (t : TA) : Prop :=
  ∀ (pos : Pos) (pins : List (Addr × Obj)) (s : Shared) (σ : St) (H : Hp) (Q : List V → Hp → Prop), Inv X pins σ H s → t σ H Q → wpAny (model X.prog X.w) X.A (spliced (backTo pos (starEach es X.env))) (AP X pins σ Q) X.xe s
def PS (X : Cx) (st : Stmt) (t : TS) : Prop :=
  ∀ (pins : List (Addr × Obj)) (s : Shared) (σ : St) (H : Hp) (D : Ends), Inv X pins σ H s → t D σ H → wpAny (model X.prog X.w) X.A (exec st X.env) (SP X pins D) X.xe s
def PSs (X : Cx) (st : List Stmt) (t : TS) : Prop :=
  ∀ (pins : List (Addr × Obj)) (s : Shared) (σ : St) (H : Hp) (D : Ends), Inv X pins σ H s → t D σ H → wpAny (model X.prog X.w) X.A (execs st X.env) (SP X pins D) X.xe s
theorem thn {α : Type} {t : Sem α} {Q Q' : α → Shared → Prop} {M : Model} {A : Around} {E : Value → Shared → Prop} {s : Shared} (h : wpAny M A t Q E s) (hQ : ∀ a s, Q a s → Q' a s) : wpAny M A t Q' E s := wpAny_mono h hQ fun _ _ x => x
end L2
namespace L2
open PySem PySem.Spec PyProof.Rows
section
variable {X : Cx}
theorem bin {a b : Expr} {ta tb : TE} (ha : PE X a ta) (hb : PE X b tb) {pins : List (Addr × Obj)} {s : Shared} {σ : St} {H : Hp} {R : V → V → Hp → Prop} (I : Inv X pins σ H s) (h : ta σ H fun x H1 => tb σ H1 fun y H2 => R x y H2)
    {α : Type} {Q : α → Shared → Prop} {f : Value → Value → Sem α}
    (hf : ∀ v u s2 x y H2, Inv X pins σ H2 s2 → RelV x v → RelV y u → R x y H2 → wpAny (model X.prog X.w) X.A (f v u) Q X.xe s2) :
    wpAny (model X.prog X.w) X.A (eval a X.env) (fun v s₁ => wpAny (model X.prog X.w) X.A (eval b X.env) (fun u s₂ => wpAny (model X.prog X.w) X.A (f v u) Q X.xe s₂) X.xe s₁) X.xe s := by
  refine thn (ha pins s σ H _ I h) fun v s1 ⟨x, H1, I1, r1, q1⟩ => ?_
  refine thn (hb pins s1 σ H1 _ I1 q1) fun u s2 ⟨y, H2, I2, r2, q2⟩ => ?_
  exact hf v u s2 x y H2 I2 r1 r2 q2
def tVar (i : Nat) : TE := fun σ H Q => ∃ v, σ[i]? = some (some v) ∧ Q v H
def tC (v : V) : TE := fun _ H Q => Q v H
theorem pe_var {i : Nat} {x : Str} {pos : Pos} (hN : X.N[i]? = some x) (hv : Vis X.env.scope x) (hd : (x == ("__debug__" : Str)) = false := by decide) (hcd : (x == ("__classdict__" : Str)) = false := by decide) : PE X (.Name x pos) (tVar i) := by
  intro pins s σ H Q I h
  obtain ⟨v, e, h⟩ := h
  obtain ⟨m, hn, hl⟩ := I.loc
  obtain ⟨u, r, l⟩ := hl i x v hN e hv
  have fin : EP X pins σ Q u s := ⟨v, H, I, r, h⟩
  rcases l with ⟨hk, hm⟩ | ⟨hk, c, hc, hcell⟩
  · exact wpAny_Name (wpAny_loadName_local I.ok.kind hk hn hm fin) hd
  · rcases hk with hk | hk
    · exact wpAny_Name (wpAny_loadName_cell I.ok.kind hk hc hcell fin) hd
    · exact wpAny_Name (wpAny_loadName_free I.ok.kind hk hc hcell fin hcd) hd
theorem pe_int {i j pos} : PE X (.Constant (.int i) j pos) (tC (.int i)) := fun _ _ _ H _ I h => wpAny_Constant_int ⟨.int i, H, I.tok _, ⟨_, rfl⟩, h⟩
theorem pe_bl {b j pos} : PE X (.Constant (.bool b) j pos) (tC (.bl b)) := fun _ _ _ H _ I h => Constant_bool ⟨.bl b, H, I, rfl, h⟩
theorem pe_non {j pos} : PE X (.Constant .none j pos) (tC .non) := fun _ _ _ H _ I h => Constant_none ⟨.non, H, I, rfl, h⟩
def Gl (X : Cx) (x : Str) : Prop := X.env.kindOf x = some .globalImplicit
theorem ld_glob {E : Value → Shared → Prop} {pins : List (Addr × Obj)} {s : Shared} {σ : St} {H : Hp} {x : Str} {u : Value} {pos : Pos} {Q : Value → Shared → Prop} (I : Inv X pins σ H s) (hg : Gl X x) (hm : X.mg x = some u) (h : Q u s)
    (hd : (x == ("__debug__" : Str)) = false := by decide) : wpAny (model X.prog X.w) X.A (eval (.Name x pos) X.env) Q E s :=
  Calls.Name_function_global I.ok.kind hg (Calls.loadGlobal_global (by rw [I.ok.glob]; exact I.mod.glob.keeps I.bk) hm h) hd
theorem ld_blt {E : Value → Shared → Prop} {pins : List (Addr × Obj)} {s : Shared} {σ : St} {H : Hp} {x : Str} {u : Value} {pos : Pos} {Q : Value → Shared → Prop} (I : Inv X pins σ H s) (hg : Gl X x) (hm : X.mg x = none) (hv : bootBuiltins x = some u) (h : Q u s)
    (hn : x ≠ "__name__" := by decide) (hd : (x == ("__debug__" : Str)) = false := by decide) : wpAny (model X.prog X.w) X.A (eval (.Name x pos) X.env) Q E s := by
  obtain ⟨mb, h1, h2⟩ := I.mod.blt
  exact Calls.Name_function_global I.ok.kind hg (Calls.loadGlobal_builtin (by rw [I.ok.glob]; exact I.mod.glob.keeps I.bk) hm (by rw [I.ok.blt]; exact h1.keeps I.bk) ((h2 x hn).trans hv) h) hd
theorem pe_glob {x : Str} {v : V} {u : Value} {pos : Pos} (hg : Gl X x) (hm : X.mg x = some u) (r : RelV v u) (hd : (x == ("__debug__" : Str)) = false := by decide) : PE X (.Name x pos) (tC v) :=
  fun _ _ _ H _ I h => ld_glob I hg hm ⟨v, H, I, r, h⟩ hd
variable {a b : Expr} {ta tb : TE} {pos : Pos}
variable {tA tB' : TT} {rest : List Expr}
def tAnd (t u : TT) : TT := fun σ H Q => t σ H fun c H1 => if c = true then u σ H1 Q else Q false H1
def tOr (t u : TT) : TT := fun σ H Q => t σ H fun c H1 => if c = true then Q true H1 else u σ H1 Q
theorem pw_and1 (ha : PT X a tA) : PW X (.BoolOp .And [a] pos) tA := by
  intro wh pins s σ H Q I h
  refine isTrue_and (thn (ha pins s σ H Q I h) fun c s1 e => ?_)
  cases c with
  | true => exact isTrue_and_nil e
  | false => exact e
theorem pw_or1 (ha : PT X a tA) : PW X (.BoolOp .Or [a] pos) tA := by
  intro wh pins s σ H Q I h
  refine isTrue_or (thn (ha pins s σ H Q I h) fun c s1 e => ?_)
  cases c with
  | false => exact isTrue_or_nil e
  | true => exact e
theorem pw_and (ha : PT X a tA) (hb : PW X (.BoolOp .And (b :: rest) pos) tB') : PW X (.BoolOp .And (a :: b :: rest) pos) (tAnd tA tB') := by
  intro wh pins s σ H Q I h
  refine isTrue_and (thn (ha pins s σ H _ I h) fun c s1 ⟨H1, I1, q1⟩ => ?_)
  cases c with
  | true => exact hb wh pins s1 σ H1 Q I1 q1
  | false => exact ⟨H1, I1, q1⟩
theorem pw_or (ha : PT X a tA) (hb : PW X (.BoolOp .Or (b :: rest) pos) tB') : PW X (.BoolOp .Or (a :: b :: rest) pos) (tOr tA tB') := by
  intro wh pins s σ H Q I h
  refine isTrue_or (thn (ha pins s σ H _ I h) fun c s1 ⟨H1, I1, q1⟩ => ?_)
  cases c with
  | true => exact ⟨H1, I1, q1⟩
  | false => exact hb wh pins s1 σ H1 Q I1 q1
def tIf (t : TT) (ta tb : TE) : TE := fun σ H Q => t σ H fun c H1 => if c = true then ta σ H1 Q else tb σ H1 Q
theorem pe_ifExp {c : Expr} (hc : PT X c tA) (ha : PE X a ta) (hb : PE X b tb) : PE X (.IfExp c a b pos) (tIf tA ta tb) := by
  intro pins s σ H Q I h
  refine wpAny_IfExp (thn (hc pins s σ H _ I h) fun d s1 ⟨H1, I1, q1⟩ => ?_)
  cases d with
  | true => exact ha pins s1 σ H1 Q I1 q1
  | false => exact hb pins s1 σ H1 Q I1 q1
end
end L2
namespace L2
open PySem PySem.Spec PyProof.Rows
def SqL (K : PySem.W.Frag) (H : Hp) (a : Addr) (xs : List V) : Prop :=
  Rd H a (.lst xs) ∨
    ∃ (o : Obj) (its : Array Value) (n : Nat), K.lookup a = some o ∧ o.cls = .type "list" ∧ o.dict = none ∧ o.data = .seq its n ∧ its.size ≤ sizeLine ∧ Vals xs its.toList
def SqT (K : PySem.W.Frag) (H : Hp) (a : Addr) (xs : List V) : Prop :=
  Rd H a (.tup xs) ∨
    ∃ (o : Obj) (its : Array Value) (n : Nat), K.lookup a = some o ∧ o.cls = .type "tuple" ∧ o.data = .seq its n ∧ its.size ≤ sizeLine ∧ Vals xs its.toList
def absV : Value → Option V
  | .none => some .non
  | .bool b => some (.bl b)
  | .int i _ => some (.int i)
  | .str x _ => some (.str x)
  | .bytes b _ => some (.byt b)
  | .float b _ => some (.flt b)
  | .ref a => some (.ref a)
  | .type n => some (.ty n)
  | _ => none
theorem RelV.abs {x : V} {u : Value} (r : RelV x u) : absV u = some x := by
  cases x with
  | non => cases r; rfl
  | bl _ => cases r; rfl
  | int _ => obtain ⟨t, rfl⟩ := r; rfl
  | str _ => obtain ⟨t, rfl⟩ := r; rfl
  | byt _ => obtain ⟨t, rfl⟩ := r; rfl
  | flt _ => obtain ⟨t, rfl⟩ := r; rfl
  | ref _ => cases r; rfl
  | ty _ => cases r; rfl
theorem RelV.inj {x y : V} {u : Value} (r : RelV x u) (q : RelV y u) : x = y := Option.some.inj (r.abs.symm.trans q.abs)
theorem Vals.inj : ∀ {xs ys : List V} {us : List Value}, Vals xs us → Vals ys us → xs = ys
  | _, _, _, .nil, .nil => rfl
  | _, _, _, .cons r t, .cons r' t' => by rw [r.inj r', Vals.inj t t']
section
variable {X : Cx} {pins : List (Addr × Obj)} {σ : St} {H : Hp} {s : Shared} {a : Addr} {xs ys : List V}
theorem SqL.of {K : PySem.W.Frag} (h : H a = some (.lst xs)) : SqL K H a xs := .inl (.inl h)
theorem SqT.of {K : PySem.W.Frag} (h : H a = some (.tup xs)) : SqT K H a xs := .inl (.inl h)
theorem Inv.list (I : Inv X pins σ H s) (h : SqL X.K H a xs) : ∃ its : List Value, Vals xs its ∧ PlainL s.heap a its.toArray ∧ xs.length ≤ sizeLine := by
  rcases h with h | ⟨o, its, n, hk, hc, hd, hs, hz, r⟩
  · obtain ⟨z, its, n, r, e⟩ := h.ok I.hok
    exact ⟨its, r, ⟨_, n, e, rfl, rfl, rfl⟩, z⟩
  · refine ⟨its.toList, r, ⟨o, n, I.kIn a o hk, hc, hd, by simpa using hs⟩, ?_⟩
    have e := r.length
    simp only [Array.length_toList] at e
    omega
theorem Inv.tuple (I : Inv X pins σ H s) (h : SqT X.K H a xs) : ∃ its : List Value, Vals xs its ∧ IsTup s.heap a its.toArray ∧ xs.length ≤ sizeLine := by
  rcases h with h | ⟨o, its, n, hk, hc, hs, hz, r⟩
  · obtain ⟨z, its, r, p⟩ := h.ok I.hok
    exact ⟨its, r, p, z⟩
  · refine ⟨its.toList, r, ⟨o, I.kIn a o hk, hc, n, by simpa using hs⟩, ?_⟩
    have e := r.length
    simp only [Array.length_toList] at e
    omega
theorem Inv.list_inj (I : Inv X pins σ H s) (h : SqL X.K H a xs) (h' : SqL X.K H a ys) : xs = ys := by
  obtain ⟨its, r, ⟨o, n, e, _, _, d⟩, _⟩ := I.list h
  obtain ⟨its', r', ⟨o', n', e', _, _, d'⟩, _⟩ := I.list h'
  rw [e] at e'; cases e'
  rw [d] at d'
  injection d' with d1 _
  have : its = its' := by simpa using congrArg Array.toList d1
  subst this
  exact r.inj r'
theorem Inv.tuple_inj (I : Inv X pins σ H s) (h : SqT X.K H a xs) (h' : SqT X.K H a ys) : xs = ys := by
  obtain ⟨its, r, ⟨o, e, _, n, d⟩, _⟩ := I.tuple h
  obtain ⟨its', r', ⟨o', e', _, n', d'⟩, _⟩ := I.tuple h'
  rw [e] at e'; cases e'
  rw [d] at d'
  injection d' with d1 _
  have : its = its' := by simpa using congrArg Array.toList d1
  subst this
  exact r.inj r'
end
abbrev Cx.wish (X : Cx) (E : Value → Shared → Prop) : Cx := { X with xe := E }
abbrev Cx.nox (X : Cx) : Cx := X.wish fun _ _ => False
theorem Cx.Ok.wish {X : Cx} (ok : X.Ok) (E : Value → Shared → Prop) : (X.wish E).Ok :=
  ⟨ok.mod, ok.kind, ok.glob, ok.blt, ok.above, ok.inj, ok.has, ok.cab, ok.hd, ok.frames, ok.stk, ok.exf, ok.bs, ok.bsz, ok.noex, ok.exfs, ok.funs, ok.frf⟩
theorem Cx.Ok.unwish {X : Cx} {E : Value → Shared → Prop} (ok : (X.wish E).Ok) : X.Ok :=
  ⟨ok.mod, ok.kind, ok.glob, ok.blt, ok.above, ok.inj, ok.has, ok.cab, ok.hd, ok.frames, ok.stk, ok.exf, ok.bs, ok.bsz, ok.noex, ok.exfs, ok.funs, ok.frf⟩
section
variable {X : Cx} {pins : List (Addr × Obj)} {σ : St} {H : Hp} {s : Shared} {E : Value → Shared → Prop}
theorem Inv.wish (I : Inv X pins σ H s) (E : Value → Shared → Prop) : Inv (X.wish E) pins σ H s := ⟨I.ok.wish E, I.os, I.bare, I.base, I.loc, I.cell, I.free, I.freeC, I.pin, I.hok, I.len⟩
theorem Inv.unwish (I : Inv (X.wish E) pins σ H s) : Inv X pins σ H s := ⟨I.ok.unwish, I.os, I.bare, I.base, I.loc, I.cell, I.free, I.freeC, I.pin, I.hok, I.len⟩
theorem SP.unwish {D : Ends} {f : Flow} {s' : Shared} (h : SP (X.wish E) pins D f s') : SP X pins D f s' := by
  cases f with
  | next => obtain ⟨σ', H', I, q⟩ := h; exact ⟨σ', H', I.unwish, q⟩
  | brk => obtain ⟨σ', H', I, q⟩ := h; exact ⟨σ', H', I.unwish, q⟩
  | cont => obtain ⟨σ', H', I, q⟩ := h; exact ⟨σ', H', I.unwish, q⟩
  | ret u => obtain ⟨v, σ', H', I, r, q⟩ := h; exact ⟨v, σ', H', I.unwish, r, q⟩
theorem PSs.nox {st : List Stmt} {t : TS} (h : PSs X.nox st t) : PSs X st t := fun pins s σ H D I hw =>
  wpAny_mono (h pins s σ H D (I.wish _) hw) (fun _ _ q => q.unwish) fun _ _ z => False.elim z
end
section
variable {X : Cx} {st : Stmt} {rest : List Stmt} {t u : TS} {e : Expr} {te : TE} {pos : Pos}
def tNext : TS := fun D σ H => D.nx σ H
def tSeq (t u : TS) : TS := fun D σ H => t { D with nx := u D } σ H
theorem pss_nil : PSs X [] tNext := fun _ _ σ H _ I h => wpAny_execs_nil ⟨σ, H, I, h⟩
theorem pss_cons (h1 : PS X st t) (h2 : PSs X rest u) : PSs X (st :: rest) (tSeq t u) := by
  intro pins s σ H D I h
  refine wpAny_execs_cons (thn (h1 pins s σ H { D with nx := u D } I h) fun f s1 q => ?_)
  cases f with
  | next =>
    obtain ⟨σ', H', I', q⟩ := q
    exact h2 pins s1 σ' H' D I' q
  | ret v => exact q
  | brk => exact q
  | cont => exact q
theorem pss_one (h1 : PS X st t) : PSs X [st] t := by
  intro pins s σ H D I h
  refine wpAny_execs_cons (thn (h1 pins s σ H D I h) fun f s1 q => ?_)
  cases f with
  | next => exact wpAny_execs_nil q
  | ret v => exact q
  | brk => exact q
  | cont => exact q
theorem ps_pass : PS X (.Pass pos) tNext := fun _ _ σ H _ I h => wpAny_Pass ⟨σ, H, I, h⟩
theorem Inv.quiet {pins : List (Addr × Obj)} {σ : St} {H : Hp} {s : Shared} (I : Inv X pins σ H s) : interactive X.env = false := by simp [interactive, I.ok.kind]
def tDrop (te : TE) : TS := fun D σ H => te σ H fun _ H1 => D.nx σ H1
theorem ps_expr (he : PE X e te) (hs : swapsWith e none pos.line X.env = pure false := by rfl) : PS X (.Expr e pos) (tDrop te) := by
  intro pins s σ H D I h
  exact wpAny_Expr_any (thn (he pins s σ H _ I h) fun v s1 ⟨x, H1, I1, r1, q1⟩ => ⟨σ, H1, I1, q1⟩) I.quiet hs
def tRet (te : TE) : TS := fun D σ H => te σ H D.rt
theorem ps_ret (he : PE X e te) : PS X (.Return (some e) pos) (tRet te) := by
  intro pins s σ H D I h
  exact wpAny_Return_some (thn (he pins s σ H _ I h) fun v s1 ⟨x, H1, I1, r1, q1⟩ => ⟨x, σ, H1, I1, r1, q1⟩)
def tIfS (c : TT) (t u : TS) : TS := fun D σ H => c σ H fun b H1 => if b = true then t D σ H1 else u D σ H1
theorem ps_if {c : Expr} {a b : List Stmt} {tc : TT} (hc : PT X c tc) (ha : PSs X a t) (hb : PSs X b u) : PS X (.If c a b pos) (tIfS tc t u) := by
  intro pins s σ H D I h
  refine wpAny_If (thn (hc pins s σ H _ I h) fun d s1 ⟨H1, I1, q1⟩ => ?_)
  cases d with
  | true => exact ha pins s1 σ H1 D I1 q1
  | false => exact hb pins s1 σ H1 D I1 q1
end
abbrev TG := V → St → Hp → (St → Hp → Prop) → Prop
def PG (X : Cx) (target : Expr) (t : TG) : Prop :=
  ∀ (pins : List (Addr × Obj)) (s : Shared) (σ : St) (H : Hp) (v : V) (u : Value) (Q : St → Hp → Prop), Inv X pins σ H s → RelV v u → t v σ H Q →
    wpAny (model X.prog X.w) X.A (assign target X.env u) (fun _ s' => ∃ σ' H', Inv X pins σ' H' s' ∧ Q σ' H') X.xe s
abbrev TSet := V → V → V → Hp → (Hp → Prop) → Prop
def PSet (X : Cx) (t : TSet) : Prop :=
  ∀ (pins : List (Addr × Obj)) (s : Shared) (σ : St) (H : Hp) (o i v : V) (ov iv u : Value) (Q : Hp → Prop), Inv X pins σ H s → RelV o ov → RelV i iv → RelV v u → t o i v H Q →
    wpAny (model X.prog X.w) X.A (setItem ov iv u) (fun _ s' => ∃ H', Inv X pins σ H' s' ∧ Q H') X.xe s
abbrev TIp := V → V → Hp → VK → Prop
def PIp (X : Cx) (op : Operator) (t : TIp) : Prop :=
  ∀ (pins : List (Addr × Obj)) (s : Shared) (σ : St) (H : Hp) (x y : V) (v u : Value) (Q : VK), Inv X pins σ H s → RelV x v → RelV y u → t x y H Q →
    wpAny (model X.prog X.w) X.A (inplaceOp op v u) (EP X pins σ Q) X.xe s
section
variable {X : Cx} {pos : Pos}
def gName (i : Nat) : TG := fun v σ H Q => Q (σ.set i (some v)) H
theorem pg_name {i : Nat} {x : Str} (hN : X.N.Nodup) (hi : X.N[i]? = some x) (hx : Loc X.env.scope x) (hf : X.fn x = true ∨ X.env.scope.names.lookup x = some .local := by first | exact .inl rfl | exact .inr rfl | assumption) : PG X (.Name x pos) (gName i) := by
  intro pins s σ H v u Q I r h
  exact wpAny_assign_Name (store_ok I hN hi hx r (fun s' I' => ⟨_, H, I', h⟩) hf)
def gSub (to ti : TE) (t : TSet) : TG := fun v σ H Q => to σ H fun o H1 => ti σ H1 fun i H2 => t o i v H2 fun H3 => Q σ H3
theorem pg_sub {o i : Expr} {to ti : TE} {t : TSet} (ho : PE X o to) (hi : PE X i ti) (hs : PSet X t)
    (ha : ∀ v, assign (.Subscript o i pos) X.env v = (do
      let ov ← holding [v] (eval o X.env)
      let iv ← holding [v, ov] (eval i X.env)
      standAt pos
      holding [v, ov, iv] (setItem ov iv v)
      release [v, ov, iv] []) := by intro _; rfl) : PG X (.Subscript o i pos) (gSub to ti t) := by
  intro pins s σ H v u Q I r h
  rw [ha]
  refine wpAny_bind (wpAny_holding (thn (ho pins s σ H _ I h) fun ov s1 ⟨x, H1, I1, r1, q1⟩ => ?_))
  refine wpAny_bind (wpAny_holding (thn (hi pins s1 σ H1 _ I1 q1) fun iv s2 ⟨y, H2, I2, r2, q2⟩ => ?_))
  refine wpAny_bind (wpAny_standAt (wpAny_bind (wpAny_holding (thn (hs pins s2 σ H2 x y v ov iv u _ I2 r1 r2 r q2) fun _ s3 ⟨H3, I3, q3⟩ => ?_))))
  exact wpAny_release ⟨σ, H3, I3, q3⟩
def tAsg (te : TE) (g : TG) : TS := fun D σ H => te σ H fun x H1 => g x σ H1 D.nx
theorem ps_asg {tg e : Expr} {te : TE} {g : TG} (he : PE X e te) (hg : PG X tg g) (hs : swapsWithSole [tg] e pos.line X.env = pure false := by rfl) (hw : swappedStores [tg] e X.env = pure none := by rfl)
    (h1 : (assignEach [tg] X.env).map (·.2) = [assign tg X.env] := by rfl) : PS X (.Assign [tg] e pos) (tAsg te g) := by
  intro pins s σ H D I h
  refine wpAny_Assign_stores (thn (he pins s σ H _ I h) fun v s1 ⟨x, H1, I1, r1, q1⟩ => ?_) hs hw
  rw [h1]
  exact thn (hg pins s1 σ H1 x v _ I1 r1 q1) fun _ s2 q => q
theorem ps_set {i : Nat} {x : Str} {e : Expr} {te : TE} {pos' : Pos} (hN : X.N.Nodup) (hi : X.N[i]? = some x) (hx : Loc X.env.scope x) (he : PE X e te) (hs : swapsWith e (some (.Name x pos')) pos.line X.env = pure false := by rfl) (hf : X.fn x = true ∨ X.env.scope.names.lookup x = some .local := by first | exact .inl rfl | exact .inr rfl | assumption) :
    PS X (.Assign [.Name x pos'] e pos) (tAsg te (gName i)) := by
  intro pins s σ H D I h
  refine wpAny_Assign_Name (thn (he pins s σ H _ I h) fun v s1 ⟨y, H1, I1, r1, q1⟩ => ?_) hs
  exact store_ok I1 hN hi hx r1 (fun s2 I2 => ⟨_, H1, I2, q1⟩) hf
def tAug (i : Nat) (te : TE) (ti : TIp) : TS := fun D σ H => ∃ x, σ[i]? = some (some x) ∧ te σ H fun y H1 => ti x y H1 fun z H2 => D.nx (σ.set i (some z)) H2
theorem ps_aug {i : Nat} {x : Str} {e : Expr} {te : TE} {op : Operator} {ti : TIp} {pos' : Pos} (hN : X.N.Nodup) (hi : X.N[i]? = some x) (hx : Loc X.env.scope x) (he : PE X e te) (ho : PIp X op ti) (hf : X.fn x = true ∨ X.env.scope.names.lookup x = some .local := by first | exact .inl rfl | exact .inr rfl | assumption) :
    PS X (.AugAssign (.Name x pos') op e pos) (tAug i te ti) := by
  intro pins s σ H D I h
  obtain ⟨v, e1, h⟩ := h
  obtain ⟨m, hn, hl⟩ := I.loc
  have vis : Vis X.env.scope x := by rcases hx with k | k; exact .inl k; exact .inr (.inl k)
  obtain ⟨u, r, l⟩ := hl i x v hi e1 vis
  refine wpAny_AugAssign_Name ?_
  have go : wpAny (model X.prog X.w) X.A (eval e X.env) (fun w s₂ => wpAny (model X.prog X.w) X.A (inplaceOp op u w) (fun r s₃ => wpAny (model X.prog X.w) X.A (storeName X.env x r) (fun _ => SP X pins D .next) X.xe s₃) X.xe s₂) X.xe s := by
    refine thn (he pins s σ H _ I h) fun w s1 ⟨y, H1, I1, r1, q1⟩ => ?_
    refine thn (ho pins s1 σ H1 v y u w _ I1 r r1 q1) fun z s2 ⟨zv, H2, I2, r2, q2⟩ => ?_
    exact store_ok I2 hN hi hx r2 (fun s3 I3 => ⟨_, H2, I3, q2⟩) hf
  rcases l with ⟨hk, hm⟩ | ⟨hk, c, hc, hcell⟩
  · exact wpAny_loadName_local I.ok.kind hk hn hm go
  · rcases hk with hk | hk
    · exact wpAny_loadName_cell I.ok.kind hk hc hcell go
    · rcases hx with k | k
      · have : X.env.scope.names.lookup x = some .free := hk
        rw [k] at this; cases this
      · have : X.env.scope.names.lookup x = some .free := hk
        rw [k] at this; cases this
def tAugS (to ti te : TE) (tget : V → V → Hp → VK → Prop) (tip : TIp) (tset : TSet) : TS := fun D σ H => to σ H fun o H1 => ti σ H1 fun i H2 => tget o i H2 fun x H3 => te σ H3 fun y H4 => tip x y H4 fun z H5 => tset o i z H5 fun H6 => D.nx σ H6
def PGet (X : Cx) (t : V → V → Hp → VK → Prop) : Prop :=
  ∀ (pins : List (Addr × Obj)) (s : Shared) (σ : St) (H : Hp) (o i : V) (ov iv : Value) (Q : VK), Inv X pins σ H s → RelV o ov → RelV i iv → t o i H Q →
    wpAny (model X.prog X.w) X.A (getItem ov iv) (EP X pins σ Q) X.xe s
theorem ps_augS {o i e : Expr} {to ti te : TE} {tget : V → V → Hp → VK → Prop} {tip : TIp} {tset : TSet} {op : Operator} {tpos : Pos} (ho : PE X o to) (hi : PE X i ti) (hg : PGet X tget) (he : PE X e te) (hp : PIp X op tip) (hs : PSet X tset)
    (ha : ∀ ov iv new, augStore i ov iv new = (do holding [new, ov, iv] (setItem ov iv new); release [new, ov, iv] []; pure .next) := by intros; rfl) : PS X (.AugAssign (.Subscript o i tpos) op e pos) (tAugS to ti te tget tip tset) := by
  intro pins s σ H D I h
  refine wpAny_AugAssign_SubscriptAny (thn (ho pins s σ H _ I h) fun ov s1 ⟨x1, H1, I1, r1, q1⟩ => ?_) ha
  refine thn (hi pins s1 σ H1 _ I1 q1) fun iv s2 ⟨x2, H2, I2, r2, q2⟩ => ?_
  refine thn (hg pins s2 σ H2 x1 x2 ov iv _ I2 r1 r2 q2) fun old s3 ⟨x3, H3, I3, r3, q3⟩ => ?_
  refine thn (he pins s3 σ H3 _ I3 q3) fun v s4 ⟨x4, H4, I4, r4, q4⟩ => ?_
  refine thn (hp pins s4 σ H4 x3 x4 old v _ I4 r3 r4 q4) fun new s5 ⟨x5, H5, I5, r5, q5⟩ => ?_
  exact thn (hs pins s5 σ H5 x1 x2 x5 ov iv new _ I5 r1 r2 r5 q5) fun _ s6 ⟨H6, I6, q6⟩ => ⟨σ, H6, I6, q6⟩
def ipI (f : Int → Int → Int) : TIp := fun x y H Q => ∃ i j, x = .int i ∧ y = .int j ∧ Q (.int (f i j)) H
theorem ip_add : PIp X .Add (ipI fun i j => i + j) := by
  intro pins s σ H x y v u Q I r1 r2 h
  obtain ⟨i, j, e1, e2, q⟩ := h
  subst e1; subst e2
  obtain ⟨t, rfl⟩ := r1
  obtain ⟨t', rfl⟩ := r2
  exact iadd_int ⟨.int _, H, I.tok _, ⟨_, rfl⟩, q⟩
end
section
variable {X : Cx} {pos : Pos}
def tWhile (c : TT) (tb : TS) : TS := fun D σ H => ∃ W : Nat → St → Hp → Prop, (∃ m, W m σ H) ∧ ∀ m σ H, W m σ H →
  c σ H fun b H1 => if b = true then ∃ N : St → Hp → Prop, (∀ σ' H', N σ' H' → ∃ m', m' < m ∧ W m' σ' H') ∧ tb { D with nx := N, ct := N, bk := D.nx } σ H1 else D.nx σ H1
theorem ps_while {c : Expr} {body : List Stmt} {tc : TT} {tb : TS} (hp : PassesOwn (model X.prog X.w) X.A X.env X.xe) (hc : PT X c tc) (hb : PSs X body tb) : PS X (.While c body [] pos) (tWhile tc tb) := by
  intro pins s σ H D I h
  obtain ⟨W, ⟨m0, w0⟩, turn⟩ := h
  refine wpAny_While (codeAny_whileLoop (fun n s' => ∃ σ' H', Inv X pins σ' H' s' ∧ W n σ' H') ?_ m0 ⟨σ, H, I, w0⟩)
  rintro n s1 ⟨σ1, H1, I1, w1⟩
  refine wpAny_passesOwn hp (thn (hc pins s1 σ1 H1 _ I1 (turn n σ1 H1 w1)) fun b s2 ⟨H2, I2, q2⟩ => ?_)
  cases b with
  | true =>
    obtain ⟨N, hN, q2⟩ := q2
    rw [if_pos rfl]
    refine wpAny_passesOwn hp (thn (hb pins s2 σ1 H2 _ I2 q2) fun f s3 q3 => ?_)
    cases f with
    | next =>
      obtain ⟨σ3, H3, I3, n3⟩ := q3
      obtain ⟨m', hm, w3⟩ := hN σ3 H3 n3
      exact ⟨m', hm, σ3, H3, I3, w3⟩
    | cont =>
      obtain ⟨σ3, H3, I3, n3⟩ := q3
      obtain ⟨m', hm, w3⟩ := hN σ3 H3 n3
      exact ⟨m', hm, σ3, H3, I3, w3⟩
    | brk => exact q3
    | ret v => exact q3
  | false =>
    rw [if_neg Bool.false_ne_true]
    exact wpAny_execs_nil ⟨σ1, H2, I2, q2⟩
end
structure It where
  go : Nat → Hp → Prop
  yld : Nat → Hp → V → Hp → Prop
  stop : Nat → Hp → Prop
def FpOk (X : Cx) (pins : List (Addr × Obj)) (H : Hp) (b : Addr) : Prop :=
  H b = none ∧ b ≠ X.env.locals ∧ b ∉ X.fs ∧ (b ∈ X.ex ∨ X.s₀.heap.objs.size ≤ b) ∧ (∀ x c, X.env.cells.lookup x = some c → c ≠ b) ∧ ∀ p ∈ X.pn ++ pins, p.1 ≠ b
theorem Inv.fpOk {X : Cx} {pins : List (Addr × Obj)} {σ : St} {H H' : Hp} {s : Shared} {b : Addr} (I : Inv X pins σ H s) (hb : s.heap.objs.size ≤ b) (hn : H' b = none) : FpOk X pins H' b := by
  refine ⟨hn, Nat.ne_of_gt (Nat.lt_of_lt_of_le I.lt hb), I.nofs hb, .inr (Nat.le_trans I.sz hb), fun x c e z => ?_, fun p hp z => ?_⟩
  · obtain ⟨v, q⟩ := I.cell x c e
    exact absurd (Nat.lt_of_lt_of_le q.lt (by rw [z]; exact hb)) (Nat.lt_irrefl _)
  · exact absurd (Nat.lt_of_lt_of_le (Heap.lt_size (I.pin p hp).1) (by rw [z]; exact hb)) (Nat.lt_irrefl _)
structure Turn (P : Program) (w : World) (K : PySem.W.Frag) (tg : Expr) (J : It) (fp : List Addr) (it : Addr) (tn : Nat → Heap → Prop) : Prop where
  mem : it ∈ fp
  obj : ∀ i h, tn i h → ∀ b ∈ fp, ∃ o, h.get? b = some o ∧ ∀ v, o.data ≠ .cell v
  keep : ∀ i h h', tn i h → (∀ b ∈ fp, ∀ o, h.get? b = some o → h'.get? b = some o) → tn i h'
  item : ∀ (X : Cx), X.prog = P → X.w = w → X.K = K → X.calm = true → ∀ (i : Nat) (pins : List (Addr × Obj)) (s : Shared) (σ : St) (H : Hp) (E : Value → Shared → Prop), Inv X pins σ H s → (∀ b ∈ fp, FpOk X pins H b) → tn i s.heap → J.go i H →
    wpAny (model P w) X.A (pyNext (.ref it)) (fun r s1 => ∃ u, r = some u ∧
      wpAny (model P w) X.A (letOwnedTupleGo tg (.ref it) u) (fun _ s2 => ∃ x H', Inv X pins σ H' s2 ∧ RelV x u ∧ J.yld i H x H' ∧ tn (i + 1) s2.heap ∧ ∀ b ∈ fp, H' b = none) E s1) E s
  done : ∀ (X : Cx), X.prog = P → X.w = w → X.K = K → X.calm = true → ∀ (i : Nat) (pins : List (Addr × Obj)) (s : Shared) (σ : St) (H : Hp) (E : Value → Shared → Prop), Inv X pins σ H s → (∀ b ∈ fp, FpOk X pins H b) → tn i s.heap → J.stop i H →
    wpAny (model P w) X.A (pyNext (.ref it)) (fun r s1 => r = none ∧ Inv X pins σ H s1) E s
  self : ∀ (A : Around) (i : Nat) (s : Shared) (Q : Value → Shared → Prop) (E : Value → Shared → Prop), tn i s.heap → Q (.ref it) s → wpAny (model P w) A (pyIter (.ref it)) Q E s
abbrev TI := St → Hp → (It → Hp → Prop) → Prop
def PIE (X : Cx) (pins : List (Addr × Obj)) (σ : St) (tg : Expr) (R : It → Hp → Prop) (itv : Value) (s2 : Shared) : Prop :=
  ∃ (it : Addr) (fp : List Addr) (tn : Nat → Heap → Prop) (J : It) (H' : Hp), itv = .ref it ∧ Inv X pins σ H' s2 ∧ Turn X.prog X.w X.K tg J fp it tn ∧ tn 0 s2.heap ∧ (∀ b ∈ fp, FpOk X pins H' b) ∧ R J H'
def PI (X : Cx) (tg iter : Expr) (wi : TI) : Prop :=
  ∀ (pins : List (Addr × Obj)) (s : Shared) (σ : St) (H : Hp) (R : It → Hp → Prop), Inv X pins σ H s → wi σ H R →
    wpAny (model X.prog X.w) X.A (eval iter X.env) (fun v s1 => wpAny (model X.prog X.w) X.A (pyIter v) (PIE X pins σ tg R) X.xe s1) X.xe s
theorem go_of {M : Model} {A : Around} {E : Value → Shared → Prop} {s : Shared} {tg : Expr} {it : Addr} {u : Value} {o : Obj} {n : String} {vs : Array Value} {Q : Unit → Shared → Prop} (ho : s.heap.get? it = some o) (hc : o.cls = .type n) (hd : o.data = .fields vs)
    (hn : ["enumerate", "zip", "dict_itemiterator", "dict_reverseitemiterator", "odict_iterator", "itertools.zip_longest", "itertools.pairwise"].contains n = false) (hQ : Q () s) : wpAny M A (letOwnedTupleGo tg (.ref it) u) Q E s := by
  unfold letOwnedTupleGo
  cases tg <;> first
    | exact wpAny_pure hQ
    | (cases u <;> first
        | exact wpAny_pure hQ
        | (refine wpAny_bind (wpAny_load ho ?_)
           rw [hc, hd]
           show wpAny M A (if (["enumerate", "zip", "dict_itemiterator", "dict_reverseitemiterator", "odict_iterator", "itertools.zip_longest", "itertools.pairwise"].contains n && vs[0]? == some (rawInt _)) = true then _ else _) Q E s
           rw [if_neg (by intro h; rw [hn, Bool.false_and] at h; cases h)]
           exact wpAny_pure hQ))
def Itl (K : PySem.W.Frag) (a : Addr) : It :=
  ⟨fun i H => ∃ xs x, SqL K H a xs ∧ xs[i]? = some x, fun i H x H' => H' = H ∧ ∀ xs, SqL K H a xs → xs[i]? = some x, fun i H => ∃ xs, SqL K H a xs ∧ xs.length ≤ i⟩
def Itt (K : PySem.W.Frag) (a : Addr) : It :=
  ⟨fun i H => ∃ xs x, SqT K H a xs ∧ xs[i]? = some x, fun i H x H' => H' = H ∧ ∀ xs, SqT K H a xs → xs[i]? = some x, fun i H => ∃ xs, SqT K H a xs ∧ xs.length ≤ i⟩
def Itr (lo : Int) (n : Nat) : It := ⟨fun i _ => i < n, fun i H x H' => H' = H ∧ x = .int (lo + i), fun i _ => n ≤ i⟩
theorem turn_list {P : Program} {w : World} {K : PySem.W.Frag} {tg : Expr} (a it : Addr) : Turn P w K tg (Itl K a) [it] it (fun i h => h.IsListIter it a i) where
  mem := by simp
  obj := fun i h st b hb => by
    have e : b = it := by simpa using hb
    subst e
    obtain ⟨o, e, c, d⟩ := st
    exact ⟨o, e, fun v z => by rw [d] at z; cases z⟩
  keep := fun i h h' st k => st.at fun o e => k it (by simp) o e
  item := by
    intro X hP hw hK hc i pins s σ H E I hf st hg
    subst hP hw hK
    obtain ⟨xs, x, hq, hx⟩ := hg
    obtain ⟨its, rv, p, hz⟩ := I.list hq
    obtain ⟨u, hu, ru⟩ := rv.get hx
    obtain ⟨f0, f1, f2, f3, f4, f5⟩ := hf it (by simp)
    refine wpAny_pyNext_list_item st p.isList (x := u) (by simpa using hu) fun h' st' sb => ?_
    have I1 : Inv X pins σ H { s with heap := h' } := I.turned (t' := s.toks) (fun b o hb e => (sb.2 b hb).trans e) f0 f1 f3 f4 f5
    obtain ⟨o, e, c, d⟩ := id st'
    exact ⟨u, rfl, go_of (s := { s with heap := h' }) e c d (by decide) ⟨x, H, I1, ru, ⟨rfl, fun ys hy => by rw [I.list_inj hy hq]; exact hx⟩, st', fun b hb => (hf b hb).1⟩⟩
  done := by
    intro X hP hw hK hc i pins s σ H E I hf st hg
    subst hP hw hK
    obtain ⟨xs, hq, hx⟩ := hg
    obtain ⟨its, rv, p, hz⟩ := I.list hq
    obtain ⟨f0, f1, f2, f3, f4, f5⟩ := hf it (by simp)
    have hl := rv.length
    exact wpAny_pyNext_list_end (I.ok.hd hc) st p.isList (by simp; omega) fun h' eb => ⟨rfl, I.turned (t' := s.toks) (fun b o hb e => eb b o hb e) f0 f1 f3 f4 f5⟩
  self := fun _ _ _ _ _ st h => wpAny_pyIter_listiter st h
theorem turn_tuple {P : Program} {w : World} {K : PySem.W.Frag} {tg : Expr} (a it : Addr) : Turn P w K tg (Itt K a) [it] it (fun i h => h.IsTupleIter it a i) where
  mem := by simp
  obj := fun i h st b hb => by
    have e : b = it := by simpa using hb
    subst e
    obtain ⟨o, e, c, d⟩ := st
    exact ⟨o, e, fun v z => by rw [d] at z; cases z⟩
  keep := fun i h h' st k => st.at fun o e => k it (by simp) o e
  item := by
    intro X hP hw hK hc i pins s σ H E I hf st hg
    subst hP hw hK
    obtain ⟨xs, x, hq, hx⟩ := hg
    obtain ⟨its, rv, p, hz⟩ := I.tuple hq
    obtain ⟨u, hu, ru⟩ := rv.get hx
    obtain ⟨f0, f1, f2, f3, f4, f5⟩ := hf it (by simp)
    refine wpAny_pyNext_tuple_item st (show s.heap.IsTuple a its.toArray from p) (x := u) (by simpa using hu) fun h' st' sb => ?_
    have I1 : Inv X pins σ H { s with heap := h' } := I.turned (t' := s.toks) (fun b o hb e => (sb.2 b hb).trans e) f0 f1 f3 f4 f5
    obtain ⟨o, e, c, d⟩ := id st'
    exact ⟨u, rfl, go_of (s := { s with heap := h' }) e c d (by decide) ⟨x, H, I1, ru, ⟨rfl, fun ys hy => by rw [I.tuple_inj hy hq]; exact hx⟩, st', fun b hb => (hf b hb).1⟩⟩
  done := by
    intro X hP hw hK hc i pins s σ H E I hf st hg
    subst hP hw hK
    obtain ⟨xs, hq, hx⟩ := hg
    obtain ⟨its, rv, p, hz⟩ := I.tuple hq
    obtain ⟨f0, f1, f2, f3, f4, f5⟩ := hf it (by simp)
    have hl := rv.length
    exact wpAny_pyNext_tuple_end (I.ok.hd hc) st (show s.heap.IsTuple a its.toArray from p) (by simp; omega) fun h' eb => ⟨rfl, I.turned (t' := s.toks) (fun b o hb e => eb b o hb e) f0 f1 f3 f4 f5⟩
  self := fun _ _ _ _ _ st h => wpAny_pyIter_tupleiter st h
theorem turn_range {P : Program} {w : World} {K : PySem.W.Frag} {tg : Expr} (it : Addr) (lo : Int) (n : Nat) : Turn P w K tg (Itr lo n) [it] it (fun i h => IsRangeIter h it (lo + (i : Nat) * 1) ((n : Int) - (i : Nat)) 1) where
  mem := by simp
  obj := fun i h st b hb => by
    have e : b = it := by simpa using hb
    subst e
    exact ⟨_, st, fun v z => by
      have z' : Data.fields _ = Data.cell v := z
      cases z'⟩
  keep := fun i h h' st k => k it (by simp) _ st
  item := by
    intro X hP hw hK hc i pins s σ H E I hf st hg
    subst hP hw hK
    obtain ⟨f0, f1, f2, f3, f4, f5⟩ := hf it (by simp)
    have W := Walks.range (prog := X.prog) (w := X.w) (I.ok.hd hc) it lo 1 n
    refine W.item i s _ _ hg st fun v h' tk hv st' kk => ?_
    obtain ⟨t, rfl⟩ := hv
    have I1 : Inv X pins σ H { s with heap := h', toks := tk } := I.turned (fun b o hb e => kk b o (by simpa using hb) e) f0 f1 f3 f4 f5
    refine ⟨_, rfl, go_of (s := { s with heap := h', toks := tk }) (n := "range_iterator") st' rfl rfl (by decide) ⟨.int (lo + i), H, I1, ⟨t, ?_⟩, ⟨rfl, rfl⟩, st', fun b hb => (hf b hb).1⟩⟩
    rw [Int.mul_one]
  done := by
    intro X hP hw hK hc i pins s σ H E I hf st hg
    subst hP hw hK
    obtain ⟨f0, f1, f2, f3, f4, f5⟩ := hf it (by simp)
    exact wpAny_pyNext_range_end (I.ok.hd hc) st (by have : n ≤ i := hg; omega) fun h' eb => ⟨rfl, I.turned (t' := s.toks) (fun b o hb e => eb b o hb e) f0 f1 f3 f4 f5⟩
  self := fun _ _ _ _ _ st h => wpAny_pyIter_rangeiter st h
end L2
namespace L2
open PySem PySem.Spec PyProof.Rows
section
variable {X : Cx} {tg : Expr}
def iList (K : PySem.W.Frag) (tl : TE) : TI := fun σ H R => tl σ H fun x H1 => ∃ a, x = .ref a ∧ (∃ xs, SqL K H1 a xs) ∧ R (Itl K a) H1
def iTup (K : PySem.W.Frag) (tl : TE) : TI := fun σ H R => tl σ H fun x H1 => ∃ a, x = .ref a ∧ (∃ xs, SqT K H1 a xs) ∧ R (Itt K a) H1
theorem pi_list {l : Expr} {tl : TE} (hl : PE X l tl) : PI X tg l (iList X.K tl) := by
  intro pins s σ H R I h
  refine thn (hl pins s σ H _ I h) fun v s1 ⟨x, H1, I1, r1, q1⟩ => ?_
  obtain ⟨a, e, ⟨xs, hq⟩, q⟩ := q1
  subst e
  cases r1
  obtain ⟨its, rv, p, hz⟩ := I1.list hq
  refine wpAny_pyIter_list p.isList ?_
  refine ⟨s1.heap.objs.size, [s1.heap.objs.size], _, _, H1, rfl, I1.kept (t' := s1.toks) fun b o e => Heap.get?_push_of_some _ e, turn_list a _, ⟨_, Heap.get?_push_size _ rfl, rfl, rfl⟩, fun b hb => ?_, q⟩
  have e : b = s1.heap.objs.size := by simpa using hb
  subst e
  exact I1.fpOk (Nat.le_refl _) (I1.hok.fresh (Nat.le_refl _))
theorem pi_tup {l : Expr} {tl : TE} (hl : PE X l tl) : PI X tg l (iTup X.K tl) := by
  intro pins s σ H R I h
  refine thn (hl pins s σ H _ I h) fun v s1 ⟨x, H1, I1, r1, q1⟩ => ?_
  obtain ⟨a, e, ⟨xs, hq⟩, q⟩ := q1
  subst e
  cases r1
  obtain ⟨its, rv, p, hz⟩ := I1.tuple hq
  refine wpAny_pyIter_tuple (show s1.heap.IsTuple a its.toArray from p) ?_
  refine ⟨s1.heap.objs.size, [s1.heap.objs.size], _, _, H1, rfl, I1.kept (t' := s1.toks) fun b o e => Heap.get?_push_of_some _ e, turn_tuple a _, ⟨_, Heap.get?_push_size _ rfl, rfl, rfl⟩, fun b hb => ?_, q⟩
  have e : b = s1.heap.objs.size := by simpa using hb
  subst e
  exact I1.fpOk (Nat.le_refl _) (I1.hok.fresh (Nat.le_refl _))
theorem range_it {pins : List (Addr × Obj)} {σ : St} {H : Hp} {s : Shared} {R : It → Hp → Prop} {E : Value → Shared → Prop} {lo hi : Int} {t u v : Tok} {tk : Nat} (I : Inv X pins σ H s) (h1 : -(2 ^ 62) ≤ lo) (h2 : lo < 2 ^ 62) (h3 : -(2 ^ 62) ≤ hi) (h4 : hi < 2 ^ 62)
    (q : R (Itr lo (hi - lo).toNat) H) : wpAny (model X.prog X.w) X.A (pyIter (.ref s.heap.objs.size)) (PIE X pins σ tg R) E { s with heap := s.heap.push { cls := .type "range", data := .fields #[.int lo t, .int hi u, .int 1 v] }, toks := tk } := by
  refine wpAny_pyIter_range (IsRange.new ..) (small_one h1 h2 h3 h4) ?_
  have I1 : Inv X pins σ H { s with heap := s.heap.push { cls := .type "range", data := .fields #[.int lo t, .int hi u, .int 1 v] }, toks := tk } := I.kept fun b o e => Heap.get?_push_of_some _ e
  refine ⟨(s.heap.push { cls := .type "range", data := .fields #[.int lo t, .int hi u, .int 1 v] }).objs.size, [(s.heap.push { cls := .type "range", data := .fields #[.int lo t, .int hi u, .int 1 v] }).objs.size], _, _, H, rfl,
    I1.kept (t' := tk) fun b o e => Heap.get?_push_of_some _ e, turn_range _ lo (hi - lo).toNat, ?_, fun b hb => ?_, q⟩
  · have e1 : lo + ((0 : Nat) : Int) * 1 = lo := by simp
    have e2 : (((hi - lo).toNat : Nat) : Int) - ((0 : Nat) : Int) = Builtin.Range.rangeSize lo hi 1 := by rw [rangeSize_one]; split <;> omega
    show IsRangeIter _ _ (lo + ((0 : Nat) : Int) * 1) ((((hi - lo).toNat : Nat) : Int) - ((0 : Nat) : Int)) 1
    rw [e1, e2]
    exact Heap.get?_push_size _ rfl
  · have e : b = (s.heap.push { cls := .type "range", data := .fields #[.int lo t, .int hi u, .int 1 v] }).objs.size := by simpa using hb
    subst e
    exact I1.fpOk (Nat.le_refl _) (I1.hok.fresh (Nat.le_refl _))
def iRng2 (ta : TA) : TI := fun σ H R => ta σ H fun vs H1 => ∃ i j : Int, vs = [.int i, .int j] ∧ (-(2 ^ 62) ≤ i ∧ i < 2 ^ 62 ∧ -(2 ^ 62) ≤ j ∧ j < 2 ^ 62) ∧ R (Itr i (j - i).toNat) H1
theorem pi_range2 {a b : Expr} {ta : TA} {p pos : Pos} (hg : Gl X "range") (hm : X.mg "range" = none) (ha : PA X [a, b] ta) (hs : starEach [a, b] X.env = [(false, eval a X.env), (false, eval b X.env)] := by rfl) (hs2 : starEach [b] X.env = [(false, eval b X.env)] := by rfl) :
    PI X tg (.Call (.Name "range" p) [a, b] [] pos) (iRng2 ta) := by
  intro pins s σ H R I h
  refine Call_ (ld_blt I hg hm boot_range (PyProof.Rows.callWith_type1 (thn (ha pos pins s σ H _ I h) fun us s1 ⟨vs, H1, I1, r1, q1⟩ => ?_) (by rw [hs, hs2]) (by rw [hs2]; rfl)))
  obtain ⟨i, j, e, ⟨q1, q2, q3, q4⟩, q⟩ := q1
  subst e
  cases r1 with
  | cons r rr =>
    cases rr with
    | cons r' rr =>
      cases rr
      obtain ⟨t, rfl⟩ := r
      obtain ⟨t', rfl⟩ := r'
      exact call_range_2 (range_it I1 q1 q2 q3 q4 q)
def tFor (wi : TI) (g : TG) (tb : TS) : TS := fun D σ H => wi σ H fun J H1 => ∃ W : Nat → Nat → St → Hp → Prop, (∃ m, W 0 m σ H1) ∧ ∀ i m σ H, W i m σ H →
  (J.stop i H ∧ D.nx σ H) ∨ (J.go i H ∧ ∃ N : St → Hp → Prop, (∀ σ' H', N σ' H' → ∃ m', m' < m ∧ W (i + 1) m' σ' H') ∧ ∀ x H', J.yld i H x H' → g x σ H' fun σ2 H2 => tb { D with nx := N, ct := N, bk := D.nx } σ2 H2)
def pinsAt (fp : List Addr) (h : Heap) : List (Addr × Obj) := fp.filterMap fun b => (h.get? b).map fun o => (b, o)
theorem mem_pinsAt {fp : List Addr} {h : Heap} {b : Addr} {o : Obj} (hb : b ∈ fp) (e : h.get? b = some o) : (b, o) ∈ pinsAt fp h := List.mem_filterMap.mpr ⟨b, hb, by rw [e]; rfl⟩
theorem of_pinsAt {fp : List Addr} {h : Heap} {p : Addr × Obj} (hp : p ∈ pinsAt fp h) : p.1 ∈ fp ∧ h.get? p.1 = some p.2 := by
  obtain ⟨b, hb, e⟩ := List.mem_filterMap.mp hp
  cases q : h.get? b with
  | none => rw [q] at e; cases e
  | some o =>
    rw [q] at e
    have e' : (b, o) = p := Option.some.inj e
    subst e'
    exact ⟨hb, q⟩
theorem Inv.pinned {pins : List (Addr × Obj)} {σ : St} {H : Hp} {s : Shared} {fp : List Addr} (I : Inv X pins σ H s) (hf : ∀ b ∈ fp, FpOk X pins H b) (ho : ∀ b ∈ fp, ∃ o, s.heap.get? b = some o ∧ ∀ v, o.data ≠ .cell v) : Inv X (pins ++ pinsAt fp s.heap) σ H s :=
  I.pins_of fun p hp => (List.mem_append.mp hp).elim (fun z => I.pin p (List.mem_append_right _ z)) fun z => by
    obtain ⟨hb, e⟩ := of_pinsAt z
    obtain ⟨f0, f1, f2, _⟩ := hf p.1 hb
    obtain ⟨o, e', d⟩ := ho p.1 hb
    rw [e] at e'; cases e'
    exact ⟨e, f0, f1, f2, d⟩
theorem Inv.unpinned {pins pl : List (Addr × Obj)} {σ : St} {H : Hp} {s : Shared} (I : Inv X (pins ++ pl) σ H s) : Inv X pins σ H s := I.pins_of fun p hp => I.pin p (List.mem_append_right _ (List.mem_append_left _ hp))
theorem ps_for {iter : Expr} {body : List Stmt} {wi : TI} {g : TG} {tb : TS} {pos : Pos} (hp : PassesOwn (model X.prog X.w) X.A X.env X.xe) (hc : X.calm = true) (hi : PI X tg iter wi) (hg : PG X tg g) (hb : PSs X body tb)
    (hs : ∀ x, foldedSetIterable iter X.env x = pure x := by intro _; rfl) : PS X (.For tg iter body [] pos) (tFor wi g tb) := by
  intro pins s σ H D I h
  refine wpAny_For (thn (hi pins s σ H _ I h) fun v s1 h1 => thn h1 fun itv s2 h2 => ?_) hs
  obtain ⟨it, fp, tn, J, H2, e, I2, T, st2, f2, W, ⟨m0, w0⟩, turn⟩ := h2
  subst e
  have stat : ∀ {H' : Hp}, (∀ b ∈ fp, H' b = none) → ∀ b ∈ fp, FpOk X pins H' b := fun hn b hb => ⟨hn b hb, (f2 b hb).2⟩
  refine codeAny_forLoop_any (fun n s' => ∃ i σ' H', Inv X pins σ' H' s' ∧ tn i s'.heap ∧ (∀ b ∈ fp, H' b = none) ∧ W i n σ' H') ?_ m0 ⟨0, σ, H2, I2, st2, fun b hb => (f2 b hb).1, w0⟩
  rintro n s3 ⟨i, σ3, H3, I3, st3, fr3, w3⟩
  rcases turn i n σ3 H3 w3 with ⟨stop, qn⟩ | ⟨go, N, hN, step⟩
  · refine wpAny_passesOwn hp (thn (T.done X rfl rfl rfl hc i pins s3 σ3 H3 X.xe I3 (stat fr3) st3 stop) fun r s4 ⟨hr, I4⟩ => ?_)
    subst hr
    exact wpAny_execs_nil ⟨σ3, H3, I4, qn⟩
  · refine wpAny_passesOwn hp (thn (T.item X rfl rfl rfl hc i pins s3 σ3 H3 X.xe I3 (stat fr3) st3 go) fun r s4 ⟨u, hr, h4⟩ => ?_)
    subst hr
    refine wpAny_passesOwn hp (thn h4 fun _ s5 ⟨x, H5, I5, r5, y5, st5, fr5⟩ => ?_)
    have I5' := I5.pinned (stat fr5) (T.obj _ _ st5)
    refine wpAny_passesOwn hp (thn (hg _ s5 σ3 H5 x u _ I5' r5 (step x H5 y5)) fun _ s6 ⟨σ6, H6, I6, q6⟩ => ?_)
    refine wpAny_passesOwn hp (thn (hb _ s6 σ6 H6 _ I6 q6) fun f s7 q7 => ?_)
    have again : ∀ {σ7 : St} {H7 : Hp}, Inv X (pins ++ pinsAt fp s5.heap) σ7 H7 s7 → N σ7 H7 → ∃ m, m < n ∧ ∃ i σ' H', Inv X pins σ' H' s7 ∧ tn i s7.heap ∧ (∀ b ∈ fp, H' b = none) ∧ W i m σ' H' := fun {σ7 H7} I7 n7 => by
      obtain ⟨m', hm, w7⟩ := hN σ7 H7 n7
      refine ⟨m', hm, i + 1, σ7, H7, I7.unpinned, T.keep _ _ _ st5 fun b hb o e => (I7.pin (b, o) (List.mem_append_right _ (List.mem_append_right _ (mem_pinsAt hb e)))).1, fun b hb => ?_, w7⟩
      obtain ⟨o, e, d⟩ := T.obj _ _ st5 b hb
      exact (I7.pin (b, o) (List.mem_append_right _ (List.mem_append_right _ (mem_pinsAt hb e)))).2.1
    cases f with
    | next => obtain ⟨σ7, H7, I7, n7⟩ := q7; exact again I7 n7
    | cont => obtain ⟨σ7, H7, I7, n7⟩ := q7; exact again I7 n7
    | brk => obtain ⟨σ7, H7, I7, q7⟩ := q7; exact ⟨σ7, H7, I7.unpinned, q7⟩
    | ret v => obtain ⟨x7, σ7, H7, I7, r7, q7⟩ := q7; exact ⟨x7, σ7, H7, I7.unpinned, r7, q7⟩
end
theorem for_list {K : PySem.W.Frag} {a : Addr} {xs : List V} {g : TG} {tb : TS} {D : Ends} {σ : St} {H : Hp} (Pv : Nat → St → Hp → Prop) (h0 : Pv 0 σ H) (hl : ∀ i σ H, i ≤ xs.length → Pv i σ H → SqL K H a xs)
    (hs : ∀ i x σ H, xs[i]? = some x → Pv i σ H → g x σ H fun σ2 H2 => tb { D with nx := Pv (i + 1), ct := Pv (i + 1), bk := D.nx } σ2 H2) (hd : ∀ σ H, Pv xs.length σ H → D.nx σ H) :
    ∃ W : Nat → Nat → St → Hp → Prop, (∃ m, W 0 m σ H) ∧ ∀ i m σ H, W i m σ H →
      ((Itl K a).stop i H ∧ D.nx σ H) ∨ ((Itl K a).go i H ∧ ∃ N : St → Hp → Prop, (∀ σ' H', N σ' H' → ∃ m', m' < m ∧ W (i + 1) m' σ' H') ∧ ∀ x H', (Itl K a).yld i H x H' → g x σ H' fun σ2 H2 => tb { D with nx := N, ct := N, bk := D.nx } σ2 H2) := by
  refine ⟨fun i m σ H => m = xs.length - i ∧ i ≤ xs.length ∧ Pv i σ H, ⟨xs.length, by simp, Nat.zero_le _, h0⟩, ?_⟩
  rintro i m σ H ⟨rfl, hi, p⟩
  have q := hl i σ H hi p
  by_cases hlt : i < xs.length
  · refine .inr ⟨⟨xs, xs[i], q, by simp [hlt]⟩, Pv (i + 1), fun σ' H' p' => ⟨xs.length - (i + 1), by omega, rfl, hlt, p'⟩, fun x H' y => ?_⟩
    obtain ⟨e, y⟩ := y
    subst e
    exact hs i x σ _ (y xs q) p
  · have e : i = xs.length := by omega
    subst e
    exact .inl ⟨⟨xs, q, Nat.le_refl _⟩, hd σ H p⟩
theorem for_range {lo : Int} {n : Nat} {g : TG} {tb : TS} {D : Ends} {σ : St} {H : Hp} (Pv : Nat → St → Hp → Prop) (h0 : Pv 0 σ H)
    (hs : ∀ i σ H, i < n → Pv i σ H → g (.int (lo + i)) σ H fun σ2 H2 => tb { D with nx := Pv (i + 1), ct := Pv (i + 1), bk := D.nx } σ2 H2) (hd : ∀ σ H, Pv n σ H → D.nx σ H) :
    ∃ W : Nat → Nat → St → Hp → Prop, (∃ m, W 0 m σ H) ∧ ∀ i m σ H, W i m σ H →
      ((Itr lo n).stop i H ∧ D.nx σ H) ∨ ((Itr lo n).go i H ∧ ∃ N : St → Hp → Prop, (∀ σ' H', N σ' H' → ∃ m', m' < m ∧ W (i + 1) m' σ' H') ∧ ∀ x H', (Itr lo n).yld i H x H' → g x σ H' fun σ2 H2 => tb { D with nx := N, ct := N, bk := D.nx } σ2 H2) := by
  refine ⟨fun i m σ H => m = n - i ∧ i ≤ n ∧ Pv i σ H, ⟨n, by simp, Nat.zero_le _, h0⟩, ?_⟩
  rintro i m σ H ⟨rfl, hi, p⟩
  by_cases hlt : i < n
  · refine .inr ⟨hlt, Pv (i + 1), fun σ' H' p' => ⟨n - (i + 1), by omega, rfl, hlt, p'⟩, fun x H' y => ?_⟩
    obtain ⟨e, y⟩ := y
    subst e y
    exact hs i σ _ hlt p
  · have e : i = n := by omega
    subst e
    exact .inl ⟨Nat.le_refl _, hd σ H p⟩
end L2
namespace L2
open PySem PySem.Spec PyProof.Rows
abbrev R2 := V → V → Hp → VK → Prop
def OpR (X : Cx) (f : Value → Value → Sem Value) (r : R2) : Prop :=
  ∀ (pins : List (Addr × Obj)) (s : Shared) (σ : St) (H : Hp) (x y : V) (v u : Value) (Q : VK), Inv X pins σ H s → RelV x v → RelV y u → r x y H Q →
    wpAny (model X.prog X.w) X.A (f v u) (EP X pins σ Q) X.xe s
def UnR (X : Cx) (f : Value → Sem Value) (r : V → Hp → VK → Prop) : Prop :=
  ∀ (pins : List (Addr × Obj)) (s : Shared) (σ : St) (H : Hp) (x : V) (v : Value) (Q : VK), Inv X pins σ H s → RelV x v → r x H Q →
    wpAny (model X.prog X.w) X.A (f v) (EP X pins σ Q) X.xe s
def CallR (X : Cx) (f : Value) (r : List V → Hp → VK → Prop) : Prop :=
  ∀ (pins : List (Addr × Obj)) (s : Shared) (σ : St) (H : Hp) (xs : List V) (us : List Value) (Q : VK), Inv X pins σ H s → Vals xs us → r xs H Q →
    wpAny (model X.prog X.w) X.A (call f us) (EP X pins σ Q) X.xe s
def TruR (X : Cx) (r : V → Hp → (Bool → Hp → Prop) → Prop) : Prop :=
  ∀ (pins : List (Addr × Obj)) (s : Shared) (σ : St) (H : Hp) (x : V) (v : Value) (Q : Bool → Hp → Prop), Inv X pins σ H s → RelV x v → r x H Q →
    wpAny (model X.prog X.w) X.A (truthy v) (TP X pins σ Q) X.xe s
def tOp (r : R2) (ta tb : TE) : TE := fun σ H Q => ta σ H fun x H1 => tb σ H1 fun y H2 => r x y H2 Q
def tUn (r : V → Hp → VK → Prop) (ta : TE) : TE := fun σ H Q => ta σ H fun x H1 => r x H1 Q
def rI (C : Int → Int → Prop) (g : Int → Int → V) : R2 := fun x y H Q => ∃ i j, x = .int i ∧ y = .int j ∧ C i j ∧ Q (g i j) H
def rI0 (g : Int → Int → V) : R2 := fun x y H Q => ∃ i j, x = .int i ∧ y = .int j ∧ Q (g i j) H
def rU (g : Int → V) : V → Hp → VK → Prop := fun x H Q => ∃ i, x = .int i ∧ Q (g i) H
section
variable {X : Cx} {a b c : Expr} {ta tb tc : TE} {pos : Pos}
theorem binT (ha : PE X a ta) (hb : PE X b tb) {pins : List (Addr × Obj)} {s : Shared} {σ : St} {H : Hp} {R : V → V → Hp → Prop} (I : Inv X pins σ H s)
    (h : ta σ H fun x H1 => tb σ H1 fun y H2 => R x y H2) {Q : Value → Shared → Prop} {f : Value → Value → Sem Value}
    (hf : ∀ v u s2 x y H2, Inv X pins σ H2 s2 → RelV x v → RelV y u → R x y H2 → wpAny (model X.prog X.w) X.A (f v u) Q X.xe s2) :
    wpAny (model X.prog X.w) X.A (eval a X.env) (fun v s₁ => wpAny (model X.prog X.w) X.A (eval b X.env) (fun u s₂ => wpAny (model X.prog X.w) X.A (f v u) Q X.xe s₂) X.xe s₁) X.xe s := by
  refine thn (ha pins s σ H _ I h) fun v s1 ⟨x, H1, I1, r1, q1⟩ => ?_
  refine thn (hb pins s1 σ H1 _ I1 q1) fun u s2 ⟨y, H2, I2, r2, q2⟩ => ?_
  exact hf v u s2 x y H2 I2 r1 r2 q2
theorem pe_op {op : Operator} {r : R2} (ho : OpR X (binaryOp op) r) (ha : PE X a ta) (hb : PE X b tb) : PE X (.BinOp a op b pos) (tOp r ta tb) := by
  intro pins s σ H Q I h
  exact wpAny_BinOp (binT ha hb I h fun v u s2 x y H2 I2 rx ry q => ho pins s2 σ H2 x y v u Q I2 rx ry q)
theorem pe_un {op : UnaryOp} {r : V → Hp → VK → Prop} (ho : UnR X (unaryOp op) r) (ha : PE X a ta) : PE X (.UnaryOp op a pos) (tUn r ta) := by
  intro pins s σ H Q I h
  exact UnaryOp_ (thn (ha pins s σ H _ I h) fun v s1 ⟨x, H1, I1, r1, q1⟩ => ho pins s1 σ H1 x v Q I1 r1 q1)
theorem opI {f : Value → Value → Sem Value} {C : Int → Int → Prop} {g : Int → Int → Int}
    (rule : ∀ (i j : Int) (t u : Tok) (s : Shared) (Q : Value → Shared → Prop) (E : Value → Shared → Prop), C i j → Q (.int (g i j) s.toks) { s with toks := s.toks + 1 } → wpAny (model X.prog X.w) X.A (f (.int i t) (.int j u)) Q E s) :
    OpR X f (rI C fun i j => .int (g i j)) := by
  intro pins s σ H x y v u Q I rx ry h
  obtain ⟨i, j, rfl, rfl, hc, q⟩ := h
  obtain ⟨t, rfl⟩ := rx
  obtain ⟨t', rfl⟩ := ry
  exact rule i j t t' s _ _ hc ⟨.int (g i j), H, I.tok _, ⟨_, rfl⟩, q⟩
theorem opI0 {f : Value → Value → Sem Value} {g : Int → Int → Int}
    (rule : ∀ (i j : Int) (t u : Tok) (s : Shared) (Q : Value → Shared → Prop) (E : Value → Shared → Prop), Q (.int (g i j) s.toks) { s with toks := s.toks + 1 } → wpAny (model X.prog X.w) X.A (f (.int i t) (.int j u)) Q E s) :
    OpR X f (rI0 fun i j => .int (g i j)) := by
  intro pins s σ H x y v u Q I rx ry h
  obtain ⟨i, j, rfl, rfl, q⟩ := h
  obtain ⟨t, rfl⟩ := rx
  obtain ⟨t', rfl⟩ := ry
  exact rule i j t t' s _ _ ⟨.int (g i j), H, I.tok _, ⟨_, rfl⟩, q⟩
theorem opB0 {f : Value → Value → Sem Value} {g : Int → Int → Bool}
    (rule : ∀ (i j : Int) (t u : Tok) (s : Shared) (Q : Value → Shared → Prop) (E : Value → Shared → Prop), Q (.bool (g i j)) s → wpAny (model X.prog X.w) X.A (f (.int i t) (.int j u)) Q E s) :
    OpR X f (rI0 fun i j => .bl (g i j)) := by
  intro pins s σ H x y v u Q I rx ry h
  obtain ⟨i, j, rfl, rfl, q⟩ := h
  obtain ⟨t, rfl⟩ := rx
  obtain ⟨t', rfl⟩ := ry
  exact rule i j t t' s _ _ ⟨.bl (g i j), H, I, rfl, q⟩
def CPow (i j : Int) : Prop := 0 ≤ j ∧ j ≤ 1000000 ∧ i.natAbs < 2 ^ 64
def CMul (i j : Int) : Prop := (-(2 ^ 64) < i ∧ i < 2 ^ 64) ∨ (-(2 ^ 64) < j ∧ j < 2 ^ 64)
theorem CMul.ok {i j : Int} (h : CMul i j) : IntMulOk i j := by
  rcases h with ⟨h1, h2⟩ | ⟨h1, h2⟩
  · exact .of_left (intBits_le_64 h1 h2)
  · exact .of_right (intBits_le_64 h1 h2)
theorem two_pow_nn (k : Nat) : (0 : Int) ≤ 2 ^ k := by
  rw [two_pow_cast]
  exact Int.natCast_nonneg _
theorem op_add : OpR X (binaryOp .Add) (rI0 fun i j => .int (i + j)) := opI0 fun _ _ _ _ _ _ _ q => add_int q
theorem op_sub : OpR X (binaryOp .Sub) (rI0 fun i j => .int (i - j)) := opI0 fun _ _ _ _ _ _ _ q => sub_int q
theorem op_mul : OpR X (binaryOp .Mult) (rI CMul fun i j => .int (i * j)) := opI fun _ _ _ _ _ _ _ hc q => mul_int q hc.ok
theorem op_pow : OpR X (binaryOp .Pow) (rI CPow fun i j => .int (i ^ j.toNat)) := opI fun _ _ _ _ _ _ _ hc q => pow_int_small hc.1 hc.2.1 hc.2.2 q
theorem op_shl : OpR X (binaryOp .LShift) (rI CPow fun i j => .int (i * 2 ^ j.toNat)) := opI fun _ _ _ _ _ _ _ hc q => lshift_int_small hc.1 hc.2.1 hc.2.2 q
theorem op_shr : OpR X (binaryOp .RShift) (rI (fun _ j => 0 ≤ j) fun i j => .int (i / 2 ^ j.toNat)) := opI fun i j _ _ _ _ _ hc q =>
  rshift_int hc (by rw [Int.fdiv_eq_ediv_of_nonneg i (two_pow_nn _)]; exact q)
theorem op_and : OpR X (binaryOp .BitAnd) (rI0 fun i j => .int (Builtin.bitAnd i j)) := opI0 fun _ _ _ _ _ _ _ q => and_int q
theorem op_or : OpR X (binaryOp .BitOr) (rI0 fun i j => .int (Builtin.bitOr i j)) := opI0 fun _ _ _ _ _ _ _ q => or_int q
theorem op_xor : OpR X (binaryOp .BitXor) (rI0 fun i j => .int (Builtin.bitXor i j)) := opI0 fun _ _ _ _ _ _ _ q => xor_int q
theorem iop_and : OpR X (inplaceOp .BitAnd) (rI0 fun i j => .int (Builtin.bitAnd i j)) := opI0 fun _ _ _ _ _ _ _ q => iand_int q
theorem iop_or : OpR X (inplaceOp .BitOr) (rI0 fun i j => .int (Builtin.bitOr i j)) := opI0 fun _ _ _ _ _ _ _ q => ior_int q
theorem iop_xor : OpR X (inplaceOp .BitXor) (rI0 fun i j => .int (Builtin.bitXor i j)) := opI0 fun _ _ _ _ _ _ _ q => ixor_int q
theorem unI {f : Value → Sem Value} {g : Int → Int}
    (rule : ∀ (i : Int) (t : Tok) (s : Shared) (Q : Value → Shared → Prop) (E : Value → Shared → Prop), Q (.int (g i) s.toks) { s with toks := s.toks + 1 } → wpAny (model X.prog X.w) X.A (f (.int i t)) Q E s) :
    UnR X f (rU fun i => .int (g i)) := by
  intro pins s σ H x v Q I rx h
  obtain ⟨i, rfl, q⟩ := h
  obtain ⟨t, rfl⟩ := rx
  exact rule i t s _ _ ⟨.int (g i), H, I.tok _, ⟨_, rfl⟩, q⟩
theorem un_neg : UnR X (unaryOp .USub) (rU fun i => .int (-i)) := unI fun _ _ _ _ _ q => neg_int q
end
def scal : V → V → Bool
  | .non, .non => true | .non, .int _ => true | .int _, .non => true | .non, .bl _ => true | .bl _, .non => true | .non, .str _ => true | .str _, .non => true
  | .int _, .int _ => true | .bl _, .bl _ => true | .str _, .str _ => true | .byt _, .byt _ => true
  | .int _, .str _ => true | .str _, .int _ => true | .bl _, .str _ => true | .str _, .bl _ => true
  | _, _ => false
def rEq : R2 := fun x y H Q => scal x y = true ∧ Q (.bl (decide (x = y))) H
def rNe : R2 := fun x y H Q => scal x y = true ∧ Q (.bl (!decide (x = y))) H
theorem dec_int {i j : Int} : decide (V.int i = V.int j) = (i == j) := by
  rw [Bool.eq_iff_iff]
  simp
theorem dec_bl {i j : Bool} : decide (V.bl i = V.bl j) = (i == j) := by
  rw [Bool.eq_iff_iff]
  simp
theorem dec_str {i j : Str} : decide (V.str i = V.str j) = (i == j) := by
  rw [Bool.eq_iff_iff]
  simp
theorem dec_byt {i j : Array UInt8} : decide (V.byt i = V.byt j) = (i.toList == j.toList) := by
  rw [Bool.eq_iff_iff]
  cases i
  cases j
  simp
section
variable {X : Cx} {a b c : Expr} {ta tb tc : TE} {pos : Pos}
theorem fin_bl {pins : List (Addr × Obj)} {σ : St} {H : Hp} {s : Shared} {Q : VK} {k k' : Bool} (I : Inv X pins σ H s) (q : Q (.bl k) H) (e : k = k') : EP X pins σ Q (.bool k') s := by
  subst e
  exact ⟨.bl k, H, I, rfl, q⟩
theorem op_eq : OpR X (compareOp .Eq) rEq := by
  intro pins s σ H x y v u Q I rx ry h
  obtain ⟨hs, q⟩ := h
  cases x with
  | non =>
    cases rx
    cases y with
    | non => cases ry; exact PySem.EqNone.eq_none_none (fin_bl I q (by simp))
    | bl j => cases ry; exact PySem.EqNone.eq_none_bool (fin_bl I q (by simp))
    | int j => obtain ⟨t', rfl⟩ := ry; exact PySem.EqNone.eq_none_int (fin_bl I q (by simp))
    | str j => obtain ⟨t', rfl⟩ := ry; exact PySem.EqNone.eq_none_str (fin_bl I q (by simp))
    | _ => exact absurd (show false = true from hs) Bool.false_ne_true
  | bl i =>
    cases rx
    cases y with
    | non => cases ry; exact PySem.EqNone.eq_bool_none (fin_bl I q (by simp))
    | bl j => cases ry; exact eq_bool (fin_bl I q dec_bl)
    | str j => obtain ⟨t', rfl⟩ := ry; exact PySem.EqMixed.eq_bool_str (fin_bl I q (by simp))
    | _ => exact absurd (show false = true from hs) Bool.false_ne_true
  | int i =>
    obtain ⟨t, rfl⟩ := rx
    cases y with
    | non => cases ry; exact PySem.EqNone.eq_int_none (fin_bl I q (by simp))
    | int j => obtain ⟨t', rfl⟩ := ry; exact eq_int (fin_bl I q dec_int)
    | str j => obtain ⟨t', rfl⟩ := ry; exact PySem.EqMixed.eq_int_str (fin_bl I q (by simp))
    | _ => exact absurd (show false = true from hs) Bool.false_ne_true
  | str i =>
    obtain ⟨t, rfl⟩ := rx
    cases y with
    | non => cases ry; exact PySem.EqNone.eq_str_none (fin_bl I q (by simp))
    | bl j => cases ry; exact PySem.EqMixed.eq_str_bool (fin_bl I q (by simp))
    | int j => obtain ⟨t', rfl⟩ := ry; exact PySem.EqMixed.eq_str_int (fin_bl I q (by simp))
    | str j => obtain ⟨t', rfl⟩ := ry; exact eq_str (fin_bl I q dec_str)
    | _ => exact absurd (show false = true from hs) Bool.false_ne_true
  | byt i =>
    obtain ⟨t, rfl⟩ := rx
    cases y with
    | byt j => obtain ⟨t', rfl⟩ := ry; exact PySem.W.eq_bytes (fin_bl I q dec_byt)
    | _ => exact absurd (show false = true from hs) Bool.false_ne_true
  | _ => cases y <;> exact absurd (show false = true from hs) Bool.false_ne_true
theorem op_ne : OpR X (compareOp .NotEq) rNe := by
  intro pins s σ H x y v u Q I rx ry h
  obtain ⟨hs, q⟩ := h
  cases x with
  | non =>
    cases rx
    cases y with
    | non => cases ry; exact PySem.EqNone.ne_none_none (fin_bl I q (by simp))
    | bl j => cases ry; exact PySem.EqNone.ne_none_bool (fin_bl I q (by simp))
    | int j => obtain ⟨t', rfl⟩ := ry; exact PySem.EqNone.ne_none_int (fin_bl I q (by simp))
    | str j => obtain ⟨t', rfl⟩ := ry; exact PySem.EqNone.ne_none_str (fin_bl I q (by simp))
    | _ => exact absurd (show false = true from hs) Bool.false_ne_true
  | bl i =>
    cases rx
    cases y with
    | non => cases ry; exact PySem.EqNone.ne_bool_none (fin_bl I q (by simp))
    | bl j => cases ry; exact ne_bool (fin_bl I q (congrArg not dec_bl))
    | str j => obtain ⟨t', rfl⟩ := ry; exact PySem.EqMixed.ne_bool_str (fin_bl I q (by simp))
    | _ => exact absurd (show false = true from hs) Bool.false_ne_true
  | int i =>
    obtain ⟨t, rfl⟩ := rx
    cases y with
    | non => cases ry; exact PySem.EqNone.ne_int_none (fin_bl I q (by simp))
    | int j => obtain ⟨t', rfl⟩ := ry; exact ne_int (fin_bl I q (congrArg not dec_int))
    | str j => obtain ⟨t', rfl⟩ := ry; exact PySem.EqMixed.ne_int_str (fin_bl I q (by simp))
    | _ => exact absurd (show false = true from hs) Bool.false_ne_true
  | str i =>
    obtain ⟨t, rfl⟩ := rx
    cases y with
    | non => cases ry; exact PySem.EqNone.ne_str_none (fin_bl I q (by simp))
    | bl j => cases ry; exact PySem.EqMixed.ne_str_bool (fin_bl I q (by simp))
    | int j => obtain ⟨t', rfl⟩ := ry; exact PySem.EqMixed.ne_str_int (fin_bl I q (by simp))
    | str j => obtain ⟨t', rfl⟩ := ry; exact ne_str (fin_bl I q (congrArg not dec_str))
    | _ => exact absurd (show false = true from hs) Bool.false_ne_true
  | byt i =>
    obtain ⟨t, rfl⟩ := rx
    cases y with
    | byt j => obtain ⟨t', rfl⟩ := ry; exact PySem.W.ne_bytes (fin_bl I q (congrArg not dec_byt))
    | _ => exact absurd (show false = true from hs) Bool.false_ne_true
  | _ => cases y <;> exact absurd (show false = true from hs) Bool.false_ne_true
theorem op_lt : OpR X (compareOp .Lt) (rI0 fun i j => .bl (decide (i < j))) := opB0 fun _ _ _ _ _ _ _ q => lt_int q
theorem op_le : OpR X (compareOp .LtE) (rI0 fun i j => .bl (decide (i ≤ j))) := opB0 fun _ _ _ _ _ _ _ q => le_int q
theorem op_gt : OpR X (compareOp .Gt) (rI0 fun i j => .bl (decide (j < i))) := opB0 fun _ _ _ _ _ _ _ q => gt_int q
theorem op_ge : OpR X (compareOp .GtE) (rI0 fun i j => .bl (decide (j ≤ i))) := opB0 fun _ _ _ _ _ _ _ q => ge_int q
theorem op_isN : OpR X (compareOp .Is) (fun x y H Q => y = .non ∧ Q (.bl (decide (x = .non))) H) := by
  intro pins s σ H x y v u Q I rx ry h
  obtain ⟨rfl, q⟩ := h
  cases ry
  refine is_none_gen (fin_bl I q ?_)
  cases x <;> first
    | (cases rx; rfl)
    | (obtain ⟨t, rfl⟩ := rx; rfl)
theorem op_notN : OpR X (compareOp .IsNot) (fun x y H Q => y = .non ∧ Q (.bl (!decide (x = .non))) H) := by
  intro pins s σ H x y v u Q I rx ry h
  obtain ⟨rfl, q⟩ := h
  cases ry
  refine isnot_none_gen (fin_bl I q ?_)
  cases x <;> first
    | (cases rx; rfl)
    | (obtain ⟨t, rfl⟩ := rx; rfl)
theorem nomark (b : Expr) {op : CmpOp} (h : op ≠ .In := by decide) (h2 : op ≠ .NotIn := by decide) : behindInMarks op b = false := by
  have e1 : (op == CmpOp.In) = false := by cases op <;> first | rfl | exact absurd rfl h
  have e2 : (op == CmpOp.NotIn) = false := by cases op <;> first | rfl | exact absurd rfl h2
  cases b <;> simp [behindInMarks, e1, e2]
theorem pe_cmpR {op : CmpOp} {r : R2} (ho : OpR X (compareOp op) r) (ha : PE X a ta) (hb : PE X b tb) (hm : behindInMarks op b = false) : PE X (.Compare a [op] [b] pos) (tOp r ta tb) := by
  intro pins s σ H Q I h
  exact wpAny_Compare1 (binT ha hb I h fun v u s2 x y H2 I2 rx ry q => ho pins s2 σ H2 x y v u Q I2 rx ry q) hm
def tTest (t : TE) : TT := fun σ H Q => t σ H fun x H' => ∃ k, x = .bl k ∧ Q k H'
theorem pt_cmpR {op : CmpOp} {r : R2} (ho : OpR X (compareOp op) r) (ha : PE X a ta) (hb : PE X b tb) (hm : behindInMarks op b = false) : PT X (.Compare a [op] [b] pos) (tTest (tOp r ta tb)) := by
  intro pins s σ H Q I h
  refine wpAny_isTrue_Compare1 (thn (ha pins s σ H _ I h) fun v s1 ⟨x, H1, I1, r1, q1⟩ => thn (hb pins s1 σ H1 _ I1 q1) fun u s2 ⟨y, H2, I2, r2, q2⟩ =>
    thn (ho pins s2 σ H2 x y v u _ I2 r1 r2 q2) fun c s3 ⟨z, H3, I3, r3, k, e, q3⟩ => ?_) hm
  subst e
  cases r3
  exact wpAny_truthy_bool ⟨H3, I3, q3⟩
def tChain (r r' : R2) (ta tb tc : TE) : TE := fun σ H Q => ta σ H fun x H1 => tb σ H1 fun y H2 => r x y H2 fun z H3 => ∃ k, z = .bl k ∧
  (if k = true then tc σ H3 fun w' H4 => r' y w' H4 Q else Q (.bl false) H3)
theorem pt_chain {op op' : CmpOp} {r r' : R2} (ho : OpR X (compareOp op) r) (ho' : OpR X (compareOp op') r') (ha : PE X a ta) (hb : PE X b tb) (hc : PE X c tc)
    (hm : lastMarks [op, op'] [b, c] = false := by with_unfolding_all rfl) : PT X (.Compare a [op, op'] [b, c] pos) (tTest (tChain r r' ta tb tc)) := by
  intro pins s σ H Q I h
  refine isTrue_chain (thn (ha pins s σ H _ I h) fun v s1 ⟨x, H1, I1, r1, q1⟩ => test_link (thn (hb pins s1 σ H1 _ I1 q1) fun u s2 ⟨y, H2, I2, r2, q2⟩ =>
    thn (ho pins s2 σ H2 x y v u _ I2 r1 r2 q2) fun d s3 ⟨z, H3, I3, r3, k, e, q3⟩ => ?_)) hm
  subst e
  cases r3
  refine wpAny_truthy_bool ?_
  cases k with
  | false =>
    obtain ⟨k', e', q'⟩ := q3
    cases e'
    exact ite_ff ⟨H3, I3, q'⟩
  | true =>
    refine ite_tt (test_last (thn (hc pins s3 σ H3 _ I3 q3) fun w' s4 ⟨z', H4, I4, r4, q4⟩ => thn (ho' pins s4 σ H4 y z' u w' _ I4 r2 r4 q4) fun d' s5 ⟨z2, H5, I5, r5, k2, e2, q5⟩ => ?_))
    subst e2
    cases r5
    exact wpAny_truthy_bool ⟨H5, I5, q5⟩
def TruV (K : PySem.W.Frag) (x : V) (H : Hp) (k : Bool) : Prop :=
  match x with
  | .non => k = false
  | .bl b => k = b
  | .int i => k = (i != 0)
  | .str y => y.length ≤ sizeLine ∧ k = ((y.length : Int) != 0)
  | .byt y => y.size ≤ sizeLine ∧ k = ((y.size : Int) != 0)
  | .ref p => (∃ xs, SqL K H p xs ∧ k = !xs.isEmpty) ∨ (∃ xs, SqT K H p xs ∧ k = !xs.isEmpty) ∨ ∃ kvs, H p = some (.dK kvs) ∧ k = !kvs.isEmpty
  | _ => False
theorem isEmpty_kv {κ : Type} {kvs : List (κ × V)} {vs : List (κ × Value)} (r : KV kvs vs) : (!vs.isEmpty) = !kvs.isEmpty := by
  cases r <;> rfl
theorem isEmpty_of {xs : List V} {its : List Value} (r : Vals xs its) : (!its.toArray.isEmpty) = !xs.isEmpty := by
  cases r <;> simp
theorem line63 : (sizeLine : Nat) < 2 ^ 63 := by rw [sizeLine_eq]; decide
theorem tru_ok : TruR X (fun x H Q => ∃ k, TruV X.K x H k ∧ Q k H) := by
  intro pins s σ H x v Q I rx h
  obtain ⟨k, e, q⟩ := h
  have hl := line63
  have hs : sizeLine = 16777216 := sizeLine_eq
  cases x with
  | non =>
    cases rx
    have e' : k = false := e
    subst e'
    exact truthy_none ⟨H, I, q⟩
  | bl b =>
    cases rx
    have e' : k = b := e
    subst e'
    exact wpAny_truthy_bool ⟨H, I, q⟩
  | int i =>
    obtain ⟨t, rfl⟩ := rx
    have e' : k = (i != 0) := e
    subst e'
    exact PySem.P.truthy_int ⟨H, I, q⟩
  | str y =>
    obtain ⟨t, rfl⟩ := rx
    obtain ⟨hy, e'⟩ : y.length ≤ sizeLine ∧ k = ((y.length : Int) != 0) := e
    subst e'
    exact PySem.P.truthy_str (by omega) ⟨H, I.tok _, q⟩
  | byt y =>
    obtain ⟨t, rfl⟩ := rx
    obtain ⟨hy, e'⟩ : y.size ≤ sizeLine ∧ k = ((y.size : Int) != 0) := e
    subst e'
    exact PySem.W.truthy_bytes (by omega) ⟨H, I.tok _, q⟩
  | ref p =>
    cases rx
    have e' : (∃ xs, SqL X.K H p xs ∧ k = !xs.isEmpty) ∨ (∃ xs, SqT X.K H p xs ∧ k = !xs.isEmpty) ∨ ∃ kvs, H p = some (.dK kvs) ∧ k = !kvs.isEmpty := e
    rcases e' with ⟨xs, hx, e'⟩ | ⟨xs, hx, e'⟩ | ⟨kvs, hx, e'⟩
    · subst e'
      obtain ⟨its, r, pl, hz⟩ := I.list hx
      have hlen := r.length
      exact wpAny_truthy_list pl.isList (by simp only [List.size_toArray]; omega) ⟨H, I.tok _, by rw [isEmpty_of r]; exact q⟩
    · subst e'
      obtain ⟨its, r, pl, hz⟩ := I.tuple hx
      have hlen := r.length
      exact truthy_tuple pl (by simp only [List.size_toArray]; omega) ⟨H, I.tok _, by rw [isEmpty_of r]; exact q⟩
    · subst e'
      obtain ⟨hz, hS, vs, r, m⟩ : kvs.length ≤ sizeLine ∧ (p == sysModules) = false ∧ ∃ vs, KV kvs vs ∧ s.heap.DictOf (mixKind X.prog X.w) p vs := I.hok p _ hx
      have hlen : kvs.length = vs.length := Paired.length r
      exact wpAny_truthy_dict hS m (by omega) ⟨H, I.tok _, by rw [isEmpty_kv r]; exact q⟩
  | _ => exact (show False from e).elim
theorem pt_truth (ha : PE X a ta) (he : ∀ whole, isTrue a X.env whole = (do let v ← whole; standAt a.pos; holding [v] (truthy v))) :
    PT X a (fun σ H Q => ta σ H fun x H' => ∃ k, TruV X.K x H' k ∧ Q k H') := by
  intro pins s σ H Q I h
  exact isTrue_plain (thn (ha pins s σ H _ I h) fun v s1 ⟨x, H1, I1, r1, q1⟩ => tru_ok pins s1 σ H1 x v Q I1 r1 q1) (he _)
theorem vals1 {x : V} {us : List Value} (r : Vals [x] us) : ∃ u, us = [u] ∧ RelV x u := by
  cases r with
  | cons r1 r2 => cases r2; exact ⟨_, rfl, r1⟩
theorem vals2 {x y : V} {us : List Value} (r : Vals [x, y] us) : ∃ u w', us = [u, w'] ∧ RelV x u ∧ RelV y w' := by
  cases r with
  | cons r1 r2 =>
    cases r2 with
    | cons r3 r4 => cases r4; exact ⟨_, _, rfl, r1, r3⟩
theorem call_max2 (hc : X.calm = true) : CallR X (.builtin "max") (fun xs H Q => ∃ i j, xs = [.int i, .int j] ∧ Q (.int (if j > i then j else i)) H) := by
  intro pins s σ H xs us Q I r h
  obtain ⟨i, j, rfl, q⟩ := h
  obtain ⟨u, w', rfl, ⟨t, rfl⟩, ⟨t', rfl⟩⟩ := vals2 r
  refine max_two_ints (I.ok.hd hc) fun h' tk k => ⟨_, H, I.kept k, ?_, q⟩
  by_cases hj : j > i
  · rw [if_pos hj, if_pos hj]; exact ⟨_, rfl⟩
  · rw [if_neg hj, if_neg hj]; exact ⟨_, rfl⟩
theorem call_min2 (hc : X.calm = true) : CallR X (.builtin "min") (fun xs H Q => ∃ i j, xs = [.int i, .int j] ∧ Q (.int (if j < i then j else i)) H) := by
  intro pins s σ H xs us Q I r h
  obtain ⟨i, j, rfl, q⟩ := h
  obtain ⟨u, w', rfl, ⟨t, rfl⟩, ⟨t', rfl⟩⟩ := vals2 r
  refine min_two_ints (I.ok.hd hc) fun h' tk k => ⟨_, H, I.kept k, ?_, q⟩
  by_cases hj : j < i
  · rw [if_pos hj, if_pos hj]; exact ⟨_, rfl⟩
  · rw [if_neg hj, if_neg hj]; exact ⟨_, rfl⟩
end
end L2
namespace L2
open PySem PySem.Spec PyProof.Rows
structure ObjM (h : Heap) (x dx C : Addr) (mA : Str → Option Value) : Prop where
  obj : h.get? x = some (PySem.W.instObj C dx)
  ns : h.Ns1 dx mA
  ne : dx ≠ x
theorem lookIn_ns {h : Heap} {dx : Addr} {mA : Str → Option Value} (n : h.Ns1 dx mA) : ∃ od, h.get? dx = some od ∧ ∀ name, PySem.W.lookIn name od = some (mA name) := by
  obtain ⟨o, es, ep, ho, hd, hk, _, hm⟩ := n
  refine ⟨o, ho, fun name => ?_⟩
  have e := hm name
  unfold nsFind findBy at e
  rw [← Array.find?_toList] at e
  unfold PySem.W.lookIn
  rw [hd]
  dsimp only
  split
  · rename_i y q
    rw [q] at e
    exact congrArg some e
  · rename_i q
    rw [q] at e
    have a : es.toList.any (·.refKey) = false := by
      rw [List.any_eq_false]
      intro y hy
      obtain ⟨z, t, hkey⟩ := hk y (Array.mem_toList_iff.mp hy)
      simp [DictEntry.refKey, hkey]
    have a' : ¬ es.toList.any (·.refKey) = true := by rw [a]; exact Bool.false_ne_true
    rw [if_neg a']
    exact congrArg some e
theorem ObjM.look {h : Heap} {x dx C : Addr} {mA : Str → Option Value} (I : ObjM h x dx C mA) : ∃ od, PySem.W.InstAt h x (PySem.W.instObj C dx) C (some od) ∧ ∀ name, PySem.W.lookIn name od = some (mA name) :=
  let ⟨od, ho, hl⟩ := lookIn_ns I.ns
  ⟨od, ⟨I.obj, rfl, rfl, ho⟩, hl⟩
section
variable {prog : Program} {w : World} {A : Around} {E : Value → Shared → Prop} {s : Shared} {K : PySem.W.Frag} {x dx C f : Addr} {mA : Str → Option Value} {name : Str} {v : Value}
theorem get_map {expr : Bool} {Q : Value → Shared → Prop} (X : K.In s.heap) (I : ObjM s.heap x dx C mA) (hg : PySem.W.plainGet K C name = true) (hh : PySem.W.hasDictIn K C = true)
    (ha : PySem.W.findIn K (.ref C) name = some none) (hv : mA name = some v) (hv' : PySem.W.handedIn v = true) (h : Q v { s with toks := s.toks + 1 }) :
    wpAny (model prog w) A (getAttr (.ref x) name expr) Q E s := by
  obtain ⟨od, J, hl⟩ := I.look
  exact PySem.W.get_value X J (PySem.W.plainGet_of hg).1 (PySem.W.findObj_own hh ha rfl (by rw [hl, hv])) hv' h
theorem get_meth {pl : Sem Bool} {Q : Value × List Value → Shared → Prop} (X : K.In s.heap) (I : ObjM s.heap x dx C mA) (hg : PySem.W.plainGet K C name = true)
    (hf : PySem.W.findIn K (.ref C) name = some (some (.ref f))) (ht : PySem.W.isFn K (.ref f) = true) (hv : mA name = none) (h : Q (.ref f, [.ref x]) s) :
    wpAny (model prog w) A (getMethod (.ref x) name pl) Q E s := by
  obtain ⟨od, J, hl⟩ := I.look
  exact PySem.W.method_fn X J (PySem.W.plainGet_of hg).1 (PySem.W.plainGet_of hg).2 hf (beq_iff_eq.mp ht) (by show (PySem.W.lookIn name od).map (·.isSome) = some false; rw [hl, hv]; rfl) h
theorem set_map {ns : List Str} {Q : Unit → Shared → Prop} (X : K.In s.heap) (I : ObjM s.heap x dx C mA)
    (hs : PySem.W.findIn K (.ref C) "__setattr__" = some (some (.builtin "object.__setattr__"))) (hp : PySem.W.plainOver K C = true) (ht : PySem.W.takerIn K C name = some none) (hh : PySem.W.hasDictIn K C = true)
    (hw : PySem.Within mA ns) (hsz : ns.length ≤ sizeLine)
    (h : ∀ h', ObjM h' x dx C (fun y => if y = name then some v else mA y) → Heap.SameBut dx s.heap h' → Q () { s with heap := h', toks := s.toks + 2 }) :
    wpAny (model prog w) A (setAttr (.ref x) name v) Q E s := by
  obtain ⟨od, J, hl⟩ := I.look
  refine PySem.W.set_plain X J hs (PySem.W.osa_open (s := { s with toks := s.toks + 1 }) (r := none) X J hp ht fun b => ?_)
  obtain ⟨cd, hc, hd'⟩ := PySem.W.any_some hh
  have hx : s.heap.get? x = some ⟨.ref C, some dx, .plain, #[]⟩ := I.obj
  refine wpAny_bind (wpAny_pure (wpAny_bind (wpAny_bind (wpAny_loadPart hx (wpAny_bind (PySem.W.Looks.here (s := { s with toks := s.toks + 1 }) (PySem.W.looks_clsIn X hc) ?_))))))
  rw [hd']
  refine wpAny_pure (a := some dx) (wpAny_bind (wpAny_pure (wpAny_bind ?_)))
  refine wpAny_nsSet1 (s := { s with toks := s.toks + 1 }) I.ns fun h' hn2 hs2 => ?_
  obtain ⟨oD, esD, epD, hoD, hdD, hcD⟩ := hn2.count (PySem.Within.cons name v hw)
  refine wpAny_bind (wpAny_lookBehind hoD (by rw [hdD]; exact pastItsLine_dict (Nat.le_trans hcD (by rw [List.length_cons]; omega))) ?_)
  exact wpAny_pure (h _ ⟨(hs2.2 _ (Ne.symm I.ne)).trans I.obj, hn2, I.ne⟩ hs2)
theorem make_map {R : Result → Shared → Prop} {vs : List Value} {kw : List (Str × Value)} (X : K.In s.heap) (hm : PySem.W.makesIn K C = true)
    (hi : PySem.W.findIn K (.ref C) "__init__" = some (some (.ref f))) (hf : PySem.W.typeIn K (.ref f) = some (.type "function"))
    (h : codeAny (model prog w) (A.under (.builtin "type.__call__" ⟨.ref C :: vs, kw⟩)) (.call (.ref f) ⟨.ref (s.heap.objs.size + 1) :: vs, kw⟩) (PySem.W.InitBack (s.heap.objs.size + 1) R)
      { s with heap := (s.heap.push PySem.W.emptyDict).push (PySem.W.instObj C s.heap.objs.size) }) :
    codeAny (model prog w) A (.call (.ref C) ⟨vs, kw⟩) R s := by
  obtain ⟨hh, g, d, t, os⟩ := s
  exact PySem.W.make_core (PySem.W.makes_of X hm) (PySem.W.looks_findIn X hi) (fun self => PySem.W.bind_fn X self hf) (.inl rfl) h
end
def putF (f : Str) (v : V) : List (Str × V) → List (Str × V)
  | [] => [(f, v)]
  | (g, x) :: r => if g = f then (g, v) :: r else (g, x) :: putF f v r
theorem lookup_putF (f g : Str) (v : V) : ∀ fs : List (Str × V), (putF f v fs).lookup g = if g = f then some v else fs.lookup g
  | [] => by
    show List.lookup g [(f, v)] = _
    by_cases h : g = f
    · have hb : (g == f) = true := beq_iff_eq.mpr h
      simp only [List.lookup, hb, if_pos h]
    · have hb : (g == f) = false := beq_eq_false_iff_ne.mpr h
      simp only [List.lookup, hb, if_neg h]
  | (k, x) :: r => by
    have ih := lookup_putF f g v r
    rw [show putF f v ((k, x) :: r) = (if k = f then (k, v) :: r else (k, x) :: putF f v r) from rfl]
    by_cases hk : k = f
    · rw [if_pos hk]
      by_cases h : g = k
      · have hb : (g == k) = true := beq_iff_eq.mpr h
        simp only [List.lookup, hb, if_pos (h.trans hk)]
      · have hb : (g == k) = false := beq_eq_false_iff_ne.mpr h
        simp only [List.lookup, hb, if_neg (fun e : g = f => h (e.trans hk.symm))]
    · rw [if_neg hk]
      by_cases h : g = k
      · have hb : (g == k) = true := beq_iff_eq.mpr h
        simp only [List.lookup, hb, if_neg (fun e : g = f => hk (h.symm.trans e))]
      · have hb : (g == k) = false := beq_eq_false_iff_ne.mpr h
        simp only [List.lookup, hb]
        exact ih
theorem keys_putF (f : Str) (v : V) : ∀ fs : List (Str × V), f ∈ (putF f v fs).map (·.1) ∧ ∀ g, g ∈ fs.map (·.1) → g ∈ (putF f v fs).map (·.1)
  | [] => ⟨by simp [putF], fun g h => by simp at h⟩
  | (k, x) :: r => by
    obtain ⟨i1, i2⟩ := keys_putF f v r
    rw [show putF f v ((k, x) :: r) = (if k = f then (k, v) :: r else (k, x) :: putF f v r) from rfl]
    by_cases hk : k = f
    · rw [if_pos hk]
      subst hk
      exact ⟨by simp, fun g h => by simpa using h⟩
    · rw [if_neg hk]
      refine ⟨?_, fun g h => ?_⟩
      · rw [List.map_cons]
        exact List.mem_cons_of_mem _ i1
      · rw [List.map_cons] at h ⊢
        rcases List.mem_cons.mp h with e | e
        · exact List.mem_cons.mpr (.inl e)
        · exact List.mem_cons_of_mem _ (i2 g e)
theorem length_putF (f : Str) (v : V) : ∀ fs : List (Str × V), (putF f v fs).length ≤ fs.length + 1
  | [] => by simp [putF]
  | (k, x) :: r => by
    have ih := length_putF f v r
    rw [show putF f v ((k, x) :: r) = (if k = f then (k, v) :: r else (k, x) :: putF f v r) from rfl]
    by_cases hk : k = f
    · rw [if_pos hk, List.length_cons, List.length_cons]; omega
    · rw [if_neg hk, List.length_cons, List.length_cons]; omega
theorem RelO.some_of {v : V} {o : Option Value} (r : RelO (some v) o) : ∃ u, o = some u ∧ RelV v u := by
  cases o with
  | none => exact (show False from r).elim
  | some u => exact ⟨u, rfl, r⟩
theorem RelO.none_of {o : Option Value} (r : RelO none o) : o = none := by
  cases o with
  | none => rfl
  | some u => exact (show False from r).elim
theorem handed_of {v : V} {u : Value} (r : RelV v u) : PySem.W.handedIn u = true := by
  cases v with
  | non => cases (show u = Value.none from r); rfl
  | bl b => cases (show u = Value.bool b from r); rfl
  | int i => obtain ⟨t, e⟩ := (show ∃ t, u = Value.int i t from r); cases e; rfl
  | str x => obtain ⟨t, e⟩ := (show ∃ t, u = Value.str x t from r); cases e; rfl
  | byt b => obtain ⟨t, e⟩ := (show ∃ t, u = Value.bytes b t from r); cases e; rfl
  | flt b => obtain ⟨t, e⟩ := (show ∃ t, u = Value.float b t from r); cases e; rfl
  | ref a => cases (show u = Value.ref a from r); rfl
  | ty n => cases (show u = Value.type n from r); rfl
section
variable {P : Program} {w : World} {H H' : Hp} {h h' : Heap} {a C dx : Addr} {fs fs' : List (Str × V)}
theorem ins_get (hok : HOk P w H h) (e : H a = some (.ins C dx fs)) : ∃ mA, ObjM h a dx C mA ∧ (∀ f, RelO (fs.lookup f) (mA f)) ∧ PySem.Within mA (fs.map (·.1)) ∧ fs.length ≤ 1000 ∧ H dx = some (.own a) := by
  obtain ⟨d, z, ne, ob, mA, n, r, q⟩ := (show ObjOk P w H h a (.ins C dx fs) from hok a _ e)
  exact ⟨mA, ⟨ob, n, ne⟩, r, q, z, d⟩
end
structure Cls (K : PySem.W.Frag) (C : Addr) : Prop where
  pg : PySem.W.plainGet K C Str.empty = true
  hd : PySem.W.hasDictIn K C = true
  po : PySem.W.plainOver K C = true
  sa : PySem.W.findIn K (.ref C) "__setattr__" = some (some (.builtin "object.__setattr__"))
theorem Cls.get {K : PySem.W.Frag} {C : Addr} (c : Cls K C) (f : Str) : PySem.W.plainGet K C f = true := c.pg
def NoAttr (K : PySem.W.Frag) (C : Addr) (f : Str) : Prop := PySem.W.findIn K (.ref C) f = some none
theorem NoAttr.taker {K : PySem.W.Frag} {C : Addr} {f : Str} (n : NoAttr K C f) : PySem.W.takerIn K C f = some none := by
  unfold PySem.W.takerIn
  rw [show PySem.W.findIn K (.ref C) f = some none from n]
  rfl
section
variable {X : Cx} {pins : List (Addr × Obj)} {σ : St} {H : Hp} {s : Shared} {a C dx : Addr} {fs : List (Str × V)} {f : Str} {v : V} {A : Around} {E : Value → Shared → Prop}
theorem getattr_ok {b : Bool} {Q : Value → Shared → Prop} (I : Inv X pins σ H s) (e : H a = some (.ins C dx fs)) (c : Cls X.K C) (n : NoAttr X.K C f) (l : fs.lookup f = some v)
    (h : ∀ u s', Inv X pins σ H s' → RelV v u → Q u s') : wpAny (model X.prog X.w) A (getAttr (.ref a) f b) Q E s := by
  obtain ⟨mA, O, r, _, _, _⟩ := ins_get I.hok e
  obtain ⟨u, hu, ru⟩ := RelO.some_of (v := v) (o := mA f) (by rw [← l]; exact r f)
  exact get_map I.kIn O (c.get f) c.hd n hu (handed_of ru) (h u _ (I.tok _) ru)
theorem getmeth_ok {m : Str} {g : Addr} {pl : Sem Bool} {Q : Value × List Value → Shared → Prop} (I : Inv X pins σ H s) (e : H a = some (.ins C dx fs)) (c : Cls X.K C) (k : Meth X.K C m g) (l : fs.lookup m = none)
    (h : Q (.ref g, [.ref a]) s) : wpAny (model X.prog X.w) A (getMethod (.ref a) m pl) Q E s := by
  obtain ⟨mA, O, r, _, _, _⟩ := ins_get I.hok e
  have hn : mA m = none := RelO.none_of (by rw [← l]; exact r m)
  exact get_meth I.kIn O (c.get m) k.at_ k.fn hn h
theorem setattr_ok {y : V} {u : Value} {Q : Unit → Shared → Prop} (I : Inv X pins σ H s) (e : H a = some (.ins C dx fs)) (c : Cls X.K C) (n : NoAttr X.K C f) (hl : fs.length < 1000) (ry : RelV y u)
    (h : ∀ s', Inv X pins σ (upd H a (.ins C dx (putF f y fs))) s' → Q () s') : wpAny (model X.prog X.w) A (setAttr (.ref a) f u) Q E s := by
  obtain ⟨mA, O, r, wi, _, ho⟩ := ins_get I.hok e
  have hz : (fs.map (·.1)).length ≤ sizeLine := by rw [List.length_map, sizeLine_eq]; omega
  refine set_map I.kIn O c.sa c.po n.taker c.hd wi hz fun h' O' sb => h _ ?_
  have hd : ∃ o, h'.get? dx = some o := let ⟨o, _, _, e', _⟩ := O'.ns; ⟨o, e'⟩
  refine I.write (x := a) (e := dx) (by rw [e]; exact True.intro) (.inr ho) (fun b q hb z => (sb.2 b hb).trans z) hd ?_
  refine ⟨by rw [upd_ne O.ne]; exact ho, ?_, O.ne, O'.obj, _, O'.ns, fun g => ?_, fun g hg => ?_⟩
  · have := length_putF f y fs; omega
  · show RelO ((putF f y fs).lookup g) (if g = f then some u else mA g)
    rw [lookup_putF]
    by_cases q : g = f
    · rw [if_pos q, if_pos q]; exact ry
    · rw [if_neg q, if_neg q]; exact r g
  · by_cases q : g = f
    · rw [q]; exact (keys_putF f y fs).1
    · refine (keys_putF f y fs).2 g (wi g fun z => hg ?_)
      show (if g = f then some u else mA g) = none
      rw [if_neg q]; exact z
theorem Inv.made (I : Inv X pins σ H s) : Inv X pins σ (upd (upd H s.heap.objs.size (.own (s.heap.objs.size + 1))) (s.heap.objs.size + 1) (.ins C s.heap.objs.size []))
    { s with heap := (s.heap.push PySem.W.emptyDict).push (PySem.W.instObj C s.heap.objs.size) } := by
  have e1 : (s.heap.push PySem.W.emptyDict).get? s.heap.objs.size = some PySem.W.emptyDict := Heap.get?_push_size s.heap rfl
  have e2 : ((s.heap.push PySem.W.emptyDict).push (PySem.W.instObj C s.heap.objs.size)).get? (s.heap.objs.size + 1) = some (PySem.W.instObj C s.heap.objs.size) := by
    have := Heap.get?_push_size (s.heap.push PySem.W.emptyDict) (o := PySem.W.instObj C s.heap.objs.size) rfl
    rwa [Heap.size_push] at this
  have e3 : (s.heap.push PySem.W.emptyDict).Ns s.heap.objs.size (fun _ => none) := ⟨PySem.W.emptyDict, #[], _, e1, rfl, (fun e he => absurd he (by simp)), fun _ => rfl⟩
  have I1 := I.laid (a := s.heap.objs.size) (o := .own (s.heap.objs.size + 1)) (h' := s.heap.push PySem.W.emptyDict) (t' := s.toks) (fun b u q => Heap.get?_push_of_some _ q) (Nat.le_refl _) ⟨_, e1⟩
  refine I1.laid (a := s.heap.objs.size + 1) (o := .ins C s.heap.objs.size []) (t' := s.toks) (fun b u q => Heap.get?_push_of_some _ q) (Nat.le_of_eq (Heap.size_push _ _)) ?_
  have ne : s.heap.objs.size ≠ s.heap.objs.size + 1 := Nat.ne_of_lt (Nat.lt_succ_self _)
  refine ⟨by rw [upd_ne ne, upd_same], Nat.zero_le _, ne, e2, fun _ => none, (Heap.Ns1.of_empty e3).at fun o q => Heap.get?_push_of_some _ q, fun _ => True.intro, fun y hy => absurd rfl hy⟩
theorem attr_of {prog : Program} {w : World} {env : Env} {e : Expr} {f : Str} {pos : Pos} {s : Shared} {Q : Value → Shared → Prop} (hb : attributeBase e f env (eval e env) = eval e env)
    (h : wpAny (model prog w) A (eval e env) (fun o s₁ => wpAny (model prog w) A (getAttr o f true) Q E s₁) E s) : wpAny (model prog w) A (eval (.Attribute e f pos) env) Q E s :=
  Attribute_any_ h (by rw [arm_eval_Attribute, hb])
end
def sFld (K : PySem.W.Frag) (ta tv : TE) (f : Str) : TS := fun D σ H => tv σ H fun y H1 => ta σ H1 fun x H2 => ∃ a C dx fs, x = .ref a ∧ H2 a = some (.ins C dx fs) ∧ Cls K C ∧ NoAttr K C f ∧ fs.length < 1000 ∧
  D.nx σ (upd H2 a (.ins C dx (putF f y fs)))
section
variable {X : Cx} {o e value : Expr} {f : Str} {pos pos' tpos : Pos} {ta tv : TE}
theorem ps_fld (ha : PE X o ta) (hv : PE X value tv) (hs : swapsWith value (some (.Attribute o f pos')) pos.line X.env = pure false) : PS X (.Assign [.Attribute o f pos'] value pos) (sFld X.K ta tv f) := by
  intro pins s σ H D I h
  refine plainObj_wpAny_Assign_Attribute (thn (hv pins s σ H _ I h) fun u s1 ⟨y, H1, I1, ry, q⟩ => thn (ha pins s1 σ H1 _ I1 q) fun ov s2 ⟨x, H2, I2, rx, a, C, dx, fs, ex, ea, c, n, l, q2⟩ => ?_) hs
  subst ex
  obtain rfl : ov = Value.ref a := rx
  exact setattr_ok I2 ea c n l ry fun s3 I3 => ⟨σ, _, I3, q2⟩
end
end L2
namespace L2
open PySem PySem.Spec PyProof.Rows
structure Room (k : Nat) (A : Around) : Prop where
  hd : A.handled = none
  dp : A.depth + 3 * k + 5 < recursionLimit
  un : A.units + 16 * k + 200 < cLine
theorem Room.mono {j k : Nat} {A : Around} (r : Room k A) (h : j ≤ k) : Room j A := ⟨r.hd, by have := r.dp; omega, by have := r.un; omega⟩
theorem Room.deeper {k : Nat} {A : Around} (r : Room (k + 1) A) (env : Env) : Room k (A.deeper env) :=
  ⟨r.hd, by have := r.dp; show A.depth + 1 + 3 * k + 5 < _; omega, by have := r.un; show A.units + 3 + 16 * k + 200 < _; omega⟩
theorem make_depth {A : Around} {C : Addr} {us : List Value} {kw : List (Str × Value)} : (A.under (.builtin "type.__call__" ⟨.ref C :: us, kw⟩)).depth = A.depth + 1 := by
  first | rfl | simp [Around.under, Code.weight, Code.isCreation, Code.isGuard, Code.isCaller, Code.frames, Code.isFrame, guardIds]
theorem make_units {A : Around} {C : Addr} {us : List Value} {kw : List (Str × Value)} : (A.under (.builtin "type.__call__" ⟨.ref C :: us, kw⟩)).units = A.units + 1 := by
  first | rfl | simp [Around.under, Code.cUnits, Code.frames, Code.isFrame]
theorem Room.make {k : Nat} {A : Around} (r : Room (k + 1) A) (C : Addr) (us : List Value) (kw : List (Str × Value)) : Room k (A.under (.builtin "type.__call__" ⟨.ref C :: us, kw⟩)) :=
  ⟨r.hd, by have := r.dp; rw [make_depth]; omega, by have := r.un; rw [make_units]; omega⟩
theorem Room.depth {k : Nat} {A : Around} (r : Room k A) : A.depth < recursionLimit := by have := r.dp; omega
theorem Room.units {k : Nat} {A : Around} (r : Room k A) : A.units + 64 < cLine := by have := r.un; omega
def tNil : TA := fun _ H Q => Q [] H
def tCons (ta : TE) (tr : TA) : TA := fun σ H Q => ta σ H fun x H1 => tr σ H1 fun xs H2 => Q (x :: xs) H2
section
variable {X : Cx} {e : Expr} {es : List Expr} {te : TE} {t : TA} {pos : Pos}
theorem pa_nil : PA X [] tNil := fun _ _ _ _ H Q I h => Calls.spliced_nil ⟨[], H, I, .nil, h⟩
theorem pa_cons (ha : PE X e te) (hr : PA X es t) (hs : starEach (e :: es) X.env = (false, eval e X.env) :: starEach es X.env := by rfl) : PA X (e :: es) (tCons te t) := by
  intro pos pins s σ H Q I h
  rw [hs]
  show wpAny _ _ (spliced ((false, eval e X.env) :: backTo pos (starEach es X.env))) _ _ s
  refine Calls.spliced_cons (thn (ha pins s σ H _ I h) fun u s1 ⟨x, H1, I1, r1, q1⟩ => ?_)
  exact thn (hr pos pins s1 σ H1 _ I1 q1) fun us s2 ⟨xs, H2, I2, r2, q2⟩ => ⟨x :: xs, H2, I2, .cons r1 r2, q2⟩
def tTup (t : TA) : TE := fun σ H Q => t σ H fun xs H1 => xs.length ≤ sizeLine ∧ ∀ p, H1 p = none → Q (.ref p) (upd H1 p (.tup xs))
def tLst (t : TA) : TE := fun σ H Q => t σ H fun xs H1 => xs.length ≤ sizeLine ∧ ∀ p, H1 p = none → Q (.ref p) (upd H1 p (.lst xs))
theorem pe_tup {x1} (h : PA X es t) : PE X (.Tuple es x1 pos) (tTup t) := by
  intro pins s σ H Q I hq
  refine wpAny_Tuple_spliced (thn (h pos pins s σ H _ I hq) fun us s1 ⟨xs, H1, I1, r, z, q⟩ => ⟨by rw [← r.length]; exact z, ?_⟩)
  have hf : H1 s1.heap.objs.size = none := I1.hok.fresh (Nat.le_refl _)
  refine ⟨.ref s1.heap.objs.size, upd H1 s1.heap.objs.size (.tup xs), I1.laid (t' := s1.toks) (fun b u e => Heap.get?_push_of_some _ e) (Nat.le_refl _) ?_, rfl, q _ hf⟩
  exact ⟨z, us, r, ⟨_, Heap.get?_push_size _ rfl, rfl, _, rfl⟩⟩
theorem pe_lst (h : PA X es t) : PE X (.List es pos) (tLst t) := by
  intro pins s σ H Q I hq
  refine wpAny_List_spliced (thn (h pos pins s σ H _ I hq) fun us s1 ⟨xs, H1, I1, r, z, q⟩ => ⟨by rw [← r.length]; exact z, ?_⟩)
  have hf : H1 s1.heap.objs.size = none := I1.hok.fresh (Nat.le_refl _)
  refine ⟨.ref s1.heap.objs.size, upd H1 s1.heap.objs.size (.lst xs), I1.laid (t' := s1.toks) (fun b u e => Heap.get?_push_of_some _ e) (Nat.le_refl _) ?_, rfl, q _ hf⟩
  exact ⟨z, us, 0, r, Heap.get?_push_size _ rfl⟩
end
abbrev Sp := List V → Hp → VK → XK → Prop
abbrev CXT := List Env → Hp → Shared → XK → Value → Shared → Prop
structure Env0 (P : Program) (w : World) (K : PySem.W.Frag) (mg : Str → Option Value) (base : Heap) (A : Around) (outer : List Env) (s : Shared) (H : Hp) : Prop where
  frames : A.frames = some outer
  mod : Mod K mg base
  bs : ∀ b o, base.get? b = some o → s.heap.get? b = some o ∧ H b = none
  bsz : base.objs.size ≤ s.heap.objs.size
  funs : s.heap.FunFrames base outer
  frf : ∀ b ∈ frs outer, H b = none
  hok : HOk P w H s.heap
  bare : AllBare s.gens
def CE (outer : List Env) (P : Program) (w : World) (H : Hp) (s : Shared) (Q : VK) (u : Value) (s' : Shared) : Prop :=
  ∃ v H', s'.os = s.os ∧ AllBare s'.gens ∧ Un (frs outer) [] H H' s.heap s'.heap ∧ HOk P w H' s'.heap ∧ RelV v u ∧ Q v H'
def CR (CX : CXT) (outer : List Env) (P : Program) (w : World) (H : Hp) (s : Shared) (Q : VK) (E : XK) (r : Result) (s' : Shared) : Prop :=
  match r with
  | .ok (.ret u) => CE outer P w H s Q u s'
  | .ok _ => False
  | .error e => CX outer H s E e s'
structure FnOk (P : Program) (w : World) (K : PySem.W.Frag) (mg : Str → Option Value) (base : Heap) (CX : CXT) (k : Nat) (f : Addr) (fd : FuncData) (ps : List Str) (sp : Sp) : Prop where
  len : ∀ vs H Q E, sp vs H Q E → vs.length = ps.length
  run : ∀ (A : Around) (outer : List Env) (s : Shared) (H : Hp) (args : Args) (us : List Value) (vs : List V) (Q : VK) (E : XK), Room k A → Env0 P w K mg base A outer s H → BindsTo s fd args (ps.zip us) → Vals vs us → sp vs H Q E →
    codeAny (model P w) A (.call (.ref f) args) (CR CX outer P w H s Q E) s
theorem FnOk.mono {P : Program} {w : World} {K : PySem.W.Frag} {mg : Str → Option Value} {base : Heap} {CX : CXT} {j k : Nat} {f : Addr} {fd : FuncData} {ps : List Str} {sp : Sp} (F : FnOk P w K mg base CX j f fd ps sp) (h : j ≤ k) :
    FnOk P w K mg base CX k f fd ps sp := ⟨F.len, fun A outer s H args us vs Q E hr => F.run A outer s H args us vs Q E (hr.mono h)⟩
theorem Env0.make {P : Program} {w : World} {K : PySem.W.Frag} {mg : Str → Option Value} {base : Heap} {A : Around} {outer : List Env} {s : Shared} {H : Hp} (e : Env0 P w K mg base A outer s H) (C : Addr) (us : List Value) (kw : List (Str × Value)) :
    Env0 P w K mg base (A.under (.builtin "type.__call__" ⟨.ref C :: us, kw⟩)) outer s H := ⟨by first | exact e.frames | (simpa [Around.under, Code.envs, Code.isFrame, pushEnvs] using e.frames), e.mod, e.bs, e.bsz, e.funs, e.frf, e.hok, e.bare⟩
section
variable {X : Cx} {pins : List (Addr × Obj)} {σ : St} {H : Hp} {s s' : Shared}
theorem Inv.env0 (I : Inv X pins σ H s) : Env0 X.prog X.w X.K X.mg X.base X.A X.stack s H :=
  ⟨I.ok.frames, I.ok.mod, I.bs, Nat.le_trans I.ok.bsz I.sz, I.stack, I.stkFree, I.hok, I.bare⟩
theorem Inv.after {Q : VK} {u : Value} (I : Inv X pins σ H s) (h : CE X.stack X.prog X.w H s Q u s') : EP X pins σ Q u s' := by
  obtain ⟨v, H', os, bare, un, hok, r, q⟩ := h
  obtain ⟨hh, g, d, t, os'⟩ := s'
  obtain rfl : os' = s.os := os
  exact ⟨v, H', I.call (h' := hh) (g' := g) (d' := d) (t' := t) (ch := []) un hok bare (fun b z => absurd z (by simp)), r, q⟩
end
def tCall (sp : Sp) (dvs : List V) (E : XK) (t : TA) : TE := fun σ H Q => t σ H fun vs H1 => sp (vs ++ dvs) H1 Q E
def tMake (C : Addr) (sp : Sp) (dvs : List V) (E : XK) (t : TA) : TE := fun σ H Q => t σ H fun vs H1 => ∀ x dx, H1 x = none → H1 dx = none → dx ≠ x →
  sp (.ref x :: (vs ++ dvs)) (upd (upd H1 dx (.own x)) x (.ins C dx [])) (fun v H2 => v = .non ∧ Q (.ref x) H2) E
def Binds (K : PySem.W.Frag) (fd : FuncData) (ps : List Str) (ds : List Value) : Prop :=
  ∀ (s : Shared) (us : List Value), K.In s.heap → (us ++ ds).length = ps.length → BindsTo s fd ⟨us, []⟩ (ps.zip (us ++ ds))
theorem Binds.all {K : PySem.W.Frag} {fd : FuncData} {ps : List Str} (h : ∀ us : List Value, us.length = ps.length → bindArgs fd ⟨us, []⟩ = pure (ps.zip us)) : Binds K fd ps [] := fun s us _ hl => by
  rw [List.append_nil] at hl ⊢
  exact .of_eq (h us hl)
def Passes (CX : CXT) (X : Cx) (E : XK) : Prop := ∀ (pins : List (Addr × Obj)) (σ : St) (H : Hp) (s : Shared) (e : Value) (s' : Shared), Inv X pins σ H s → CX X.stack H s E e s' → X.xe e s'
section
variable {X : Cx} {CX : CXT} {k : Nat} {f C : Addr} {fd : FuncData} {ps : List Str} {sp : Sp} {dvs : List V} {ds : List Value} {E : XK} {x m : Str} {p pos apos : Pos} {e o : Expr} {es : List Expr} {ta : TE} {t : TA}
theorem run_fn {pins : List (Addr × Obj)} {σ : St} {H : Hp} {s : Shared} {Q : VK} {us : List Value} {vs : List V} (F : FnOk X.prog X.w X.K X.mg X.base CX k f fd ps sp) (hr : Room k X.A) (hb : Binds X.K fd ps ds) (hd : Vals dvs ds) (hx : Passes CX X E)
    (I : Inv X pins σ H s) (r : Vals vs us) (h : sp (vs ++ dvs) H Q E) : wpAny (model X.prog X.w) X.A (call (.ref f) us) (EP X pins σ Q) X.xe s := by
  have r2 : Vals (vs ++ dvs) (us ++ ds) := r.append hd
  have hl : (us ++ ds).length = ps.length := by rw [← r2.length]; exact F.len _ _ _ _ h
  refine wpAny_call (codeAny_mono (F.run X.A X.stack s H ⟨us, []⟩ (us ++ ds) (vs ++ dvs) Q E hr I.env0 (hb s us I.kIn hl) r2 h) fun r s' hq => ?_)
  cases r with
  | error e => exact hx pins σ H s e s' I hq
  | ok fl =>
    cases fl with
    | ret u => exact I.after hq
    | next => exact False.elim hq
    | brk => exact False.elim hq
    | cont => exact False.elim hq
theorem pe_call (F : FnOk X.prog X.w X.K X.mg X.base CX k f fd ps sp) (hr : Room k X.A) (hg : Gl X x) (hm : X.mg x = some (.ref f)) (hk : PySem.W.keepIn X.K (.ref f) = true) (hb : Binds X.K fd ps ds) (hd : Vals dvs ds) (hx : Passes CX X E)
    (ha : PA X (e :: es) t) (hdb : (x == ("__debug__" : Str)) = false := by decide) (he : starEach (e :: es) X.env = (false, eval e X.env) :: starEach es X.env := by rfl) (hpl : (backTo pos (starEach es X.env)).any (·.1) = false := by rfl) :
    PE X (.Call (.Name x p) (e :: es) [] pos) (tCall sp dvs E t) := by
  intro pins s σ H Q I h
  refine wpAny_Call_Name_kw (ld_glob I hg hm ?_ hdb)
  refine PySem.W.callWith_K (h₀ := X.base) I.ok.mod.kin hk (thn (ha pos pins s σ H _ I h) fun us s1 ⟨vs, H1, I1, r, q⟩ => ⟨I1.kIn, ?_⟩) he hpl
  exact run_fn F hr hb hd hx I1 r q
structure Mk (K : PySem.W.Frag) (C f : Addr) : Prop where
  makes : PySem.W.makesIn K C = true
  init : PySem.W.findIn K (.ref C) "__init__" = some (some (.ref f))
  fn : PySem.W.isFn K (.ref f) = true
  kp : PySem.W.keepIn K (.ref C) = true
theorem run_make {pins : List (Addr × Obj)} {σ : St} {H : Hp} {s : Shared} {Q : VK} {us : List Value} {vs : List V} (M : Mk X.K C f) (F : FnOk X.prog X.w X.K X.mg X.base CX k f fd ps sp) (hr : Room (k + 1) X.A) (hb : Binds X.K fd ps ds) (hd : Vals dvs ds)
    (hx : Passes CX X E) (I : Inv X pins σ H s) (r : Vals vs us)
    (h : ∀ x dx, H x = none → H dx = none → dx ≠ x → sp (.ref x :: (vs ++ dvs)) (upd (upd H dx (.own x)) x (.ins C dx [])) (fun v H2 => v = .non ∧ Q (.ref x) H2) E) :
    wpAny (model X.prog X.w) X.A (call (.ref C) us) (EP X pins σ Q) X.xe s := by
  have hq := h (s.heap.objs.size + 1) s.heap.objs.size (I.hok.fresh (Nat.le_succ _)) (I.hok.fresh (Nat.le_refl _)) (Nat.ne_of_lt (Nat.lt_succ_self _))
  have I2 := Inv.made (C := C) I
  have r2 : Vals (V.ref (s.heap.objs.size + 1) :: (vs ++ dvs)) (Value.ref (s.heap.objs.size + 1) :: (us ++ ds)) := .cons rfl (r.append hd)
  have hl : (Value.ref (s.heap.objs.size + 1) :: us ++ ds).length = ps.length := by
    have e := r2.length
    rw [F.len _ _ _ _ hq] at e
    exact e.symm
  refine wpAny_call (make_map (f := f) I.kIn M.makes M.init (beq_iff_eq.mp M.fn) (codeAny_mono (F.run _ X.stack _ _ ⟨Value.ref (s.heap.objs.size + 1) :: us, []⟩ (Value.ref (s.heap.objs.size + 1) :: (us ++ ds)) _ _ E (hr.make C us [])
    (I2.env0.make C us []) (hb _ (Value.ref (s.heap.objs.size + 1) :: us) I2.kIn hl) r2 hq) fun r s' hq' => ?_))
  cases r with
  | error e => exact hx pins σ _ _ e s' I2 hq'
  | ok fl =>
    cases fl with
    | ret u =>
      obtain ⟨v, H', I3, rv, ev, q3⟩ := I2.after hq'
      subst ev
      exact ⟨rv, ⟨V.ref (s.heap.objs.size + 1), H', I3, rfl, q3⟩⟩
    | next => exact False.elim hq'
    | brk => exact False.elim hq'
    | cont => exact False.elim hq'
theorem pe_make0 (M : Mk X.K C f) (F : FnOk X.prog X.w X.K X.mg X.base CX k f fd ps sp) (hr : Room (k + 1) X.A) (hg : Gl X x) (hm : X.mg x = some (.ref C)) (hb : Binds X.K fd ps ds) (hd : Vals dvs ds) (hx : Passes CX X E)
    (hdb : (x == ("__debug__" : Str)) = false := by decide) : PE X (.Call (.Name x p) [] [] pos) (tMake C sp dvs E tNil) := by
  intro pins s σ H Q I h
  refine wpAny_Call_Name_kw (ld_glob I hg hm ?_ hdb)
  exact PySem.W.callWith_K0 I.kIn M.kp (run_make (us := []) M F hr hb hd hx I .nil h)
end
structure FnScope (N P : List Str) (sc : Scope) : Prop where
  kind : sc.kind = .function
  co : sc.isCoroutine = false
  gen : sc.isGenerator = false
  nd : N.Nodup
  pre : N.take P.length = P
  par : ∀ x ∈ P, sc.names.lookup x = some .local ∨ sc.names.lookup x = some .cell
  nofree : ∀ y ∈ sc.names, y.2 ≠ .free
theorem bindL_out {kindOf : Str → Option NameKind} {x : Str} : ∀ {binds : List (Str × Value)} {m : Str → Option Value}, (∀ v, (x, v) ∉ binds) → bindL kindOf binds m x = m x
  | [], _, _ => rfl
  | (n, v) :: r, m, h => by
    unfold bindL
    rw [bindL_out fun w hw => h w (List.mem_cons_of_mem _ hw)]
    split
    · have : x ≠ n := by rintro rfl; exact h v List.mem_cons_self
      simp [this]
    · rfl
theorem bindC_out {kindOf : Str → Option NameKind} {x : Str} : ∀ {binds : List (Str × Value)} {m : Str → Option Value}, (∀ v, (x, v) ∉ binds) → bindC kindOf binds m x = m x
  | [], _, _ => rfl
  | (n, v) :: r, m, h => by
    unfold bindC
    rw [bindC_out fun w hw => h w (List.mem_cons_of_mem _ hw)]
    split
    · rfl
    · have : x ≠ n := by rintro rfl; exact h v List.mem_cons_self
      simp [this]
theorem bindL_get {kindOf : Str → Option NameKind} {x : Str} {v : Value} : ∀ {P : List Str} {vs : List Value} {i : Nat} {m : Str → Option Value}, P.Nodup → P[i]? = some x → vs[i]? = some v → kindOf x = some .local →
    bindL kindOf (P.zip vs) m x = some v
  | [], _, _, _, _, h, _, _ => by simp at h
  | _ :: _, [], _, _, _, _, h, _ => by simp at h
  | p :: P, w :: vs, 0, m, nd, h1, h2, hk => by
    simp at h1 h2; subst h1; subst h2
    show bindL kindOf ((p, w) :: P.zip vs) m p = _
    unfold bindL
    rw [bindL_out fun v hv => (List.nodup_cons.mp nd).1 (List.of_mem_zip hv).1, if_pos hk]
    simp
  | p :: P, w :: vs, i + 1, m, nd, h1, h2, hk => by
    show bindL kindOf ((p, w) :: P.zip vs) m x = _
    unfold bindL
    exact bindL_get (i := i) (List.nodup_cons.mp nd).2 (by simpa using h1) (by simpa using h2) hk
theorem bindC_get {kindOf : Str → Option NameKind} {x : Str} {v : Value} : ∀ {P : List Str} {vs : List Value} {i : Nat} {m : Str → Option Value}, P.Nodup → P[i]? = some x → vs[i]? = some v → kindOf x ≠ some .local →
    bindC kindOf (P.zip vs) m x = some v
  | [], _, _, _, _, h, _, _ => by simp at h
  | _ :: _, [], _, _, _, _, h, _ => by simp at h
  | p :: P, w :: vs, 0, m, nd, h1, h2, hk => by
    simp at h1 h2; subst h1; subst h2
    show bindC kindOf ((p, w) :: P.zip vs) m p = _
    unfold bindC
    rw [bindC_out fun v hv => (List.nodup_cons.mp nd).1 (List.of_mem_zip hv).1, if_neg hk]
    simp
  | p :: P, w :: vs, i + 1, m, nd, h1, h2, hk => by
    show bindC kindOf ((p, w) :: P.zip vs) m x = _
    unfold bindC
    exact bindC_get (i := i) (List.nodup_cons.mp nd).2 (by simpa using h1) (by simpa using h2) hk
def start (N : List Str) (vs : List V) : St := vs.map some ++ List.replicate (N.length - vs.length) none
def cxOf (CX : CXT) (P : Program) (w : World) (K : PySem.W.Frag) (mg : Str → Option Value) (base : Heap) (N : List Str) (qual : Str) (scope : Scope) (f : Addr) (cd : Value) (A : Around) (outer : List Env) (s : Shared) (H : Hp) (E : XK) : Cx where
  prog := P
  w := w
  K := K
  mg := mg
  base := base
  A := A.deeper (envOfC qual scope s.heap.objs.size f cd)
  N := N
  s₀ := s
  H₀ := H
  env := envOfC qual scope s.heap.objs.size f cd
  outer := outer
  stack := envOfC qual scope s.heap.objs.size f cd :: outer
  ex := []
  calm := true
  fn := fun _ => true
  pn := []
  xe := fun e s' => wpAny (model P w) (A.deeper (envOfC qual scope s.heap.objs.size f cd)) (leaving (envOfC qual scope s.heap.objs.size f cd) e) (fun _ s'' => CX outer H s E e s'') (fun e' s'' => CX outer H s E e' s'') s'
theorem cell_has {sc : Scope} {n : Nat} {x : Str} (h : sc.names.lookup x = some .cell) : ∃ c, (cellsFrom n sc.names []).lookup x = some c := by
  have q := PySem.W.cellsFrom_some sc.names n [] (.inl h)
  exact Option.isSome_iff_exists.mp q
theorem inv_start {CX : CXT} {P : Program} {w : World} {K : PySem.W.Frag} {mg : Str → Option Value} {base : Heap} {N ps : List Str} {qual : Str} {scope : Scope} {f : Addr} {cd : Value} {A : Around} {outer : List Env} {s s1 : Shared} {H : Hp} {E : XK} {us : List Value} {vs : List V}
    (S : FnScope N ps scope) (hd : A.handled = none) (e0 : Env0 P w K mg base A outer s H) (hl : vs.length = ps.length) (r : Vals vs us)
    (x : InCallC s s.heap.objs.size (bindL (envOfC qual scope s.heap.objs.size f cd).kindOf (ps.zip us) fun _ => none) (cellsFrom (s.heap.objs.size + 1) scope.names []) (bindC (envOfC qual scope s.heap.objs.size f cd).kindOf (ps.zip us) fun _ => none) s1) :
    Inv (cxOf CX P w K mg base N qual scope f cd A outer s H E) [] (start N vs) H s1 := by
  have hpl : ps.length ≤ N.length := by have := congrArg List.length S.pre; rw [List.length_take] at this; omega
  obtain ⟨h1, tk, rfl, hk⟩ := x.done
  have noA : ∀ b : Addr, b ∉ (cxOf CX P w K mg base N qual scope f cd A outer s H E).ex := fun b z => absurd (show b ∈ ([] : List Addr) from z) (by simp)
  refine ⟨⟨e0.mod, S.kind, rfl, rfl, Nat.le_refl _, fun y z c h1 h2 => ?_, fun y hy => ?_, fun y c _ h => ?_, fun _ => hd, Around.frames_deeper e0.frames, .inr ⟨rfl, rfl⟩, fun b z => absurd z (noA b), e0.bs, e0.bsz, fun b _ _ => noA b, fun b z => absurd z (noA b), e0.funs, e0.frf⟩,
    rfl, e0.bare, Un.kept hk, ⟨_, x.toInCall.ns, fun i y v h1 h2 h3 => ?_⟩, fun y c h => ⟨_, x.cell y c h⟩, e0.hok.fresh (Nat.le_refl _), fun y c h => ?_, fun p hp => absurd (show p ∈ ([] : List (Addr × Obj)) from hp) (by simp), e0.hok.kept hk, ?_⟩
  · exact name_of_addr x.apart (PySem.mem_of_lookup h1) (PySem.mem_of_lookup h2)
  · have hy : scope.names.lookup y = some .cell ∨ scope.names.lookup y = some .free := hy
    rcases hy with hy | hy
    · exact cell_has hy
    · exact absurd rfl (S.nofree _ (PySem.mem_of_lookup hy))
  · exact Nat.le_of_lt (x.above y c (PySem.mem_of_lookup h))
  · have hi : i < vs.length := by
      unfold start at h2
      by_cases hi : i < vs.length
      · exact hi
      · rw [List.getElem?_append_right (by simpa using hi)] at h2
        rw [List.getElem?_replicate] at h2
        split at h2 <;> cases h2
    have ha : vs[i]? = some v := by
      unfold start at h2
      rw [List.getElem?_append_left (by simpa using hi), List.getElem?_map] at h2
      cases e : vs[i]? with
      | none => rw [e] at h2; cases h2
      | some a => rw [e] at h2; cases h2; rfl
    obtain ⟨u, hu, rv⟩ := r.get ha
    have hp : ps[i]? = some y := by
      rw [← S.pre, List.getElem?_take_of_lt (by omega)]; exact h1
    have ndP : ps.Nodup := by rw [← S.pre]; exact S.nd.sublist (List.take_sublist _ _)
    refine ⟨u, rv, ?_⟩
    rcases S.par y (List.mem_of_getElem? hp) with k | k
    · exact .inl ⟨k, bindL_get ndP hp hu k⟩
    · obtain ⟨c, e⟩ := cell_has (n := s.heap.objs.size + 1) k
      refine .inr ⟨.inl k, c, e, ?_⟩
      have q := x.cell y c e
      rw [bindC_get ndP hp hu (by show scope.names.lookup y ≠ _; rw [k]; decide)] at q
      exact q
  · exact e0.hok.fresh (Nat.le_of_lt (x.above y c (PySem.mem_of_lookup h)))
  · unfold start
    show _ = N.length
    rw [List.length_append, List.length_map, List.length_replicate]
    omega
theorem fn_of {CX : CXT} {P : Program} {w : World} {K : PySem.W.Frag} {mg : Str → Option Value} {base : Heap} {k : Nat} {f : Addr} {name qual : Str} {params : Arguments} {body : List Stmt} {scope : Scope} {dV kV doc pm cdv ct oc : Value} {an od : Option Addr}
    {osl : Array (Option Value)} {N ps : List Str} {sp : Sp} (lk : K.lookup f = some ⟨oc, od, .func (PySem.W.fnOf name qual params body scope dV kV doc pm an cdv ct), osl⟩) (hcd : PySem.W.codeIn K cdv qual = true) (S : FnScope N ps scope)
    (len : ∀ vs H Q E, sp vs H Q E → vs.length = ps.length)
    (hbody : ∀ (A : Around) (outer : List Env) (s : Shared) (H : Hp) (vs : List V) (Q : VK) (E : XK), Room k (A.deeper (envOfC qual scope s.heap.objs.size f cdv)) → sp vs H Q E →
      ∃ t, PSs (cxOf CX P w K mg base N qual scope f cdv A outer s H E) body t ∧ t { nx := fun _ H' => Q .non H', rt := Q } (start N vs) H) :
    FnOk P w K mg base CX (k + 1) f (PySem.W.fnOf name qual params body scope dV kV doc pm an cdv ct) ps sp := by
  refine ⟨len, fun A outer s H args us vs Q E hr e0 hb r hsp => ?_⟩
  have hl := len _ _ _ _ hsp
  have KX : K.In s.heap := e0.mod.kin.keeps fun b o e => (e0.bs b o e).1
  have lim : s.heap.NoLimit := e0.mod.nolimit.keeps fun b o e => (e0.bs b o e).1
  have hkind : ∀ y ∈ ps.zip us, scope.names.lookup y.1 = some .local ∨ (scope.names.lookup y.1 = some .cell ∧ ((cellsFrom (s.heap.objs.size + 1) scope.names []).lookup y.1).isSome = true) := fun ⟨n, v⟩ hy => by
    rcases S.par n (List.of_mem_zip hy).1 with q | q
    · exact .inl q
    · exact .inr ⟨q, PySem.W.cellsFrom_some _ _ _ (.inl q)⟩
  refine codeAny_call_function hr.depth (KX _ _ lk) rfl S.co S.gen rfl (PySem.W.codeRec_of KX hcd) (hb _ _ _ _ ?_)
  refine wpAny_newFunctionEnv_cells S.kind hkind fun env he s1 x => ?_
  subst he
  refine ⟨lim.keeps x.toInCall.keep, codeAny_func ?_⟩
  obtain ⟨t, ht, hq⟩ := hbody A outer s H vs Q E (hr.deeper _) hsp
  have I : Inv (cxOf CX P w K mg base N qual scope f cdv A outer s H E) [] (start N vs) H s1 := inv_start S hr.hd e0 hl r x
  refine wpAny_mono (ht [] s1 (start N vs) H _ I hq) (fun fl s' hs => ?_) fun e s' hs => hs
  have fin : ∀ {σ' : St} {H' : Hp} {v : V} {u : Value}, Inv (cxOf CX P w K mg base N qual scope f cdv A outer s H E) [] σ' H' s' → RelV v u → Q v H' → CE outer P w H s Q u s' :=
    fun {σ' H' v u} J rv q => ⟨v, H', J.os, J.bare, J.base, J.hok, rv, q⟩
  cases fl with
  | ret u =>
    obtain ⟨v, σ', H', J, rv, q⟩ := hs
    exact fin J rv q
  | next =>
    obtain ⟨σ', H', J, q⟩ := hs
    exact fin (v := V.non) (u := Value.none) J rfl q
  | brk =>
    obtain ⟨_, _, _, q⟩ := hs
    exact False.elim q
  | cont =>
    obtain ⟨_, _, _, q⟩ := hs
    exact False.elim q
end L2
namespace L2
open PySem PySem.Spec PyProof.Rows
section
variable {X : Cx} {x : Str} {p pos : Pos} {e : Expr} {es : List Expr} {t : TA} {id T : String} {r : List V → Hp → VK → Prop}
def tCB (r : List V → Hp → VK → Prop) (t : TA) : TE := fun σ H Q => t σ H fun vs H1 => r vs H1 Q
theorem pe_callB (hc : CallR X (.builtin id) r) (hg : Gl X x) (hm : X.mg x = none) (hv : bootBuiltins x = some (.builtin id)) (ha : PA X (e :: es) t) (hn : x ≠ "__name__" := by decide) (hdb : (x == ("__debug__" : Str)) = false := by decide)
    (he : starEach (e :: es) X.env = (false, eval e X.env) :: starEach es X.env := by rfl) (hpl : (backTo pos (starEach es X.env)).any (·.1) = false := by rfl) : PE X (.Call (.Name x p) (e :: es) [] pos) (tCB r t) := by
  intro pins s σ H Q I h
  refine wpAny_Call_Name_kw (ld_blt I hg hm hv ?_ hn hdb)
  exact PyProof.Rows.callWith_builtin1 (thn (ha pos pins s σ H _ I h) fun us s1 ⟨vs, H1, I1, r1, q1⟩ => hc pins s1 σ H1 vs us Q I1 r1 q1) he hpl
end
end L2
namespace HT
open PySem PyProof.Rows
section
variable {prog : Program} {w : World} {A : Around} {E : Value → Shared → Prop} {s : Shared}
def sIx (n d : Nat) : Option Int → Nat
  | none => d
  | some v => if v < 0 then (v + (n : Int)).toNat else min v.toNat n
theorem sIx_nat (n d k : Nat) : sIx n d (some (k : Int)) = min k n := by
  show (if (k : Int) < 0 then ((k : Int) + (n : Int)).toNat else min (k : Int).toNat n) = min k n
  rw [if_neg (by omega), Int.toNat_natCast]
end
end HT
namespace L2
open PySem PySem.Spec PyProof.Rows
abbrev TO := St → Hp → (Option Int → Hp → Prop) → Prop
def PO (X : Cx) (e : Option Expr) (t : TO) : Prop :=
  ∀ (pins : List (Addr × Obj)) (s : Shared) (σ : St) (H : Hp) (Q : Option Int → Hp → Prop), Inv X pins σ H s → t σ H Q →
    wpAny (model X.prog X.w) X.A (evalPart e X.env) (fun u s' => ∃ o H', Inv X pins σ H' s' ∧ IsPart u o ∧ Q o H') X.xe s
def tPart (t : TE) : TO := fun σ H Q => t σ H fun x H1 => ∃ i, x = .int i ∧ Q (some i) H1
section
variable {X : Cx} {e : Expr} {te : TE} {lo hi : Option Expr} {tl th : TO} {pos p2 : Pos}
theorem po_some (h : PE X e te) : PO X (some e) (tPart te) := by
  intro pins s σ H Q I hw
  rw [evalPart_some]
  refine thn (h pins s σ H _ I hw) fun u s1 ⟨x, H1, I1, r1, q1⟩ => ?_
  obtain ⟨i, rfl, q⟩ := q1
  obtain ⟨t, rfl⟩ := r1
  exact ⟨some i, H1, I1, .int i t, q⟩
def SlR (X : Cx) (r : V → Option Int → Option Int → Hp → VK → Prop) : Prop :=
  ∀ (pins : List (Addr × Obj)) (s : Shared) (σ : St) (H : Hp) (x : V) (v vl vu : Value) (lo hi : Option Int) (sl : Addr) (Q : VK), Inv X pins σ H s → RelV x v → s.heap.IsSliceOf sl vl vu .none → IsPart vl lo → IsPart vu hi → r x lo hi H Q →
    ∃ T id, typeLookup (.type T) "__getitem__" = pure (some (.builtin id)) ∧ s.TypeIs v T ∧ wpAny (model X.prog X.w) X.A (getItem v (.ref sl)) (EP X pins σ Q) X.xe s
def tSl (r : V → Option Int → Option Int → Hp → VK → Prop) (te : TE) (tl th : TO) : TE := fun σ H Q => te σ H fun x H1 => tl σ H1 fun l H2 => th σ H2 fun u H3 => r x l u H3 Q
theorem pe_slice {r : V → Option Int → Option Int → Hp → VK → Prop} (hr : SlR X r) (he : PE X e te) (hl : PO X lo tl) (hu : PO X hi th) : PE X (.Subscript e (.Slice lo hi none p2) pos) (tSl r te tl th) := by
  intro pins s σ H Q I h
  refine Subscript_ (thn (he pins s σ H _ I h) fun v s1 ⟨x, H1, I1, r1, q1⟩ => ?_)
  refine wpAny_Slice (thn (hl pins s1 σ H1 _ I1 q1) fun vl s2 ⟨l, H2, I2, pl, q2⟩ => thn (hu pins s2 σ H2 _ I2 q2) fun vu s3 ⟨u, H3, I3, pu, q3⟩ => ?_)
  rw [evalPart_none]
  refine wpAny_pure ?_
  have I4 : Inv X pins σ H3 { s3 with heap := s3.heap.push { cls := .type "slice", data := .fields #[vl, vu, .none] } } := I3.kept (t' := s3.toks) fun b ob q => Heap.get?_push_of_some _ q
  obtain ⟨T, id, hT, ht, hg⟩ := hr pins { s3 with heap := s3.heap.push { cls := .type "slice", data := .fields #[vl, vu, .none] } } σ H3 x v vl vu l u s3.heap.objs.size Q I4 r1 (Heap.IsSliceOf.new ..) pl pu q3
  show wpAny (model X.prog X.w) X.A (subscriptTail e (.Slice lo hi none p2) v (.ref s3.heap.objs.size)) (EP X pins σ Q) X.xe { s3 with heap := s3.heap.push { cls := .type "slice", data := .fields #[vl, vu, .none] } }
  exact tail_any (ops := [.ref s3.heap.objs.size, v]) ht hT hg (by with_unfolding_all rfl)
def cutV (xs : List V) (lo hi : Option Int) : List V := (xs.drop (HT.sIx xs.length 0 lo)).take (HT.sIx xs.length xs.length hi - HT.sIx xs.length 0 lo)
theorem cutV_length (xs : List V) (lo hi : Option Int) : (cutV xs lo hi).length ≤ xs.length := by
  unfold cutV
  rw [List.length_take, List.length_drop]
  omega
end
end L2
namespace L2
open PySem PySem.Spec PyProof.Rows
def ixN (n : Nat) (i : Int) : Option Nat := if 0 ≤ i then (if i < n then some i.toNat else none) else if -(n : Int) ≤ i then some (i + n).toNat else none
def atI {α : Type} (xs : List α) (i : Int) : Option α := (ixN xs.length i).bind fun j => xs[j]?
theorem ixN_seq {n : Nat} {i : Int} {j : Nat} (h : ixN n i = some j) : seqIndex? i n = some j ∧ j < n ∧ -(n : Int) ≤ i ∧ i < n := by
  unfold ixN at h
  by_cases h0 : 0 ≤ i
  · rw [if_pos h0] at h
    by_cases h1 : i < n
    · rw [if_pos h1] at h
      have e : i.toNat = j := Option.some.inj h
      exact ⟨by rw [seqIndex_of h0 h1, e], by omega, by omega, h1⟩
    · rw [if_neg h1] at h; cases h
  · rw [if_neg h0] at h
    by_cases h1 : -(n : Int) ≤ i
    · rw [if_pos h1] at h
      have e : (i + n).toNat = j := Option.some.inj h
      exact ⟨by rw [seqIndex_neg (by omega) h1, e], by omega, h1, by omega⟩
    · rw [if_neg h1] at h; cases h
theorem atI_get {α : Type} {xs : List α} {i : Int} {v : α} (h : atI xs i = some v) : ∃ j, seqIndex? i xs.length = some j ∧ xs[j]? = some v ∧ j < xs.length ∧ -(xs.length : Int) ≤ i ∧ i < xs.length := by
  unfold atI at h
  cases e : ixN xs.length i with
  | none => rw [e] at h; cases h
  | some j =>
    rw [e] at h
    obtain ⟨h1, h2, h3, h4⟩ := ixN_seq e
    exact ⟨j, h1, h, h2, h3, h4⟩
theorem atI_nat {α : Type} {xs : List α} {j : Nat} {v : α} (h : xs[j]? = some v) : atI xs (j : Int) = some v := by
  have hj : j < xs.length := (List.getElem?_eq_some_iff.mp h).1
  have e : ixN xs.length (j : Int) = some j := by
    unfold ixN
    rw [if_pos (by omega), if_pos (by omega)]; simp
  unfold atI; rw [e]; exact h
def PlainIx (b : Expr) : Prop := ∀ o i, subscripted b false o i = operate [o, i] (getItem o i)
def IxR (X : Cx) (r : R2) : Prop :=
  ∀ (value slice : Expr) (pins : List (Addr × Obj)) (s : Shared) (σ : St) (H : Hp) (x y : V) (v u : Value) (Q : VK), Inv X pins σ H s → RelV x v → RelV y u → r x y H Q →
    subscripted slice false v u = operate [v, u] (getItem v u) → wpAny (model X.prog X.w) X.A (subscriptTail value slice v u) (EP X pins σ Q) X.xe s
def MtR (X : Cx) (id : String) (r : V → List V → Hp → VK → Prop) : Prop :=
  ∀ (pins : List (Addr × Obj)) (s : Shared) (σ : St) (H : Hp) (x : V) (xs : List V) (v : Value) (us : List Value) (Q : VK), Inv X pins σ H s → RelV x v → Vals xs us → r x xs H Q →
    wpAny (model X.prog X.w) X.A (call (.builtin id) (v :: us)) (EP X pins σ Q) X.xe s
section
variable {X : Cx} {a b : Expr} {ta tb : TE} {pos : Pos}
theorem pe_ix {r : R2} (hr : IxR X r) (ha : PE X a ta) (hb : PE X b tb) (hs : PlainIx b) : PE X (.Subscript a b pos) (tOp r ta tb) := by
  intro pins s σ H Q I h
  exact Subscript_ (binT ha hb I h fun v u s2 x y H2 I2 rx ry q => hr a b pins s2 σ H2 x y v u Q I2 rx ry q (hs _ _))
def rIxL (K : PySem.W.Frag) : R2 := fun x y H Q => ∃ p xs i v, x = .ref p ∧ y = .int i ∧ SqL K H p xs ∧ atI xs i = some v ∧ Q v H
def rIxT (K : PySem.W.Frag) : R2 := fun x y H Q => ∃ p xs i v, x = .ref p ∧ y = .int i ∧ SqT K H p xs ∧ atI xs i = some v ∧ Q v H
theorem ix_list : IxR X (rIxL X.K) := by
  intro value slice pins s σ H x y v u Q I rx ry h hs
  obtain ⟨p, xs, i, z, rfl, rfl, hq, he, q⟩ := h
  cases rx
  obtain ⟨t, rfl⟩ := ry
  obtain ⟨its, r, pl, hz⟩ := I.list hq
  obtain ⟨j, h1, h2, h3, h4, h5⟩ := atI_get he
  obtain ⟨w, ew, rw'⟩ := r.get h2
  have hl := r.length
  have hn := line63
  have fin : EP X pins σ Q w s := ⟨z, H, I, rw', q⟩
  by_cases h0 : 0 ≤ i
  · have hj : i.toNat = j := by
      rw [seqIndex_of h0 h5] at h1
      exact Option.some.inj h1
    exact item_listR pl.isList h0 (by omega) (by rw [hj]; simpa using ew) fin hs
  · have hj : (i + (its.toArray.size : Int)).toNat = j := by
      rw [seqIndex_neg (by omega) h4] at h1
      rw [List.size_toArray, ← hl]
      exact Option.some.inj h1
    exact subscriptTail_builtinR (x := w) pl.isList.typeIs slot_list_getitem.lookup
      (wpAny_getItem_list_neg (Q := fun r s' => r = w ∧ EP X pins σ Q r s') pl.isList (by omega) (by rw [List.size_toArray] <;> omega) (by omega) (by rw [hj]; simpa using ew) ⟨rfl, fin⟩) hs
theorem ix_tup : IxR X (rIxT X.K) := by
  intro value slice pins s σ H x y v u Q I rx ry h hs
  obtain ⟨p, xs, i, z, rfl, rfl, hq, he, q⟩ := h
  cases rx
  obtain ⟨t, rfl⟩ := ry
  obtain ⟨its, r, pl, hz⟩ := I.tuple hq
  obtain ⟨j, h1, h2, h3, h4, h5⟩ := atI_get he
  obtain ⟨w, ew, rw'⟩ := r.get h2
  have hl := r.length
  have hn := line63
  have fin : EP X pins σ Q w s := ⟨z, H, I, rw', q⟩
  exact subscriptTail_builtinR (x := w) pl.typeIs slot_tuple_getitem.lookup
    (getItem_tuple (j := j) (Q := fun r s' => r = w ∧ EP X pins σ Q r s') pl (by omega) (by omega) (by rw [List.size_toArray, ← hl]; exact h1) (by simpa using ew) ⟨rfl, fin⟩) hs
theorem mapSeq_set (its : List Value) (n j : Nat) (u : Value) : Obj.mapSeq (·.setIfInBounds j u) { cls := .type "list", data := .seq its.toArray n } = { cls := .type "list", data := .seq (its.set j u).toArray n } := by
  simp [Obj.mapSeq]
theorem Inv.lst {pins : List (Addr × Obj)} {σ : St} {H : Hp} {s : Shared} {p : Addr} {xs : List V} (I : Inv X pins σ H s) (h : H p = some (.lst xs)) :
    ∃ (its : List Value) (n : Nat), Vals xs its ∧ s.heap.get? p = some { cls := .type "list", data := .seq its.toArray n } ∧ xs.length ≤ sizeLine := by
  obtain ⟨z, its, n, r, e⟩ := I.hok p _ h
  exact ⟨its, n, r, e, z⟩
theorem Inv.lstUpd {pins : List (Addr × Obj)} {σ : St} {H : Hp} {s : Shared} {p : Addr} {xs ys : List V} {its its' : List Value} {n n' : Nat} {f : Obj → Obj} (I : Inv X pins σ H s) (h : H p = some (.lst xs))
    (ho : s.heap.get? p = some { cls := .type "list", data := .seq its.toArray n }) (hf : f { cls := .type "list", data := .seq its.toArray n } = { cls := .type "list", data := .seq its'.toArray n' }) (r : Vals ys its') (hz : ys.length ≤ sizeLine) (t : Nat) :
    Inv X pins σ (upd H p (.lst ys)) { s with heap := s.heap.update p f, toks := t } := by
  have e : (s.heap.update p f).get? p = some { cls := .type "list", data := .seq its'.toArray n' } := by
    rw [Heap.get?_update_self f ho (by rw [hf] <;> rfl), hf]
  refine I.write (x := p) (e := p) (by rw [h]; trivial) (.inl rfl) (fun b u hb q => (Heap.get?_update_other _ _ (Ne.symm hb)).trans q) ⟨_, e⟩ ?_
  exact ⟨hz, its', n', r, e⟩
def rSetL : V → V → V → Hp → (Hp → Prop) → Prop := fun o i v H Q => ∃ p xs k j, o = .ref p ∧ i = .int k ∧ H p = some (.lst xs) ∧ ixN xs.length k = some j ∧ Q (upd H p (.lst (xs.set j v)))
theorem set_list : PSet X rSetL := by
  intro pins s σ H o i v ov iv u Q I ro ri rv h
  obtain ⟨p, xs, k, j, rfl, rfl, hp, hj, q⟩ := h
  cases ro
  obtain ⟨t, rfl⟩ := ri
  obtain ⟨its, n, r, ho, hz⟩ := I.lst hp
  obtain ⟨h1, h2, h3, h4⟩ := ixN_seq hj
  have hl := r.length
  have hn := line63
  have I' : Inv X pins σ (upd H p (.lst (xs.set j v))) { s with heap := s.heap.update p (Obj.mapSeq (·.setIfInBounds j u)) } :=
    I.lstUpd hp ho (mapSeq_set its n j u) (r.set rv j) (by rw [List.length_set]; exact hz) s.toks
  by_cases h0 : 0 ≤ k
  · have hk : k.toNat = j := by
      rw [seqIndex_of h0 h4] at h1
      exact Option.some.inj h1
    exact PySem.W.ki_setAt ho h0 (by omega) (by rw [List.size_toArray, ← hl]; exact h4) (by rw [hk]; exact ⟨_, I', q⟩)
  · have hk : (k + (its.toArray.size : Int)).toNat = j := by
      rw [seqIndex_neg (by omega) h3] at h1
      rw [List.size_toArray, ← hl]
      exact Option.some.inj h1
    exact PySem.W.ki_setBack ho (by omega) (by rw [List.size_toArray, ← hl]; exact h3) (by omega) (by rw [hk]; exact ⟨_, I', q⟩)
theorem slice_bounds (lo hi : Option Int) (n : Nat) : (sliceBounds lo hi none n).1 = ((HT.sIx n 0 lo : Nat) : Int) ∧ (sliceBounds lo hi none n).2.1 = ((HT.sIx n n hi : Nat) : Int) ∧ (sliceBounds lo hi none n).2.2 = 1 := by
  refine ⟨?_, ?_, rfl⟩
  · cases lo with
    | none => simp [sliceBounds, HT.sIx]
    | some i =>
      simp only [sliceBounds, HT.sIx, Option.getD_none, show (1 : Int) > 0 by decide, if_true]
      by_cases h : i < 0
      · simp only [h, if_true] <;> omega
      · simp only [h, if_false] <;> omega
  · cases hi with
    | none => simp [sliceBounds, HT.sIx]
    | some i =>
      simp only [sliceBounds, HT.sIx, Option.getD_none, show (1 : Int) > 0 by decide, if_true]
      by_cases h : i < 0
      · simp only [h, if_true] <;> omega
      · simp only [h, if_false] <;> omega
theorem slicePick_cut (its : List Value) (lo hi : Option Int) : slicePick its.toArray lo hi none = ((its.drop (HT.sIx its.length 0 lo)).take (HT.sIx its.length its.length hi - HT.sIx its.length 0 lo)).toArray := by
  obtain ⟨h1, h2, h3⟩ := slice_bounds lo hi its.toArray.size
  unfold slicePick
  rw [h1, h2, h3]
  simp only [sliceRange_one, pick_run, List.size_toArray] <;> rfl
def rSlL (K : PySem.W.Frag) : V → Option Int → Option Int → Hp → VK → Prop := fun x lo hi H Q => ∃ a xs, x = .ref a ∧ SqL K H a xs ∧ ∀ p, H p = none → Q (.ref p) (upd H p (.lst (cutV xs lo hi)))
theorem sl_list : SlR X (rSlL X.K) := by
  intro pins s σ H x v vl vu lo hi sl Q I rx hs pl pu h
  obtain ⟨a, xs, rfl, hx, q⟩ := h
  cases rx
  obtain ⟨its, r, ht, hz⟩ := I.list hx
  have hlen := r.length
  refine ⟨"list", _, slot_list_getitem.lookup, ht.isList.typeIs, ?_⟩
  refine wpAny_getItem_list_slice ht.isList hs pl pu .none (by simp) ?_ (by rw [List.size_toArray] <;> omega)
  rw [slicePick_cut, ← hlen]
  refine ⟨.ref s.heap.objs.size, _, I.laid (t' := s.toks) (o := .lst (cutV xs lo hi)) (fun b ob q => Heap.get?_push_of_some _ q) (Nat.le_refl _) ?_, rfl, q _ (I.hok.fresh (Nat.le_refl _))⟩
  exact ⟨Nat.le_trans (cutV_length xs lo hi) hz, _, 0, (r.drop (HT.sIx xs.length 0 lo)).take (HT.sIx xs.length xs.length hi - HT.sIx xs.length 0 lo), Heap.get?_push_size _ rfl⟩
def flatV : V → Bool
  | .non => true
  | .bl _ => true
  | .int _ => true
  | .str _ => true
  | _ => false
def eqV : V → V → Bool
  | .non, .non => true
  | .bl a, .bl b => a == b
  | .bl a, .int b => (if a then 1 else 0) == b
  | .int a, .bl b => a == (if b then 1 else 0)
  | .int a, .int b => a == b
  | .str a, .str b => a == b
  | _, _ => false
theorem eqAt_V {A : Around} {s : Shared} {y x : V} {u v : Value} (ry : RelV y u) (rx : RelV x v) (fy : flatV y = true) (fx : flatV x = true) : SeqAt.EqAt A s u v (eqV y x) := by
  cases y with
  | non =>
    cases ry
    cases x with
    | non => cases rx; exact SeqAt.EqAt.same _
    | bl b => cases rx; exact SeqAt.EqAt.none_bool b
    | int b => obtain ⟨t, rfl⟩ := rx; exact SeqAt.EqAt.none_int b t
    | str b => obtain ⟨t, rfl⟩ := rx; exact SeqAt.EqAt.none_str b t
    | _ => exact absurd (show false = true from fx) Bool.false_ne_true
  | bl a =>
    cases ry
    cases x with
    | non => cases rx; exact SeqAt.EqAt.bool_none a
    | bl b => cases rx; exact SeqAt.EqAt.bool_bool a b
    | int b => obtain ⟨t, rfl⟩ := rx; exact SeqAt.EqAt.bool_int a b t
    | str b => obtain ⟨t, rfl⟩ := rx; exact SeqAt.EqAt.bool_str a b t
    | _ => exact absurd (show false = true from fx) Bool.false_ne_true
  | int a =>
    obtain ⟨t', rfl⟩ := ry
    cases x with
    | non => cases rx; exact SeqAt.EqAt.int_none a t'
    | bl b => cases rx; exact SeqAt.EqAt.int_bool a t' b
    | int b => obtain ⟨t, rfl⟩ := rx; exact SeqAt.EqAt.int_int a t' b t
    | str b => obtain ⟨t, rfl⟩ := rx; exact SeqAt.EqAt.int_str a t' b t
    | _ => exact absurd (show false = true from fx) Bool.false_ne_true
  | str a =>
    obtain ⟨t', rfl⟩ := ry
    cases x with
    | non => cases rx; exact SeqAt.EqAt.str_none a t'
    | bl b => cases rx; exact SeqAt.EqAt.str_bool a t' b
    | int b => obtain ⟨t, rfl⟩ := rx; exact SeqAt.EqAt.str_int a t' b t
    | str b => obtain ⟨t, rfl⟩ := rx; exact SeqAt.EqAt.str_str a t' b t
    | _ => exact absurd (show false = true from fx) Bool.false_ne_true
  | _ => exact absurd (show false = true from fy) Bool.false_ne_true
def eqU (x : V) (u : Value) : Bool := match u with
  | .none => eqV .non x
  | .bool b => eqV (.bl b) x
  | .int i _ => eqV (.int i) x
  | .str z _ => eqV (.str z) x
  | _ => false
theorem eqU_of {x y : V} {u : Value} (r : RelV y u) (f : flatV y = true) : eqU x u = eqV y x := by
  cases y with
  | non => cases r; rfl
  | bl b => cases r; rfl
  | int i => obtain ⟨t, rfl⟩ := r; rfl
  | str z => obtain ⟨t, rfl⟩ := r; rfl
  | _ => exact absurd (show false = true from f) Bool.false_ne_true
theorem any_eqU {x : V} : ∀ {xs : List V} {us : List Value}, Vals xs us → xs.all flatV = true → us.any (eqU x) = xs.any fun y => eqV y x
  | _, _, .nil, _ => rfl
  | y :: xs, u :: us, .cons r t, f => by
    rw [List.all_cons, Bool.and_eq_true] at f
    rw [List.any_cons, List.any_cons, eqU_of r f.1, any_eqU t f.2]
theorem mem_eqAt {A : Around} {s : Shared} {x : V} {v : Value} (rx : RelV x v) (fx : flatV x = true) : ∀ {xs : List V} {us : List Value}, Vals xs us → xs.all flatV = true → ∀ u ∈ us, SeqAt.EqAt A s u v (eqU x u)
  | _, _, .nil, _ => fun u hu => by cases hu
  | y :: xs, u :: us, .cons r t, f => fun u' hu => by
    rw [List.all_cons, Bool.and_eq_true] at f
    rcases List.mem_cons.mp hu with rfl | hu
    · rw [eqU_of r f.1]; exact eqAt_V r rx f.1 fx
    · exact mem_eqAt rx fx t f.2 u' hu
def inV (x : V) (xs : List V) : Bool := xs.any fun y => eqV y x
theorem call_len_seq : CallR X (.builtin "len") (fun xs H Q => ∃ p ys, xs = [.ref p] ∧ (SqL X.K H p ys ∨ SqT X.K H p ys) ∧ Q (.int ys.length) H) := by
  intro pins s σ H xs us Q I r h
  obtain ⟨p, ys, rfl, hq, q⟩ := h
  obtain ⟨u, rfl, rx⟩ := vals1 r
  cases rx
  have hn := line63
  rcases hq with hq | hq
  · obtain ⟨its, r', pl, hz⟩ := I.list hq
    have hlen := r'.length
    exact Calls.call_len_list pl.isList (by simp only [List.size_toArray] <;> omega) ⟨.int ys.length, H, I.tok _, ⟨s.toks + 1, by rw [List.size_toArray, hlen]⟩, q⟩
  · obtain ⟨its, r', pl, hz⟩ := I.tuple hq
    have hlen := r'.length
    exact len_tuple pl (by simp only [List.size_toArray] <;> omega) ⟨.int ys.length, H, I.tok _, ⟨s.toks + 1, by rw [List.size_toArray, hlen]⟩, q⟩
def tyV (K : PySem.W.Frag) (T : String) (x : V) (H : Hp) : Prop := match x with
  | .str _ => T = "str"
  | .int _ => T = "int"
  | .ref p => (T = "list" ∧ ∃ xs, SqL K H p xs) ∨ (T = "tuple" ∧ ∃ o, K.lookup p = some o ∧ o.cls = .type "tuple" ∧ o.dict = none) ∨
      (T = "dict" ∧ ((∃ kvs, H p = some (.dK kvs)) ∨ ∃ kvs, H p = some (.dT kvs))) ∨ (T = "set" ∧ ∃ S n, H p = some (.set S n))
  | _ => False
theorem tyV_is {pins : List (Addr × Obj)} {σ : St} {H : Hp} {s : Shared} {T : String} {x : V} {v : Value} (I : Inv X pins σ H s) (r : RelV x v) (ty : tyV X.K T x H) :
    s.TypeIs v T ∧ ∀ a, v = .ref a → ∃ ob, s.heap.get? a = some ob ∧ ob.dict = none := by
  cases x with
  | str z =>
    obtain ⟨t, rfl⟩ := r
    cases (show T = "str" from ty)
    exact ⟨typeIs_str s z t, fun _ e => nomatch e⟩
  | int i =>
    obtain ⟨t, rfl⟩ := r
    cases (show T = "int" from ty)
    exact ⟨typeIs_int s i t, fun _ e => nomatch e⟩
  | ref p =>
    cases r
    rcases ty with ⟨rfl, xs, hq⟩ | ⟨rfl, o, hk, hc, hd⟩ | ⟨rfl, hk⟩ | ⟨rfl, S, n, hk⟩
    · obtain ⟨its, _, pl, _⟩ := I.list hq
      refine ⟨pl.isList.typeIs, fun a e => ?_⟩
      cases e
      obtain ⟨o, n, e, c, hd, _⟩ := pl
      exact ⟨o, e, hd⟩
    · refine ⟨⟨o, I.kIn p o hk, hc⟩, fun a e => ?_⟩
      cases e
      exact ⟨o, I.kIn _ o hk, hd⟩
    · have z : ∃ o, s.heap.get? p = some o ∧ o.ExactDict := by
        rcases hk with ⟨kvs, hk⟩ | ⟨kvs, hk⟩
        · obtain ⟨_, _, _, _, o, _, _, e, ex, _⟩ := I.hok p _ hk
          exact ⟨o, e, ex⟩
        · obtain ⟨_, _, _, _, o, _, _, e, ex, _⟩ := I.hok p _ hk
          exact ⟨o, e, ex⟩
      obtain ⟨o, e, ex⟩ := z
      refine ⟨⟨o, e, ex.1⟩, fun a e2 => ?_⟩
      cases e2
      exact ⟨o, e, ex.2.1⟩
    · obtain ⟨o, _, _, _, e, ex, _⟩ := I.hok p _ hk
      refine ⟨⟨o, e, ex.1⟩, fun a e2 => ?_⟩
      cases e2
      exact ⟨o, e, ex.2.1⟩
  | _ => exact False.elim ty
def tBM (K : PySem.W.Frag) (T : String) (r : V → List V → Hp → VK → Prop) (to : TE) (t : TA) : TE := fun σ H Q => to σ H fun x H1 => tyV K T x H1 ∧ t σ H1 fun xs H2 => r x xs H2 Q
variable {o e : Expr} {es : List Expr} {to : TE} {t : TA} {name : Str} {apos cpos : Pos} {T id : String} {r : V → List V → Hp → VK → Prop}
theorem pe_bm (pa : PlainAttrs T) (slot : Slot T name id) (hty : typeOf (.builtin id) = pure (.type "method_descriptor")) (hm : MtR X id r) (ho : PE X o to) (ha : PA X (e :: es) t)
    (hbase : attributeBase o name X.env (eval o X.env) = eval o X.env := by rfl)
    (hfew : ((backTo cpos (starEach (e :: es) X.env)).all (fun x => !x.1) && (backToKw cpos (keywordEach [] X.env)).all (fun x => x.1.isSome)
      && decide ((e :: es).length + ([] : List Keyword).length + (if ([] : List Keyword).isEmpty then 0 else 1) < 30)) = true := by rfl)
    (hline : (apos.endLine == cpos.line) = true := by rfl) (hs : starEach (e :: es) X.env = (false, eval e X.env) :: starEach es X.env := by rfl) (hplain : (backTo cpos (starEach es X.env)).any (·.1) = false := by rfl) :
    PE X (.Call (.Attribute o name apos) (e :: es) [] cpos) (tBM X.K T r to t) := by
  intro pins s σ H Q I h
  refine wpAny_Call_method_late hbase hfew hline rfl (thn (ho pins s σ H _ I h) fun v s1 ⟨x, H1, I1, r1, ty, q1⟩ => ?_)
  obtain ⟨h1, h2⟩ := tyV_is I1 r1 ty
  refine ⟨T, id, pa, slot, hty, h1, h2, ?_⟩
  have hA := ha cpos pins s1 σ H1 _ I1 q1
  rw [hs] at hA ⊢
  refine Calls.callWith_builtin (by show (false || (backTo cpos (starEach es X.env)).any (·.1)) = false; rw [hplain] <;> rfl) (Calls.evalArgs_plain ?_)
  exact thn hA fun us s2 ⟨vs, H2, I2, r2, q2⟩ => hm pins s2 σ H2 x vs v us Q I2 r1 r2 q2
end
end L2
namespace L2
open PySem PySem.Spec PyProof.Rows
def MtM (X : Cx) (id : String) (r : V → List V → Hp → VK → Prop) : Prop :=
  ∀ (pins : List (Addr × Obj)) (s : Shared) (σ : St) (H : Hp) (x : V) (xs : List V) (v : Value) (us : List Value) (Q : VK), Inv X pins σ H s → RelV x v → Vals xs us → r x xs H Q →
    wpAny (model X.prog X.w) X.A (call (.builtin id) (v :: us)) (EP X pins σ Q) X.xe s
theorem Vals.one : ∀ {x : V} {us : List Value}, Vals [x] us → ∃ u, us = [u] ∧ RelV x u
  | _, _, .cons r .nil => ⟨_, rfl, r⟩
theorem Vals.rep {xs : List V} {us : List Value} (h : Vals xs us) : ∀ k : Nat, Vals (List.replicate k xs).flatten (List.replicate k us).flatten
  | 0 => .nil
  | k + 1 => by
    rw [List.replicate_succ, List.replicate_succ, List.flatten_cons, List.flatten_cons]
    exact Vals.append h (Vals.rep h k)
theorem foldl_rep (its : List Value) : ∀ (k : Nat) (acc : List Value),
    List.foldl (fun x1 x2 => x1 ++ x2) acc.toArray (List.replicate k its.toArray) = (acc ++ (List.replicate k its).flatten).toArray
  | 0, acc => by simp
  | k + 1, acc => by
    have e : acc.toArray ++ its.toArray = (acc ++ its).toArray := by simp
    have e2 : (acc ++ its) ++ (List.replicate k its).flatten = acc ++ (List.replicate (k + 1) its).flatten := by
      rw [List.replicate_succ, List.flatten_cons, List.append_assoc]
    rw [← e2, ← foldl_rep its k (acc ++ its), ← e, List.replicate_succ, List.foldl_cons]
section
variable {X : Cx} {pins : List (Addr × Obj)} {σ : St} {H : Hp} {s : Shared} {l b : Addr} {xs ys zs : List V}
theorem Inv.lset {its its' : List Value} {n : Nat} {f : Array Value → Array Value} {t' : Nat} (I : Inv X pins σ H s) (hH : H l = some (.lst xs))
    (e : s.heap.get? l = some { cls := .type "list", data := .seq its.toArray n }) (hf : f its.toArray = its'.toArray) (hv : Vals ys its') (hz : ys.length ≤ sizeLine) :
    Inv X pins σ (upd H l (.lst ys)) { s with heap := s.heap.update l (Obj.mapSeq f), toks := t' } := by
  have q := PySem.IsL.update e f
  rw [hf] at q
  refine I.write (x := l) (e := l) (by rw [hH]; exact trivial) (.inl rfl) (fun b' u hb hu => (Heap.get?_update_other s.heap (Obj.mapSeq f) (Ne.symm hb)).trans hu) ⟨_, q⟩ ?_
  exact ⟨hz, its', _, hv, q⟩
theorem Inv.lnew {its : List Value} {t' : Nat} (I : Inv X pins σ H s) (hv : Vals ys its) (hz : ys.length ≤ sizeLine) :
    Inv X pins σ (upd H s.heap.objs.size (.lst ys)) { s with heap := s.heap.push { cls := .type "list", data := .seq its.toArray }, toks := t' } :=
  I.laid (fun _ _ q => Heap.get?_push_of_some _ q) (Nat.le_refl _) ⟨hz, its, 0, hv, Heap.get?_push_size _ rfl⟩
theorem Inv.fresh (I : Inv X pins σ H s) : H s.heap.objs.size = none := I.hok.fresh (Nat.le_refl _)
theorem Inv.lstM (I : Inv X pins σ H s) (hH : H l = some (.lst xs)) : xs.length ≤ sizeLine ∧ ∃ (its : List Value) (n : Nat), Vals xs its ∧ xs.length = its.length ∧ s.heap.get? l = some { cls := .type "list", data := .seq its.toArray n } := by
  obtain ⟨z, its, n, r, e⟩ := I.hok l _ hH
  exact ⟨z, its, n, r, r.length, e⟩
theorem notLongL {n : Nat} (h : n ≤ sizeLine) : Builtin.List.listTooLong n = false := by
  unfold Builtin.List.listTooLong
  exact decide_eq_false (by omega)
end
section
variable {X : Cx}
def rAppend : V → List V → Hp → VK → Prop := fun x vs H Q => ∃ l xs y, x = .ref l ∧ vs = [y] ∧ H l = some (.lst xs) ∧ xs.length < sizeLine ∧ Q .non (upd H l (.lst (xs ++ [y])))
theorem mt_append : MtM X "list.append" rAppend := by
  intro pins s σ H x vs v us Q I rx rv h
  obtain ⟨l, xs, y, rfl, rfl, hH, hz, q⟩ := h
  cases rx
  obtain ⟨u, rfl, ru⟩ := rv.one
  obtain ⟨z, its, n, r, hl, e⟩ := I.lstM hH
  refine call_meets F.slot_list_append ⟨_, e, rfl⟩ F.entry_list_append (F.args_list_append_2 _ _) (PySem.list_append l its.toArray n u (by rw [List.size_toArray]; omega)) ⟨e, ?_⟩
  refine ⟨.non, _, I.lset (its' := its ++ [u]) hH e (by simp) (r.append (.cons ru .nil)) ?_, rfl, q⟩
  rw [List.length_append, List.length_singleton]
  omega
def rExtend : V → List V → Hp → VK → Prop := fun x vs H Q => ∃ l b xs zs, x = .ref l ∧ vs = [.ref b] ∧ H l = some (.lst xs) ∧ H b = some (.lst zs) ∧ xs.length + zs.length ≤ sizeLine ∧ Q .non (upd H l (.lst (xs ++ zs)))
theorem mt_extend : MtM X "list.extend" rExtend := by
  intro pins s σ H x vs v us Q I rx rv h
  obtain ⟨l, b, xs, zs, rfl, rfl, hH, hB, hz, q⟩ := h
  cases rx
  obtain ⟨u, rfl, ru⟩ := rv.one
  cases ru
  obtain ⟨z, its, n, r, hl, e⟩ := I.lstM hH
  obtain ⟨z2, its2, n2, r2, hl2, e2⟩ := I.lstM hB
  have hsz : its.toArray.size + its2.toArray.size ≤ sizeLine := by rw [List.size_toArray, List.size_toArray]; omega
  have hlong : ¬ (!its.toArray.isEmpty && Builtin.List.listTooLong (its.toArray.size + its2.toArray.size)) = true := by
    rw [notLongL hsz, Bool.and_false]
    exact Bool.false_ne_true
  refine call_meets F.slot_list_extend ⟨_, e, rfl⟩ F.entry_list_extend (F.args_list_extend_2 _ _)
    (AutoSeq1.list_extend_list_list_0 l its.toArray n b its2.toArray n2 hlong (by rw [List.size_toArray]; omega) (by omega)) ⟨e, e2, ?_⟩
  refine ⟨.non, _, I.lset (its' := its ++ its2) hH e (by simp) (r.append r2) ?_, rfl, q⟩
  rw [List.length_append]
  omega
def rCat : R2 := fun x y H Q => ∃ l b xs zs, x = .ref l ∧ y = .ref b ∧ H l = some (.lst xs) ∧ H b = some (.lst zs) ∧ xs.length + zs.length ≤ sizeLine ∧ ∀ p, H p = none → Q (.ref p) (upd H p (.lst (xs ++ zs)))
theorem op_cat : OpR X (binaryOp .Add) rCat := by
  intro pins s σ H x y v u Q I rx ry h
  obtain ⟨l, b, xs, zs, rfl, rfl, hH, hB, hz, q⟩ := h
  cases rx
  cases ry
  obtain ⟨z, its, n, r, hl, e⟩ := I.lstM hH
  obtain ⟨z2, its2, n2, r2, hl2, e2⟩ := I.lstM hB
  refine PySem.P.add_list e e2 ?_ (by rw [List.size_toArray, List.size_toArray]; omega)
  have ea : its.toArray ++ its2.toArray = (its ++ its2).toArray := by simp
  rw [ea]
  exact ⟨.ref _, _, I.lnew (t' := s.toks) (r.append r2) (by rw [List.length_append]; omega), rfl, q _ I.fresh⟩
def rRep : R2 := fun x y H Q => ∃ l k xs, x = .ref l ∧ y = .int k ∧ H l = some (.lst xs) ∧ -(2 ^ 63) ≤ k ∧ k < 2 ^ 63 ∧ xs.length * k.toNat ≤ sizeLine ∧
  ∀ p, H p = none → Q (.ref p) (upd H p (.lst (List.replicate k.toNat xs).flatten))
theorem len_rep {α : Type} (xs : List α) (k : Nat) : (List.replicate k xs).flatten.length = k * xs.length := by
  induction k with
  | zero => simp
  | succ k ih => rw [List.replicate_succ, List.flatten_cons, List.length_append, ih, Nat.succ_mul, Nat.add_comm]
theorem op_rep : OpR X (binaryOp .Mult) rRep := by
  intro pins s σ H x y v u Q I rx ry h
  obtain ⟨l, k, xs, rfl, rfl, hH, h1, h2, hz, q⟩ := h
  cases rx
  obtain ⟨t, rfl⟩ := ry
  obtain ⟨z, its, n, r, hl, e⟩ := I.lstM hH
  have hlen : its.toArray.size * k.toNat ≤ sizeLine := by rw [List.size_toArray, ← hl]; exact hz
  have hcap : ¬ its.toArray.size * k.toNat > (2 ^ 63 - 1) / 8 := by
    have : (sizeLine : Nat) ≤ (2 ^ 63 - 1) / 8 := by decide
    omega
  have hfit : ¬ (!Builtin.List.listFitsIndex k) = true := by
    rw [fitsIndex_both h1 h2]
    exact Bool.false_ne_true
  have hlong : ¬ Builtin.List.listTooLong (its.toArray.size * k.toNat) = true := by
    rw [notLongL hlen]
    exact Bool.false_ne_true
  have hnew : List.foldl (fun x1 x2 => x1 ++ x2) #[] (List.replicate (if its.toArray.isEmpty = true then 0 else k.toNat) its.toArray) = (List.replicate k.toNat its).flatten.toArray := by
    have f0 : ∀ m : Nat, List.foldl (fun x1 x2 => x1 ++ x2) #[] (List.replicate m its.toArray) = (List.replicate m its).flatten.toArray := fun m => by
      have := foldl_rep its m []
      rw [List.nil_append] at this
      exact this
    rw [f0]
    cases its with
    | nil => simp
    | cons a r' => rw [if_neg (by simp)]
  refine wpAny_binaryOp_repeat_ref (T := "list") (U := "int") (by decide) ⟨_, e, rfl⟩ (fun s' => typeIs_int s' k t) noFill_list_mul F.fills_int_mul F.slot_int_rmul repeat_list F.slot_int_index.lookup
    (call_meets F.slot_int_rmul (typeIs_int s k t) F.entry_int_rmul (F.args_int_rmul_2 _ _) (int___rmul___int_list k t l its.toArray n)
      ⟨e, rfl, ⟨_, e, rfl⟩, call_meets F.slot_list_mul ⟨_, e, rfl⟩ F.entry_list_mul (F.args_list_mul_2 _ _) (AutoListH.list___mul___list_int_3 l its.toArray n k t hfit hcap hlong) ⟨e, ?_⟩⟩)
  rw [hnew]
  exact ⟨.ref _, _, I.lnew (t' := s.toks) (r.rep k.toNat) (by rw [len_rep, Nat.mul_comm]; exact hz), rfl, q _ I.fresh⟩
end
end L2
namespace L2
open PySem PySem.Spec PyProof.Rows
theorem vals_of_ints : ∀ {us : List Value} {ns : List Int}, IntsAre us ns → Vals (ns.map V.int) us
  | _, _, .nil => by rw [List.map_nil]; exact Paired.nil
  | _, _, .cons n t h => by rw [List.map_cons]; exact Paired.cons (show RelV (V.int n) (Value.int n t) from ⟨t, rfl⟩) (vals_of_ints h)
theorem Vals.bls : ∀ {bs : List Bool} {us : List Value}, Vals (bs.map V.bl) us → us = bs.map Value.bool
  | [], us, h => by
    rw [List.map_nil] at h
    cases h
    rfl
  | b :: bs, us, h => by
    rw [List.map_cons] at h
    cases h with
    | cons r t =>
      cases r
      rw [Vals.bls t, List.map_cons]
theorem Vals.ref1 {a : Addr} {us : List Value} (r : Vals [V.ref a] us) : us = [Value.ref a] := by
  cases r with
  | cons r t =>
    cases t
    cases r
    rfl
theorem iter_any {prog : Program} {w : World} {A : Around} {E : Value → Shared → Prop} {s : Shared} {l : Addr} {items : Array Value} {Q : Value → Shared → Prop} (hl : s.heap.IsList l items)
    (h : ∀ s₂ : Shared, s₂ = { s with heap := s.heap.push { cls := .type "list_iterator", data := .fields #[.ref l, .int 0 0] } } →
      (s₂.heap.IsListIter s.heap.objs.size l 0 ∧ s₂.heap.IsList l items) → l ≠ s.heap.objs.size → Q (.ref s.heap.objs.size) s₂) : wpAny (model prog w) A (pyIter (.ref l)) Q E s := by
  have hlt : l < s.heap.objs.size := by obtain ⟨_, e, _⟩ := hl; exact Heap.lt_size e
  exact wpAny_pyIter_list hl (h _ rfl ⟨⟨_, Heap.get?_push_size _ rfl, rfl, rfl⟩, hl.push _⟩ (Nat.ne_of_lt hlt))
theorem truth_bools {prog : Program} {w : World} {A : Around} {bs : List Bool} {its : List Value} (e : its = bs.map Value.bool) :
    TruthOf prog w A (fun i v => its.toArray[i]? = some v) (fun i => bs.getD i false) := fun i v s Q E hv hq => by
  have hv' : its[i]? = some v := by simpa using hv
  rw [e, List.getElem?_map] at hv'
  obtain ⟨b, hb, rfl⟩ := Option.map_eq_some_iff.mp hv'
  have hg : bs.getD i false = b := by rw [List.getD_eq_getElem?_getD, hb] <;> rfl
  have hq' : Q (bs.getD i false) s := hq
  rw [hg] at hq'
  exact wpAny_truthy_bool hq'
theorem any_range : ∀ bs : List Bool, (List.range bs.length).any (fun i => bs.getD i false) = bs.any id
  | [] => rfl
  | b :: bs => by
    rw [List.length_cons, List.range_succ_eq_map, List.any_cons, List.any_map, List.any_cons, ← any_range bs]
    all_goals rfl
section
variable {X : Cx}
def rAny (K : PySem.W.Frag) : List V → Hp → VK → Prop := fun vs H Q => ∃ (a : Addr) (bs : List Bool), vs = [V.ref a] ∧ SqL K H a (bs.map V.bl) ∧ Q (.bl (bs.any id)) H
theorem cr_any (hc : X.calm = true) : CallR X (.builtin "any") (rAny X.K) := by
  intro pins s σ H vs us Q I r h
  obtain ⟨a, bs, rfl, hs, q⟩ := h
  obtain ⟨its, rv, hl, _⟩ := I.list hs
  rw [Vals.ref1 r]
  have hb := rv.bls
  refine call_any_walk (iter_any hl.isList fun s₂ e2 st hne => ?_)
  subst e2
  refine ⟨_, _, _, _, _, _, _, rfl, Walks.list (A := X.A.in1) (I.ok.hd hc) _ a hne its.toArray, st, truth_bools hb, fun h' tk hk => ?_⟩
  refine ⟨.bl _, H, I.kept fun b o eo => hk b o (fun hmem => ?_) (Heap.get?_push_of_some _ eo), ?_, q⟩
  · rcases List.mem_cons.mp hmem with e1 | hmem
    · exact absurd (e1 ▸ Heap.lt_size eo) (Nat.lt_irrefl _)
    · cases hmem
  · show Value.bool _ = Value.bool _
    rw [← any_range, hb, List.size_toArray, List.length_map]
end
end L2
namespace L2
open PySem PySem.Spec PyProof.Rows
abbrev CellAt (h : Heap) (c : Addr) (v : Option Value) : Prop := h.IsCell c v
def relS (scope sc : Scope) : Scope :=
  { scope with names := scope.names.map fun (n, k) => if (k == .free && sc.kind == .function && sc.names.lookup n == some .cell) then (n, .cell) else (n, k) }
def cloFrom (cells : List (Str × Addr)) : List (Str × NameKind) → List (Str × Addr) → List (Str × Addr)
  | [], acc => acc
  | (n, k) :: r, acc => if k == .free then cloFrom cells r ((n, (cells.lookup n).getD 0) :: acc) else cloFrom cells r acc
theorem closure_loop (env : Env) (f : Str × NameKind → List (Str × Addr) → Sem (ForInStep (List (Str × Addr))))
    (hf : ∀ n k c, f (n, k) c = if k == .free then (do let a ← cellOf env n; pure (.yield ((n, a) :: c))) else pure (.yield c)) :
    ∀ (names : List (Str × NameKind)) (acc : List (Str × Addr)), (∀ y ∈ names, y.2 = .free → ∃ c, env.cells.lookup y.1 = some c) → forIn names acc f = pure (cloFrom env.cells names acc)
  | [], acc, _ => by rw [List.forIn_nil]; rfl
  | (n, k) :: r, acc, h => by
    rw [List.forIn_cons, hf]
    have ih := fun acc => closure_loop env f hf r acc fun y hy => h y (List.mem_cons_of_mem _ hy)
    unfold cloFrom
    by_cases hk : (k == NameKind.free) = true
    · rw [if_pos hk, if_pos hk]
      obtain ⟨c, hc⟩ := h (n, k) List.mem_cons_self (by simpa using hk)
      have e : cellOf env n = pure c := by unfold cellOf; rw [hc]
      rw [e]
      have e2 : (env.cells.lookup n).getD 0 = c := by rw [hc]; rfl
      rw [e2]
      exact ih _
    · rw [if_neg hk, if_neg hk]
      exact ih _
theorem closure_ok {scope : Scope} {env : Env} (h : ∀ y ∈ scope.names, y.2 = .free → ∃ c, env.cells.lookup y.1 = some c) : closureFor scope env = pure (cloFrom env.cells scope.names []) := by
  simp only [closureFor]
  rw [closure_loop env _ (fun n k c => rfl) scope.names [] h]
  rfl
theorem mem_lookup {α : Type} : ∀ {l : List (Str × α)} {n : Str} {c : α}, (n, c) ∈ l → ∃ c', l.lookup n = some c'
  | (k, v) :: r, n, c, h => by
    rw [List.lookup_cons]
    cases hb : n == k with
    | true => exact ⟨_, rfl⟩
    | false =>
      rcases List.mem_cons.mp h with e | h
      · cases e; simp at hb
      · exact mem_lookup h
theorem cloFrom_mem {cells : List (Str × Addr)} : ∀ {names : List (Str × NameKind)} {acc : List (Str × Addr)} {n : Str} {c : Addr}, (n, c) ∈ cloFrom cells names acc → (n, c) ∈ acc ∨ ((n, .free) ∈ names ∧ c = (cells.lookup n).getD 0)
  | [], _, _, _, h => .inl h
  | (m, k) :: r, acc, n, c, h => by
    unfold cloFrom at h
    split at h
    · rename_i hk
      have hk : k = .free := by simpa using hk
      rcases cloFrom_mem h with h | ⟨h1, h2⟩
      · rcases List.mem_cons.mp h with e | h
        · cases e; exact .inr ⟨hk ▸ List.mem_cons_self, rfl⟩
        · exact .inl h
      · exact .inr ⟨List.mem_cons_of_mem _ h1, h2⟩
    · rcases cloFrom_mem h with h | ⟨h1, h2⟩
      · exact .inl h
      · exact .inr ⟨List.mem_cons_of_mem _ h1, h2⟩
theorem cloFrom_acc {cells : List (Str × Addr)} : ∀ {names : List (Str × NameKind)} {acc : List (Str × Addr)} {p : Str × Addr}, p ∈ acc → p ∈ cloFrom cells names acc
  | [], _, _, h => h
  | (m, k) :: r, acc, p, h => by
    unfold cloFrom
    split
    · exact cloFrom_acc (List.mem_cons_of_mem _ h)
    · exact cloFrom_acc h
theorem cloFrom_has {cells : List (Str × Addr)} : ∀ {names : List (Str × NameKind)} {acc : List (Str × Addr)} {n : Str}, (n, .free) ∈ names → (n, (cells.lookup n).getD 0) ∈ cloFrom cells names acc
  | (m, k) :: r, acc, n, h => by
    unfold cloFrom
    rcases List.mem_cons.mp h with e | h
    · cases e
      exact cloFrom_acc List.mem_cons_self
    · split
      · exact cloFrom_has h
      · exact cloFrom_has h
theorem cells_mem : ∀ {names : List (Str × NameKind)} {h : Heap} {acc : List (Str × Addr)} {x : Str} {c : Addr}, (x, c) ∈ cellsFrom h.objs.size names acc →
    (x, c) ∈ acc ∨ ((x, .cell) ∈ names ∧ h.objs.size ≤ c ∧ CellAt (pushCells h names) c none)
  | [], _, _, _, _, h => .inl h
  | (n, k) :: r, h, acc, x, c, hm => by
    unfold cellsFrom at hm
    unfold pushCells
    split at hm
    · rename_i hk
      rw [if_pos hk]
      have hk : k = .cell := by simpa using hk
      rw [← Heap.size_push h { cls := .type "cell", data := .cell none }] at hm
      rcases cells_mem hm with hm | ⟨h1, h2, h3⟩
      · rcases List.mem_cons.mp hm with e | hm
        · cases e
          exact .inr ⟨hk ▸ List.mem_cons_self, Nat.le_refl _, _, pushCells_keeps r _ _ _ (Heap.get?_push_size _ rfl), rfl⟩
        · exact .inl hm
      · rw [Heap.size_push] at h2
        exact .inr ⟨List.mem_cons_of_mem _ h1, Nat.le_of_succ_le h2, h3⟩
    · rename_i hk
      rw [if_neg hk]
      rcases cells_mem hm with hm | ⟨h1, h2, h3⟩
      · exact .inl hm
      · exact .inr ⟨List.mem_cons_of_mem _ h1, h2, h3⟩
theorem cells_acc : ∀ {names : List (Str × NameKind)} {n : Nat} {acc : List (Str × Addr)} {p : Str × Addr}, p ∈ acc → p ∈ cellsFrom n names acc
  | [], _, _, _, h => h
  | (m, k) :: r, n, acc, p, h => by
    unfold cellsFrom
    split
    · exact cells_acc (List.mem_cons_of_mem _ h)
    · exact cells_acc h
theorem cells_has : ∀ {names : List (Str × NameKind)} {n : Nat} {acc : List (Str × Addr)} {x : Str}, (x, .cell) ∈ names → ∃ c, (x, c) ∈ cellsFrom n names acc
  | (m, k) :: r, n, acc, x, h => by
    unfold cellsFrom
    rcases List.mem_cons.mp h with e | h
    · cases e
      exact ⟨n, cells_acc List.mem_cons_self⟩
    · split
      · exact cells_has h
      · exact cells_has h
theorem cells_inj : ∀ {names : List (Str × NameKind)} {h : Heap} {acc : List (Str × Addr)} {x y : Str} {c : Addr}, (∀ p ∈ acc, p.2 < h.objs.size) → (∀ x y c, (x, c) ∈ acc → (y, c) ∈ acc → x = y) →
    (x, c) ∈ cellsFrom h.objs.size names acc → (y, c) ∈ cellsFrom h.objs.size names acc → x = y
  | [], _, _, _, _, _, _, hi, h1, h2 => hi _ _ _ h1 h2
  | (n, k) :: r, h, acc, x, y, c, hl, hi, h1, h2 => by
    unfold cellsFrom at h1 h2
    split at h1
    · rename_i hk
      rw [if_pos hk] at h2
      rw [← Heap.size_push h { cls := .type "cell", data := .cell none }] at h1 h2
      refine cells_inj (h := h.push _) (fun p hp => ?_) (fun x y c a b => ?_) h1 h2
      · rw [Heap.size_push]
        rcases List.mem_cons.mp hp with rfl | hp
        · exact Nat.lt_succ_self _
        · exact Nat.lt_succ_of_lt (hl p hp)
      · rcases List.mem_cons.mp a with e | a <;> rcases List.mem_cons.mp b with e' | b
        · cases e; cases e'; rfl
        · cases e; exact absurd (hl _ b) (Nat.lt_irrefl _)
        · cases e'; exact absurd (hl _ a) (Nat.lt_irrefl _)
        · exact hi _ _ _ a b
    · rename_i hk
      rw [if_neg hk] at h2
      exact cells_inj hl hi h1 h2
theorem newEnv_comp {M : Model} {A : Around} {E : Value → Shared → Prop} {s : Shared} {scope : Scope} {globals : Addr} {closure : List (Str × Addr)} {qual : Str} {func : Option Addr} {code : Value} {around : Env} {builtins : Addr} {Q : Env → Shared → Prop}
    (h : Q (newEnv scope s.heap.objs.size globals (cellsFrom (s.heap.objs.size + 1) scope.names closure) qual func code (some around) builtins)
      { s with heap := pushCells (s.heap.push { cls := .type "dict", data := .dict #[] }) scope.names }) :
    wpAny M A (newFunctionEnv scope globals closure [] qual func code (some around) builtins) Q E s := by
  simp only [newFunctionEnv, Option.isSome_some, if_true]
  refine wpAny_bind (wpAny_alloc ?_)
  refine wpAny_bind (wpAny_layCells _ (fun n k c => rfl) scope.names closure _ _ ?_)
  rw [show ({ s with heap := s.heap.push { cls := .type "dict", data := .dict #[] } } : Shared).heap.objs.size = s.heap.objs.size + 1 from Heap.size_push ..]
  rw [List.forIn_nil]
  exact wpAny_bind (wpAny_pure (wpAny_pure h))
theorem lookup_relS {sc : Scope} : ∀ {names : List (Str × NameKind)} {x : Str} {k : NameKind},
    (names.map fun (n, k) => if (k == NameKind.free && sc.kind == .function && sc.names.lookup n == some .cell) then (n, NameKind.cell) else (n, k)).lookup x = some k →
    ∃ k', names.lookup x = some k' ∧ (k = k' ∨ (k' = .free ∧ k = .cell))
  | [], _, _, h => by simp at h
  | (n, k₀) :: r, x, k, h => by
    have ih := @lookup_relS sc r x k
    have h' : List.lookup x ((if (k₀ == NameKind.free && sc.kind == .function && sc.names.lookup n == some .cell) = true then (n, NameKind.cell) else (n, k₀)) :: (r.map _)) = some k := h
    cases hx : x == n with
    | true =>
      simp only [List.lookup_cons, hx]
      by_cases hc : (k₀ == NameKind.free && sc.kind == .function && sc.names.lookup n == some .cell) = true
      · rw [if_pos hc] at h'
        simp only [List.lookup_cons, hx] at h'
        cases h'
        simp only [Bool.and_eq_true, beq_iff_eq] at hc
        exact ⟨k₀, rfl, .inr ⟨hc.1.1, rfl⟩⟩
      · rw [if_neg hc] at h'
        simp only [List.lookup_cons, hx] at h'
        cases h'
        exact ⟨_, rfl, .inl rfl⟩
    | false =>
      simp only [List.lookup_cons, hx]
      by_cases hc : (k₀ == NameKind.free && sc.kind == .function && sc.names.lookup n == some .cell) = true
      · rw [if_pos hc] at h'
        simp only [List.lookup_cons, hx] at h'
        exact ih h'
      · rw [if_neg hc] at h'
        simp only [List.lookup_cons, hx] at h'
        exact ih h'
structure BlkOk (N : List Str) (sc scope : Scope) (own : List (Str × Nat)) : Prop where
  kind : scope.kind = .function
  uniq : ∀ y ∈ scope.names, scope.names.lookup y.1 = some y.2
  ix : ∀ p ∈ own, N[p.2]? = some p.1
  free : ∀ y ∈ scope.names, y.2 = .free → sc.names.lookup y.1 = some .cell ∨ sc.names.lookup y.1 = some .free
  own : ∀ y ∈ scope.names, y.2 = .local ∨ y.2 = .cell → y.1 ∈ own.map (·.1) ∨ y.1 ∉ N
def wipe (σ : St) : List Nat → St
  | [] => σ
  | v :: vs => (wipe σ vs).set v none
theorem wipe_length (σ : St) : ∀ vs : List Nat, (wipe σ vs).length = σ.length
  | [] => rfl
  | v :: vs => by unfold wipe; rw [List.length_set, wipe_length σ vs]
theorem wipe_some {σ : St} {i : Nat} {x : V} : ∀ {vs : List Nat}, (wipe σ vs)[i]? = some (some x) → σ[i]? = some (some x) ∧ i ∉ vs
  | [], h => ⟨h, by simp⟩
  | v :: vs, h => by
    unfold wipe at h
    by_cases hi : v = i
    · subst hi
      by_cases hv : v < (wipe σ vs).length
      · rw [List.getElem?_set_self hv] at h; cases h
      · rw [List.getElem?_eq_none (by simpa using hv)] at h; cases h
    · rw [List.getElem?_set_ne hi] at h
      obtain ⟨h1, h2⟩ := wipe_some h
      exact ⟨h1, by simp only [List.mem_cons, not_or]; exact ⟨fun e => hi e.symm, h2⟩⟩
abbrev Cx.blk (X : Cx) (s : Shared) (H : Hp) (scope : Scope) (cenv : Env) (fp : List Addr) : Cx := { X with s₀ := s, H₀ := H, env := cenv, outer := X.stack, ex := fp, fn := fun x => scope.names.lookup x == some .cell, pn := [], xe := fun _ _ => False }
section
variable {X : Cx} {pins : List (Addr × Obj)} {σ : St} {H : Hp} {s : Shared}
theorem block_start {scope : Scope} {own : List (Str × Nat)} {fp : List Addr} (I : Inv X pins σ H s) (ok : BlkOk X.N X.env.scope scope own) (hN : X.N.Nodup) (hfp : ∀ b ∈ fp, FpOk X pins H b ∧ b < s.heap.objs.size) :
    Inv (X.blk s H scope (compEnvC scope (cellsFrom (s.heap.objs.size + 1) scope.names (cloFrom X.env.cells scope.names [])) s.heap.objs.size X.env) fp) [] (wipe σ (own.map (·.2))) H { s with heap := pushCells (s.heap.push { cls := .type "dict", data := .dict #[] }) scope.names } := by
  have hfree : ∀ y ∈ scope.names, y.2 = .free → ∃ c, X.env.cells.lookup y.1 = some c := fun y hy e => by
    rcases ok.free y hy e with k | k
    · exact I.ok.has _ (.inl k)
    · exact I.ok.has _ (.inr k)
  generalize hcenv : compEnvC scope (cellsFrom (s.heap.objs.size + 1) scope.names (cloFrom X.env.cells scope.names [])) s.heap.objs.size X.env = cenv
  have kp : ∀ b o, s.heap.get? b = some o → (pushCells (s.heap.push { cls := .type "dict", data := .dict #[] }) scope.names).get? b = some o := fun b o e => pushCells_keeps _ _ _ _ (Heap.get?_push_of_some _ e)
  have hL : cenv.locals = s.heap.objs.size := by rw [← hcenv]; rfl
  have hcl : cenv.cells = cellsFrom (s.heap.objs.size + 1) scope.names (cloFrom X.env.cells scope.names []) := by rw [← hcenv]; rfl
  have hsc : cenv.scope = relS scope X.env.scope := by rw [← hcenv]; rfl
  rw [← Heap.size_push s.heap { cls := .type "dict", data := .dict #[] }] at hcl
  have cm : ∀ {y c}, (y, c) ∈ cloFrom X.env.cells scope.names [] → X.env.cells.lookup y = some c ∧ c < s.heap.objs.size := fun {y c} hm => by
    rcases cloFrom_mem hm with hm | ⟨h1, rfl⟩
    · cases hm
    · obtain ⟨c, hc⟩ := hfree _ h1 rfl
      rw [hc]
      obtain ⟨w, z⟩ := I.cell _ _ hc
      exact ⟨rfl, z.lt⟩
  have mem : ∀ {y c}, cenv.cells.lookup y = some c → (X.env.cells.lookup y = some c ∧ c < s.heap.objs.size) ∨ (s.heap.objs.size + 1 ≤ c ∧ CellAt (pushCells (s.heap.push { cls := .type "dict", data := .dict #[] }) scope.names) c none) := fun {y c} e => by
    rw [hcl] at e
    rcases cells_mem (PySem.mem_of_lookup e) with hm | ⟨_, h2, h3⟩
    · exact .inl (cm hm)
    · rw [Heap.size_push] at h2; exact .inr ⟨h2, h3⟩
  have look : ∀ {y}, scope.names.lookup y = some .free → ∃ c, cenv.cells.lookup y = some c ∧ X.env.cells.lookup y = some c := fun {y} hl => by
    have hy : (y, NameKind.free) ∈ scope.names := PySem.mem_of_lookup hl
    obtain ⟨c', e'⟩ := mem_lookup (cells_acc (names := scope.names) (n := (s.heap.push { cls := .type "dict", data := .dict #[] }).objs.size) (cloFrom_has (cells := X.env.cells) (acc := []) hy))
    rw [← hcl] at e'
    refine ⟨c', e', ?_⟩
    rw [hcl] at e'
    rcases cells_mem (PySem.mem_of_lookup e') with hm | ⟨h1, _, _⟩
    · exact (cm hm).1
    · have := ok.uniq _ h1
      rw [hl] at this; cases this
  have okB : (X.blk s H scope cenv fp).Ok := by
    refine ⟨I.ok.mod, by show cenv.scope.kind = _; rw [hsc]; exact ok.kind, by show cenv.globals = _; rw [← hcenv]; exact I.ok.glob, by show cenv.builtins = _; rw [← hcenv]; exact I.ok.blt, by show s.heap.objs.size ≤ cenv.locals; rw [hL]; exact Nat.le_refl _,
      fun y z c e1 e2 => ?_, fun y hy => ?_, fun y c z e => ?_, I.ok.hd, I.ok.frames, .inl rfl, fun b hb => ⟨?_, fun y c e z => ?_⟩, I.bs, Nat.le_trans I.ok.bsz I.sz, fun b o e hb => ?_, fun b hb z => ?_, I.stack, I.stkFree⟩
    · have e1 : cenv.cells.lookup y = some c := e1
      have e2 : cenv.cells.lookup z = some c := e2
      rw [hcl] at e1 e2
      refine cells_inj (fun p hp => ?_) (fun y z c a b => I.ok.inj y z c (cm a).1 (cm b).1) (PySem.mem_of_lookup e1) (PySem.mem_of_lookup e2)
      rw [Heap.size_push]
      exact Nat.lt_succ_of_lt (cm (y := p.1) (c := p.2) hp).2
    · show ∃ c, cenv.cells.lookup y = some c
      have key : ∀ k, cenv.kindOf y = some k → (k = .cell ∨ k = .free) → ∃ c, cenv.cells.lookup y = some c := fun k hk hk' => by
        unfold Env.kindOf at hk
        rw [hsc] at hk
        obtain ⟨k', e, r⟩ := lookup_relS hk
        have : k' = .cell ∨ k' = .free := by
          rcases r with rfl | ⟨rfl, _⟩
          · exact hk'
          · exact .inr rfl
        rcases this with rfl | rfl
        · obtain ⟨c, hm⟩ := cells_has (n := (s.heap.push { cls := .type "dict", data := .dict #[] }).objs.size) (acc := cloFrom X.env.cells scope.names []) (PySem.mem_of_lookup e)
          obtain ⟨c', e'⟩ := mem_lookup hm
          exact ⟨c', by rw [hcl]; exact e'⟩
        · obtain ⟨c, h1, _⟩ := look e
          exact ⟨c, h1⟩
      rcases hy with hy | hy
      · exact key _ hy (.inl rfl)
      · exact key _ hy (.inr rfl)
    · have z : (scope.names.lookup y == some NameKind.cell) = true := z
      have z : scope.names.lookup y = some .cell := by simpa using z
      have e : cenv.cells.lookup y = some c := e
      rw [hcl] at e
      rcases cells_mem (PySem.mem_of_lookup e) with hm | ⟨_, h2, _⟩
      · rcases cloFrom_mem hm with hm | ⟨h1, _⟩
        · cases hm
        · have q := ok.uniq _ h1
          rw [z] at q; cases q
      · rw [Heap.size_push] at h2
        exact Nat.le_of_succ_le h2
    · show b ≠ cenv.locals
      rw [hL]; exact Nat.ne_of_lt (hfp b hb).2
    · have e : cenv.cells.lookup y = some c := e
      rcases mem e with ⟨h1, _⟩ | ⟨h1, _⟩
      · exact (hfp b hb).1.2.2.2.2.1 y c h1 z
      · have h2 : s.heap.objs.size + 1 ≤ b := by rw [← z]; exact h1
        exact absurd (Nat.lt_of_lt_of_le (hfp b hb).2 (Nat.le_of_succ_le h2)) (Nat.lt_irrefl _)
    · rcases (hfp b hb).1.2.2.2.1 with z | z
      · exact I.ok.noex b o e z
      · exact absurd (Nat.lt_of_lt_of_le (Heap.lt_size e) (Nat.le_trans I.ok.bsz z)) (Nat.lt_irrefl _)
    · rcases List.mem_cons.mp (I.stkSub b z) with z | z
      · exact (hfp b hb).1.2.1 z
      · exact (hfp b hb).1.2.2.1 z
  refine ⟨okB, rfl, I.bare, Un.kept kp, ⟨fun _ => none, ?_, fun i y av e1 e2 e3 => ?_⟩, fun y c e => ?_, ?_, fun y c e => ?_, fun p hp => ?_, I.hok.kept kp, by rw [wipe_length]; exact I.len⟩
  · show Heap.Ns _ cenv.locals _
    rw [hL]
    exact Heap.Ns.keeps (Heap.Ns.new ..) fun b o e => pushCells_keeps _ _ _ _ e
  · obtain ⟨e2, hne⟩ := wipe_some e2
    have hfr : scope.names.lookup y = some .free ∧ (cenv.kindOf y = some .cell ∨ cenv.kindOf y = some .free) := by
      have key : ∀ k, cenv.scope.names.lookup y = some k → k = .local ∨ k = .cell ∨ k = .free → scope.names.lookup y = some .free ∧ (cenv.kindOf y = some .cell ∨ cenv.kindOf y = some .free) := fun k hk hk' => by
        have hk0 := hk
        rw [hsc] at hk
        obtain ⟨k', e, r⟩ := lookup_relS hk
        have no : ¬ (k' = .local ∨ k' = .cell) := fun hh => by
          rcases ok.own _ (PySem.mem_of_lookup e) hh with e' | e'
          · obtain ⟨p, hp, hpy⟩ := List.mem_map.mp e'
            have e3 := ok.ix p hp
            have : p.1 = y := hpy
            rw [this] at e3
            exact hne (List.mem_map.mpr ⟨p, hp, nodup_ix hN e3 e1⟩)
          · exact e' (List.mem_of_getElem? e1)
        rcases r with rfl | ⟨rfl, rfl⟩
        · rcases hk' with rfl | rfl | rfl
          · exact absurd (.inl rfl) no
          · exact absurd (.inr rfl) no
          · exact ⟨e, .inr hk0⟩
        · exact ⟨e, .inl hk0⟩
      have e3 : Vis cenv.scope y := e3
      rcases e3 with e3 | e3 | e3
      · exact key _ e3 (.inl rfl)
      · exact key _ e3 (.inr (.inl rfl))
      · exact key _ e3 (.inr (.inr rfl))
    obtain ⟨m, hn, hl⟩ := I.loc
    have hvis : Vis X.env.scope y := (ok.free _ (PySem.mem_of_lookup hfr.1) rfl).elim (fun k => .inr (.inl k)) (fun k => .inr (.inr k))
    obtain ⟨w, r, q⟩ := hl i y av e1 e2 hvis
    refine ⟨w, r, .inr ⟨hfr.2, ?_⟩⟩
    obtain ⟨c, h1, h2⟩ := look hfr.1
    rcases q with ⟨k, _⟩ | ⟨_, c', e', z⟩
    · have k : X.env.scope.names.lookup y = some .local := k
      rcases ok.free _ (PySem.mem_of_lookup hfr.1) rfl with k' | k' <;> rw [show X.env.scope.names.lookup y = _ from k'] at k <;> cases k
    · rw [h2] at e'; cases e'
      exact ⟨c, h1, z.keeps kp⟩
  · have e : cenv.cells.lookup y = some c := e
    rcases mem e with ⟨h1, _⟩ | ⟨_, z⟩
    · obtain ⟨w, z⟩ := I.cell y c h1
      exact ⟨w, z.keeps kp⟩
    · exact ⟨_, z⟩
  · show H cenv.locals = none
    rw [hL]; exact I.hok.fresh (Nat.le_refl _)
  · have e : cenv.cells.lookup y = some c := e
    rcases mem e with ⟨h1, _⟩ | ⟨h1, _⟩
    · exact I.freeC y c h1
    · exact I.hok.fresh (Nat.le_of_succ_le h1)
  · exact absurd (show p ∈ ([] : List (Addr × Obj)) ++ [] from hp) (by simp)
theorem app_ok {E : Value → Shared → Prop} {D : Addr} {xs : List V} {y : V} {v : Value} {Q : Value → Shared → Prop} (I : Inv X pins σ H s) (hD : H D = some (.lst xs)) (hz : xs.length < sizeLine) (r : RelV y v)
    (h : ∀ s', Inv X pins σ (upd H D (.lst (xs ++ [y]))) s' → Q .none s') : wpAny (model X.prog X.w) X.A (call (.builtin "list.append") [.ref D, v]) Q E s := by
  obtain ⟨hz', its, n, ri, e⟩ := I.hok D _ hD
  have hl := ri.length
  refine append_at (hsz := by rw [List.size_toArray]; omega) e fun h' sb ho' => ?_
  refine h { s with heap := h' } (I.write (t' := s.toks) (by rw [hD]; trivial) (.inl rfl) (fun b u hb q => (sb.2 b hb).trans q) ⟨_, ho'⟩ ⟨by rw [List.length_append]; exact hz, its ++ [v], n + 1, ri.append (.cons r .nil), ?_⟩)
  rw [ho']
  simp
def PTs (X : Cx) (ifs : List Expr) (t : TT) : Prop :=
  ∀ (pins : List (Addr × Obj)) (s : Shared) (σ : St) (H : Hp) (Q : Bool → Hp → Prop), Inv X pins σ H s → t σ H Q →
    wpAny (model X.prog X.w) X.A (forIn ifs true fun c r => if r = true then do let ok ← isTrue c X.env (eval c X.env); pure (ForInStep.yield ok) else pure (ForInStep.yield r)) (TP X pins σ Q) X.xe s
def tYes : TT := fun _ H Q => Q true H
theorem pts_nil : PTs X [] tYes := fun _ _ _ H _ I h => wpAny_tests_nil ⟨H, I, h⟩
end
theorem thnF {α : Type} {t : Sem α} {Q Q' : α → Shared → Prop} {M : Model} {A : Around} {E : Value → Shared → Prop} {s : Shared} (h : wpAny M A t Q (fun _ _ => False) s) (hQ : ∀ a s, Q a s → Q' a s) : wpAny M A t Q' E s := wpAny_mono h hQ fun _ _ z => False.elim z
theorem compLoop_any {prog : Program} {w : World} {A : Around} {R : Result → Shared → Prop} {s : Shared} {elt target iter : Expr} {ifs : List Expr} {scope : Scope} {pos : Pos} {it acc : Value} {env : Env} (I : Nat → Shared → Prop)
    (turn : ∀ n s, I n s → wpAny (model prog w) A (pyNext it) (fun r s₁ => match r with
      | none => R (.ok .next) s₁
      | some v => wpAny (model prog w) A (letOwnedTupleGo target it v) (fun _ s₁' => wpAny (model prog w) A (assign target env v) (fun _ s₂ =>
          wpAny (model prog w) A (forIn ifs true fun c r => if r = true then do let ok ← isTrue c env (eval c env); pure (ForInStep.yield ok) else pure (ForInStep.yield r)) (fun ok s₃ =>
            if ok = true then wpAny (model prog w) A (eval elt env) (fun x s₄ =>
              wpAny (model prog w) A (call (.builtin "list.append") [acc, x]) (fun _ s₅ => ∃ m, m < n ∧ I m s₅) (notedBy (model prog w) A env fun e s' => R (.error e) s') s₄) (notedBy (model prog w) A env fun e s' => R (.error e) s') s₃
            else ∃ m, m < n ∧ I m s₃) (notedBy (model prog w) A env fun e s' => R (.error e) s') s₂) (notedBy (model prog w) A env fun e s' => R (.error e) s') s₁') (notedBy (model prog w) A env fun e s' => R (.error e) s') s₁) (notedBy (model prog w) A env fun e s' => R (.error e) s') s)
    (n : Nat) (h : I n s) :
    codeAny (model prog w) A (.compLoop (.ListComp elt [⟨target, iter, ifs, 0⟩] scope pos) 0 it acc env) R s := by
  refine codeAny_loop rfl I (fun n s hI => ?_) n h
  show wpAny _ A ((compTurn (.ListComp elt [⟨target, iter, ifs, 0⟩] scope pos) 0 it acc env).onRaise (fun x => do noteFrame x env; theTreesLotGoes x)) _ _ s
  refine wpAny_noted ?_
  rw [compTurn_list]
  refine wpAny_bind (wpAny_standAt (wpAny_bind (wpAny_mono (turn n s hI) (fun r s₁ h₁ => ?_) fun _ _ h' => h')))
  cases r with
  | none => exact wpAny_pure h₁
  | some v =>
    refine wpAny_bind (wpAny_mono h₁ (fun _ s₁' h₁' => ?_) fun _ _ h' => h')
    refine wpAny_bind (wpAny_mono h₁' (fun _ s₂ h₂ => wpAny_bind (wpAny_mono h₂ (fun ok s₃ h₃ => ?_) fun _ _ h' => h')) fun _ _ h' => h')
    cases ok with
    | false => exact wpAny_pure ⟨rfl, h₃⟩
    | true =>
      exact wpAny_bind (wpAny_bind (wpAny_mono h₃ (fun x s₄ h₄ => wpAny_bind (wpAny_mono h₄ (fun _ s₅ h₅ => wpAny_pure (wpAny_pure ⟨rfl, h₅⟩)) fun _ _ h' => h')) fun _ _ h' => h'))
section
variable {X : Cx}
def tLc (wi : TI) (g : TG) (tt : TT) (te : TE) (vs : List Nat) : TE := fun σ H Q => wi σ H fun J H1 => ∀ D, H1 D = none → ∃ W : Nat → Nat → Hp → Prop, (∃ m, W 0 m (upd H1 D (.lst []))) ∧ ∀ i m H, W i m H →
  (J.stop i H ∧ Q (.ref D) H) ∨ (J.go i H ∧ ∃ Nx : Hp → Prop, (∀ H', Nx H' → ∃ m', m' < m ∧ W (i + 1) m' H') ∧ ∀ x H', J.yld i H x H' → g x (wipe σ vs) H' fun σ2 H2 => wipe σ2 vs = wipe σ vs ∧ tt σ2 H2 fun b H3 =>
    if b = true then te σ2 H3 fun y H4 => ∃ acc, H4 D = some (.lst acc) ∧ acc.length < sizeLine ∧ Nx (upd H4 D (.lst (acc ++ [y]))) else Nx H3)
theorem lc_core {pins : List (Addr × Obj)} {s : Shared} {σ : St} {H : Hp} {Q : VK} {elt tg iter : Expr} {ifs : List Expr} {scope : Scope} {own : List (Str × Nat)} {pos pos' : Pos} {wi : TI} {g : TG} {tt : TT} {te : TE} {use : Option (Value → Sem Unit)} {Qf : Value → Shared → Prop}
    (hc : X.calm = true) (hN : X.N.Nodup) (I : Inv X pins σ H s) (hi : PI X tg iter wi) (ok : BlkOk X.N X.env.scope scope own)
    (hg : ∀ (s : Shared) (H : Hp) (C : Addr) (cl : List (Str × Addr)) (fp : List Addr), PG (X.blk s H scope (compEnvC scope cl C X.env) fp) tg g) (ht : ∀ (s : Shared) (H : Hp) (C : Addr) (cl : List (Str × Addr)) (fp : List Addr), PTs (X.blk s H scope (compEnvC scope cl C X.env) fp) ifs tt)
    (he : ∀ (s : Shared) (H : Hp) (C : Addr) (cl : List (Str × Addr)) (fp : List Addr), PE (X.blk s H scope (compEnvC scope cl C X.env) fp) elt te) (hs : ∀ x, foldedSetIterable iter X.env x = pure x)
    (h : tLc wi g tt te (own.map (·.2)) σ H Q)
    (hRR : ∀ D C s' m H', Inv X pins σ H' s' → Q (.ref D) H' → s'.heap.Ns C m → FpOk X pins H' C → compPost (model X.prog X.w) X.A X.xe use Qf (.ref D) C (.ok .next) s') :
    wpAny (model X.prog X.w) X.A (comprehension (.ListComp elt [⟨tg, iter, ifs, 0⟩] scope pos) scope X.env pos' (newList []) false (eval iter X.env) use) Qf X.xe s := by
  have hfree : ∀ y ∈ scope.names, y.2 = .free → ∃ c, X.env.cells.lookup y.1 = some c := fun y hy e => by
    rcases ok.free y hy e with k | k
    · exact I.ok.has _ (.inl k)
    · exact I.ok.has _ (.inr k)
  refine wpAny_comprehension_free (use := use) rfl hs (closure_ok hfree) ok.kind (fun y hy e => by rw [ok.uniq y hy, e])
    (thn (hi pins s σ H _ I h) fun xv s1 hx => thn hx fun itv s2 h2 => ?_)
  obtain ⟨it, fp, tn, J, H2, e, I2, T, st2, f2, q⟩ := h2
  subst e
  refine wpAny_newObj_type (newEnv_comp ?_) (by show 0 ≤ sizeLine; decide)
  generalize hD : s2.heap.objs.size = D
  have hDn : H2 D = none := I2.hok.fresh (Nat.le_of_eq hD)
  obtain ⟨W, ⟨m0, w0⟩, turn⟩ := q D hDn
  generalize hs3 : ({ s2 with heap := s2.heap.push { cls := .type "list", data := .seq ([] : List Value).toArray } } : Shared) = s3
  have I3 : Inv X pins σ (upd H2 D (.lst [])) s3 := by
    rw [← hs3]
    refine I2.laid (t' := s2.toks) (fun b o e => Heap.get?_push_of_some _ e) (Nat.le_of_eq hD) ⟨Nat.zero_le _, [], 0, .nil, ?_⟩
    rw [← hD]
    exact Heap.get?_push_size _ rfl
  have h3 : s3.heap = s2.heap.push { cls := .type "list", data := .seq ([] : List Value).toArray } := by rw [← hs3]
  have sz : ∀ b ∈ fp, b < s2.heap.objs.size := fun b hb => by
    obtain ⟨o, e, _⟩ := T.obj _ _ st2 b hb
    exact Heap.lt_size e
  have f3 : ∀ b ∈ fp, FpOk X pins (upd H2 D (.lst [])) b ∧ b < s3.heap.objs.size := fun b hb => by
    have hlt := sz b hb
    refine ⟨⟨?_, (f2 b hb).2⟩, by rw [h3, Heap.size_push]; exact Nat.lt_succ_of_lt hlt⟩
    rw [upd_ne (by rw [← hD]; exact Nat.ne_of_lt hlt)]
    exact (f2 b hb).1
  have st3 : tn 0 s3.heap := T.keep _ _ _ st2 fun b _ o e => by rw [h3]; exact Heap.get?_push_of_some _ e
  have I4 := block_start I3 ok hN f3
  have pg := hg s3 (upd H2 D (.lst [])) s3.heap.objs.size (cellsFrom (s3.heap.objs.size + 1) scope.names (cloFrom X.env.cells scope.names [])) fp
  have pt := ht s3 (upd H2 D (.lst [])) s3.heap.objs.size (cellsFrom (s3.heap.objs.size + 1) scope.names (cloFrom X.env.cells scope.names [])) fp
  have pe := he s3 (upd H2 D (.lst [])) s3.heap.objs.size (cellsFrom (s3.heap.objs.size + 1) scope.names (cloFrom X.env.cells scope.names [])) fp
  show codeAny _ _ (.compStart (.ListComp elt [⟨tg, iter, ifs, 0⟩] scope pos) 0 (.ref it) (.ref D) (compEnvC scope (cellsFrom (s3.heap.objs.size + 1) scope.names (cloFrom X.env.cells scope.names [])) s3.heap.objs.size X.env)) (compPost (model X.prog X.w) X.A X.xe use Qf (.ref D) s3.heap.objs.size) { s3 with heap := pushCells (s3.heap.push { cls := .type "dict", data := .dict #[] }) scope.names }
  have nfp : ∀ b ∈ fp, (upd H2 D (.lst [])) b = none := fun b hb => (f3 b hb).1.1
  generalize hce : compEnvC scope (cellsFrom (s3.heap.objs.size + 1) scope.names (cloFrom X.env.cells scope.names [])) s3.heap.objs.size X.env = ce at I4 pg pt pe ⊢
  have cL : ce.locals = s3.heap.objs.size := by subst hce; rfl
  generalize hH3 : upd H2 D (.lst []) = H3 at I3 I4 pg pt pe w0 nfp f3
  generalize hs4 : ({ s3 with heap := pushCells (s3.heap.push { cls := .type "dict", data := .dict #[] }) scope.names } : Shared) = s4 at I4 ⊢
  have st4 : tn 0 s4.heap := T.keep _ _ _ st3 fun b _ o e => by rw [← hs4]; exact pushCells_keeps _ _ _ _ (Heap.get?_push_of_some _ e)
  have stat : ∀ {σ' : St} {H' : Hp} {s' : Shared}, Inv (X.blk s3 H3 scope ce fp) [] σ' H' s' → (∀ b ∈ fp, H' b = none) → ∀ b ∈ fp, FpOk (X.blk s3 H3 scope ce fp) [] H' b := fun {σ' H' s'} I' hn b hb =>
    ⟨hn b hb, (I'.ok.exf b hb).1, I'.ok.exfs b hb, .inl hb, fun x c e => (I'.ok.exf b hb).2 x c e, fun p hp => absurd (show p ∈ ([] : List (Addr × Obj)) ++ [] from hp) (by simp)⟩
  have loop : codeAny (model X.prog X.w) X.A (.compLoop (.ListComp elt [⟨tg, iter, ifs, 0⟩] scope pos) 0 (.ref it) (.ref D) ce) (compPost (model X.prog X.w) X.A X.xe use Qf (.ref D) s3.heap.objs.size) s4 := by
    refine compLoop_any (fun n s' => ∃ i H', Inv (X.blk s3 H3 scope ce fp) [] (wipe σ (own.map (·.2))) H' s' ∧ tn i s'.heap ∧ (∀ b ∈ fp, H' b = none) ∧ W i n H') ?_ m0 ⟨0, H3, I4, st4, nfp, w0⟩
    rintro n s5 ⟨i, H5, I5, st5, n5, w5⟩
    rcases turn i n H5 w5 with ⟨stop, qq⟩ | ⟨go, Nx, hNx, step⟩
    · have td := T.done (X.blk s3 H3 scope ce fp) rfl rfl rfl hc i [] s5 _ H5 (fun _ _ => False) I5 (stat I5 n5) st5 stop
      refine thnF td fun r s6 ⟨hr, I6⟩ => ?_
      subst hr
      have I7 : Inv X pins σ H5 s6 := I3.call' (ch := fp) I6.os I6.base I6.hok I6.bare fun b hb => ⟨(f3 b hb).1.2.2.2.1, (f3 b hb).1.2.1, (f3 b hb).1.2.2.2.2.1, (f3 b hb).1.2.2.2.2.2⟩
      have nC : H5 s3.heap.objs.size = none := by
        have z : H5 ce.locals = none := I6.free
        rw [cL] at z
        exact z
      obtain ⟨m, hn, _⟩ := I6.loc
      have hn : s6.heap.Ns ce.locals m := hn
      rw [cL] at hn
      exact hRR D s3.heap.objs.size s6 m H5 I7 qq hn (I3.fpOk (Nat.le_refl _) nC)
    · have ti := T.item (X.blk s3 H3 scope ce fp) rfl rfl rfl hc i [] s5 _ H5 (fun _ _ => False) I5 (stat I5 n5) st5 go
      refine thnF ti fun r s6 ⟨u, hr, h6⟩ => ?_
      subst hr
      refine thnF h6 fun _ s7 ⟨x, H7, I7, r7, y7, st7, n7⟩ => ?_
      have I7' := I7.pinned (stat I7 n7) (T.obj _ _ st7)
      refine thnF (pg _ s7 _ H7 x u _ I7' r7 (step x H7 y7)) fun _ s8 ⟨σ8, H8, I8, hw8, q8⟩ => ?_
      refine thnF (pt _ s8 σ8 H8 _ I8 q8) fun b s9 ⟨H9, I9, q9⟩ => ?_
      have fin : ∀ {s' : Shared} {H' : Hp}, Inv (X.blk s3 H3 scope ce fp) ([] ++ pinsAt fp s7.heap) σ8 H' s' → Nx H' → ∃ m, m < n ∧ ∃ i H', Inv (X.blk s3 H3 scope ce fp) [] (wipe σ (own.map (·.2))) H' s' ∧ tn i s'.heap ∧ (∀ b ∈ fp, H' b = none) ∧ W i m H' := fun {s' H'} I' nx => by
        obtain ⟨m', hm, w'⟩ := hNx H' nx
        have pin' : ∀ b ∈ fp, ∀ o, s7.heap.get? b = some o → s'.heap.get? b = some o ∧ H' b = none := fun b hb o e =>
          let z := I'.pin (b, o) (List.mem_append_right _ (List.mem_append_right _ (mem_pinsAt hb e)))
          ⟨z.1, z.2.1⟩
        have hl : (wipe σ (own.map (·.2))).length = σ8.length := by rw [← hw8, wipe_length]
        refine ⟨m', hm, i + 1, H', (I'.unpinned (pins := [])).weak hl (fun j v e => ?_), T.keep _ _ _ st7 fun b hb o e => (pin' b hb o e).1, fun b hb => ?_, w'⟩
        · rw [← hw8] at e
          exact (wipe_some e).1
        · obtain ⟨o, e, _⟩ := T.obj _ _ st7 b hb
          exact (pin' b hb o e).2
      cases b with
      | false =>
        simp only [Bool.false_eq_true, if_false] at q9 ⊢
        exact fin I9 q9
      | true =>
        simp only [if_true] at q9 ⊢
        refine thnF (pe _ s9 σ8 H9 _ I9 q9) fun z s10 ⟨yv, H10, I10, r10, acc, hD10, hz10, nx⟩ => ?_
        exact app_ok (X := X.blk s3 H3 scope ce fp) I10 hD10 hz10 r10 fun s11 I11 => fin I11 nx
  exact codeAny_compStart_list loop (T.self X.A 0 _ _ _ st4 loop)
theorem pe_lc {elt tg iter : Expr} {ifs : List Expr} {scope : Scope} {own : List (Str × Nat)} {pos : Pos} {wi : TI} {g : TG} {tt : TT} {te : TE} (hc : X.calm = true) (hN : X.N.Nodup) (hi : PI X tg iter wi) (ok : BlkOk X.N X.env.scope scope own)
    (hg : ∀ (s : Shared) (H : Hp) (C : Addr) (cl : List (Str × Addr)) (fp : List Addr), PG (X.blk s H scope (compEnvC scope cl C X.env) fp) tg g) (ht : ∀ (s : Shared) (H : Hp) (C : Addr) (cl : List (Str × Addr)) (fp : List Addr), PTs (X.blk s H scope (compEnvC scope cl C X.env) fp) ifs tt)
    (he : ∀ (s : Shared) (H : Hp) (C : Addr) (cl : List (Str × Addr)) (fp : List Addr), PE (X.blk s H scope (compEnvC scope cl C X.env) fp) elt te) (hs : ∀ x, foldedSetIterable iter X.env x = pure x := by intro _; rfl) :
    PE X (.ListComp elt [⟨tg, iter, ifs, 0⟩] scope pos) (tLc wi g tt te (own.map (·.2))) := by
  intro pins s σ H Q I h
  rw [eval_ListComp]
  refine lc_core hc hN I hi ok hg ht he hs h fun D C s' m H' I' q hn f => ⟨m, hn, fun h'' sb => ?_⟩
  obtain ⟨f0, f1, f2, f3, f4, f5⟩ := f
  exact ⟨.ref D, H', I'.turned (t' := s'.toks) (fun b o hb e => (sb.2 b hb).trans e) f0 f1 f3 f4 f5, rfl, q⟩
end
theorem lc_tup {K : PySem.W.Frag} {a : Addr} {xs : List V} {g : TG} {tt : TT} {te : TE} {vs : List Nat} {σ : St} {H1 : Hp} {D : Addr} {Qd : Hp → Prop} (Pv : Nat → Hp → Prop) (h0 : Pv 0 (upd H1 D (.lst []))) (hl : ∀ i H, i ≤ xs.length → Pv i H → SqT K H a xs)
    (hs : ∀ i x H, xs[i]? = some x → Pv i H → g x (wipe σ vs) H fun σ2 H2 => wipe σ2 vs = wipe σ vs ∧ tt σ2 H2 fun b H3 =>
      if b = true then te σ2 H3 fun y H4 => ∃ acc, H4 D = some (.lst acc) ∧ acc.length < sizeLine ∧ Pv (i + 1) (upd H4 D (.lst (acc ++ [y]))) else Pv (i + 1) H3) (hd : ∀ H, Pv xs.length H → Qd H) :
    ∃ W : Nat → Nat → Hp → Prop, (∃ m, W 0 m (upd H1 D (.lst []))) ∧ ∀ i m H, W i m H →
      ((Itt K a).stop i H ∧ Qd H) ∨ ((Itt K a).go i H ∧ ∃ Nx : Hp → Prop, (∀ H', Nx H' → ∃ m', m' < m ∧ W (i + 1) m' H') ∧ ∀ x H', (Itt K a).yld i H x H' → g x (wipe σ vs) H' fun σ2 H2 => wipe σ2 vs = wipe σ vs ∧ tt σ2 H2 fun b H3 =>
        if b = true then te σ2 H3 fun y H4 => ∃ acc, H4 D = some (.lst acc) ∧ acc.length < sizeLine ∧ Nx (upd H4 D (.lst (acc ++ [y]))) else Nx H3) := by
  refine ⟨fun i m H => m = xs.length - i ∧ i ≤ xs.length ∧ Pv i H, ⟨xs.length, by simp, Nat.zero_le _, h0⟩, ?_⟩
  rintro i m H ⟨rfl, hi, p⟩
  have q := hl i H hi p
  by_cases hlt : i < xs.length
  · refine .inr ⟨⟨xs, xs[i], q, by simp [hlt]⟩, Pv (i + 1), fun H' p' => ⟨xs.length - (i + 1), by omega, rfl, hlt, p'⟩, fun x H' y => ?_⟩
    obtain ⟨e, y⟩ := y
    subst e
    exact hs i x _ (y xs q) p
  · have e : i = xs.length := by omega
    subst e
    exact .inl ⟨⟨xs, q, Nat.le_refl _⟩, hd H p⟩
def blkC (N : List Str) (sc scope : Scope) (own : List (Str × Nat)) : Bool :=
  (match scope.kind with | .function => true | _ => false) && (scope.names.all fun y => decide (scope.names.lookup y.1 = some y.2)) && (own.all fun p => decide (N[p.2]? = some p.1)) &&
    (scope.names.all fun y => match y.2 with
      | .free => (match sc.names.lookup y.1 with | some .cell => true | some .free => true | _ => false)
      | .local => decide (y.1 ∈ own.map (·.1)) || decide (y.1 ∉ N)
      | .cell => decide (y.1 ∈ own.map (·.1)) || decide (y.1 ∉ N)
      | _ => true)
theorem blkOk_by {N : List Str} {sc scope : Scope} {own : List (Str × Nat)} (h : blkC N sc scope own = true) : BlkOk N sc scope own := by
  unfold blkC at h
  simp only [Bool.and_eq_true, List.all_eq_true, decide_eq_true_eq] at h
  obtain ⟨⟨⟨h1, h2⟩, h3⟩, h4⟩ := h
  refine ⟨?_, h2, h3, fun y hy e => ?_, fun y hy e => ?_⟩
  · split at h1
    · assumption
    · cases h1
  · have q := h4 y hy
    simp only [e] at q
    split at q <;> first | exact .inl (by assumption) | exact .inr (by assumption) | cases q
  · have q := h4 y hy
    rcases e with e | e <;> (simp only [e, Bool.or_eq_true, decide_eq_true_eq] at q; exact q)
end L2
namespace L2
open PySem PySem.Spec PyProof.Rows
section
variable {κ : Type} [DecidableEq κ]
def valV (kvs : List (κ × V)) (k : κ) : Option V := (kvs.find? fun kv => decide (kv.1 = k)).map (·.2)
def putK (kvs : List (κ × V)) (k : κ) (v : V) : List (κ × V) :=
  if (kvs.any fun kv => decide (kv.1 = k)) = true then kvs.map (fun kv => if kv.1 = k then (kv.1, v) else kv) else kvs ++ [(k, v)]
theorem valV_pos {p : κ × V} {r : List (κ × V)} {k : κ} (e : p.1 = k) : valV (p :: r) k = some p.2 := by simp [valV, List.find?_cons, e]
theorem valV_neg {p : κ × V} {r : List (κ × V)} {k : κ} (e : ¬ p.1 = k) : valV (p :: r) k = valV r k := by simp [valV, List.find?_cons, e]
theorem valV_any (k : κ) : ∀ kvs : List (κ × V), (kvs.any fun kv => decide (kv.1 = k)) = (valV kvs k).isSome
  | [] => rfl
  | p :: r => by
    rw [List.any_cons]
    by_cases e : p.1 = k
    · simp only [valV_pos e, decide_eq_true e, Bool.true_or, Option.isSome_some]
    · rw [valV_neg e, decide_eq_false e, Bool.false_or]; exact valV_any k r
theorem length_putK (kvs : List (κ × V)) (k : κ) (v : V) : (putK kvs k v).length ≤ kvs.length + 1 := by
  unfold putK
  split
  · rw [List.length_map]; omega
  · rw [List.length_append, List.length_cons, List.length_nil]; omega
theorem putK_new {kvs : List (κ × V)} {k : κ} (v : V) (h : valV kvs k = none) : putK kvs k v = kvs ++ [(k, v)] := by
  unfold putK
  rw [valV_any, h]
  exact if_neg (by decide)
theorem RelO.isSome_eq {o : Option V} {u : Option Value} (r : RelO o u) : o.isSome = u.isSome := by
  cases o with
  | none => cases u with
    | none => rfl
    | some _ => exact (show False from r).elim
  | some _ => cases u with
    | none => exact (show False from r).elim
    | some _ => rfl
theorem RelO.getD {o : Option V} {u : Option Value} {d : V} {d' : Value} (r : RelO o u) (rd : RelV d d') : RelV (o.getD d) (u.getD d') := by
  cases o with
  | none => cases u with
    | none => exact rd
    | some _ => exact (show False from r).elim
  | some _ => cases u with
    | none => exact (show False from r).elim
    | some _ => exact r
theorem KV.val {kvs : List (κ × V)} {vs : List (κ × Value)} (r : KV kvs vs) (k : κ) : RelO (valV kvs k) (valueAt vs k) := by
  unfold KV at r
  induction r with
  | nil => exact True.intro
  | @cons p q ps qs h t ih =>
    obtain ⟨h1, h2⟩ := h
    by_cases e : p.1 = k
    · have e' : q.1 = k := h1.symm.trans e
      have b : valueAt (q :: qs) k = some q.2 := by simp [valueAt, List.find?_cons, e']
      rw [valV_pos e, b]; exact h2
    · have e' : ¬ q.1 = k := fun z => e (h1.trans z)
      have b : valueAt (q :: qs) k = valueAt qs k := by simp [valueAt, List.find?_cons, e']
      rw [valV_neg e, b]; exact ih
theorem KV.any {kvs : List (κ × V)} {vs : List (κ × Value)} (r : KV kvs vs) (k : κ) : (kvs.any fun kv => decide (kv.1 = k)) = vs.any fun kv => decide (kv.1 = k) := by
  unfold KV at r
  induction r with
  | nil => rfl
  | cons h t ih => rw [List.any_cons, List.any_cons, ih, h.1]
theorem KV.repl {kvs : List (κ × V)} {vs : List (κ × Value)} (r : KV kvs vs) (k : κ) {y : V} {u : Value} (ry : RelV y u) :
    KV (kvs.map fun kv => if kv.1 = k then (kv.1, y) else kv) (vs.map fun kv => if kv.1 = k then (kv.1, u) else kv) := by
  unfold KV at r ⊢
  induction r with
  | nil => exact .nil
  | @cons p q ps qs h t ih =>
    rw [List.map_cons, List.map_cons]
    refine .cons ?_ ih
    obtain ⟨h1, h2⟩ := h
    by_cases e : p.1 = k
    · rw [if_pos e, if_pos (h1.symm.trans e)]; exact ⟨h1, ry⟩
    · rw [if_neg e, if_neg (fun z => e (h1.trans z))]; exact ⟨h1, h2⟩
theorem KV.put {kvs : List (κ × V)} {vs : List (κ × Value)} (r : KV kvs vs) (k : κ) {y : V} {u : Value} (ry : RelV y u) : KV (putK kvs k y) (stored vs k u) := by
  unfold putK stored
  rw [r.any k]
  by_cases e : (vs.any fun kv => decide (kv.1 = k)) = true
  · rw [if_pos e, if_pos e]; exact r.repl k ry
  · rw [if_neg e, if_neg e]; exact Paired.snoc r ⟨rfl, ry⟩
theorem KV.length {kvs : List (κ × V)} {vs : List (κ × Value)} (r : KV kvs vs) : kvs.length = vs.length := Paired.length r
end
theorem kV_is {P : Program} {w : World} {k : Key} {u : Value} (r : RelV (kV k) u) : (mixKind P w).is k u = true := by
  cases k with
  | inl i => obtain ⟨t, e⟩ := (show ∃ t, u = Value.int i t from r); subst e; exact mixKind_int P w i t
  | inr x => obtain ⟨t, e⟩ := (show ∃ t, u = Value.str x t from r); subst e; exact mixKind_str P w x t
theorem items_are {P : Program} {w : World} : ∀ {ks : List Key} {us : List Value}, Vals (ks.map kV) us → ItemsAre (mixKind P w) ks us
  | [], _, r => by rw [List.map_nil] at r; cases r; exact .nil
  | k :: ks, _, r => by
    rw [List.map_cons] at r
    cases r with
    | cons h t => exact .cons (kV_is h) (items_are t)
abbrev KT (H : Hp) : List (List Key × V) → List (List Key × Addr × Value) → Prop := Paired fun p q => p.1 = q.1 ∧ H q.2.1 = some (.tup (p.1.map kV)) ∧ RelV p.2 q.2.2
theorem KT.val {H : Hp} {kvs : List (List Key × V)} {xs : List (List Key × Addr × Value)} (r : KT H kvs xs) (k : List Key) : RelO (valV kvs k) ((atKey xs k).map (·.2)) := by
  induction r with
  | nil => exact True.intro
  | @cons p q ps qs h t ih =>
    obtain ⟨h1, _, h2⟩ := h
    by_cases e : p.1 = k
    · have e' : q.1 = k := h1.symm.trans e
      have b : atKey (q :: qs) k = some q.2 := by simp [atKey, List.find?_cons, e']
      rw [valV_pos e, b]; exact h2
    · have e' : ¬ q.1 = k := fun z => e (h1.trans z)
      have b : atKey (q :: qs) k = atKey qs k := by simp [atKey, List.find?_cons, e']
      rw [valV_neg e, b]; exact ih
theorem KT.repl {H : Hp} {kvs : List (List Key × V)} {xs : List (List Key × Addr × Value)} (r : KT H kvs xs) (k : List Key) {y : V} {u : Value} (ry : RelV y u) :
    KT H (kvs.map fun kv => if kv.1 = k then (kv.1, y) else kv) (xs.map (putAt k u)) := by
  induction r with
  | nil => exact .nil
  | @cons p q ps qs h t ih =>
    rw [List.map_cons, List.map_cons]
    refine .cons ?_ ih
    obtain ⟨h1, h2, h3⟩ := h
    unfold putAt
    by_cases e : p.1 = k
    · rw [if_pos e, if_pos (h1.symm.trans e)]; exact ⟨h1, h2, ry⟩
    · rw [if_neg e, if_neg (fun z => e (h1.trans z))]; exact ⟨h1, h2, h3⟩
theorem KT.put {H : Hp} {kvs : List (List Key × V)} {xs : List (List Key × Addr × Value)} (r : KT H kvs xs) (k : List Key) {b : Addr} {y : V} {u : Value} (hb : H b = some (.tup (k.map kV))) (ry : RelV y u) :
    KT H (putK kvs k y) (storedH xs k b u) := by
  have e : (kvs.any fun kv => decide (kv.1 = k)) = (atKey xs k).isSome := by
    rw [valV_any, (r.val k).isSome_eq, Option.isSome_map]
  unfold putK storedH
  rw [e]
  by_cases q : (atKey xs k).isSome = true
  · rw [if_pos q, if_pos q]; exact r.repl k ry
  · rw [if_neg q, if_neg q]; exact Paired.snoc r ⟨rfl, hb, ry⟩
theorem KT.keeps {H H' : Hp} {kvs : List (List Key × V)} {xs : List (List Key × Addr × Value)} (r : KT H kvs xs) (ht : ∀ b ys, H b = some (.tup ys) → H' b = some (.tup ys)) : KT H' kvs xs :=
  Paired.mapP r fun _ _ z => ⟨z.1, ht _ _ z.2.1, z.2.2⟩
section
variable {P : Program} {w : World} {H : Hp} {h : Heap} {a : Addr}
theorem rd_of {u : HO} (ok : HOk P w H h) (e : Rd H a u) : ObjOk P w H h a u := e.ok ok
theorem dk_rd {kvs : List (Key × V)} (ok : HOk P w H h) (e : Rd H a (.dK kvs)) : kvs.length ≤ sizeLine ∧ (a == sysModules) = false ∧ ∃ vs, KV kvs vs ∧ h.DictOf (mixKind P w) a vs :=
  show ObjOk P w H h a (.dK kvs) from rd_of ok e
theorem dk_of {kvs : List (Key × V)} (ok : HOk P w H h) (e : H a = some (.dK kvs)) : kvs.length ≤ sizeLine ∧ (a == sysModules) = false ∧ ∃ vs, KV kvs vs ∧ h.DictOf (mixKind P w) a vs := dk_rd ok (.inl e)
theorem key_of {ks : List Key} (ok : HOk P w H h) (e : H a = some (.tup (ks.map kV))) : (tupleKind (mixKind P w)).is h ks a := by
  obtain ⟨_, its, r, o, h1, h2, n, h3⟩ := (show ObjOk P w H h a (.tup (ks.map kV)) from ok a _ e)
  exact ⟨o, its.toArray, n, h1, h2, h3, by simpa using items_are r⟩
theorem dt_rd {kvs : List (List Key × V)} (ok : HOk P w H h) (e : Rd H a (.dT kvs)) : kvs.length ≤ sizeLine ∧ (a == sysModules) = false ∧
    ∃ xs, KT H kvs xs ∧ h.DictOfH (tupleKind (mixKind P w)) a xs := by
  obtain ⟨z, y, xs, r, o, es, ep, h1, h2, h3, h4, h5⟩ := (show ObjOk P w H h a (.dT kvs) from rd_of ok e)
  refine ⟨z, y, xs, r, o, es, ep, h1, h2, h3, h4, fun x hx => ?_, h5⟩
  have all : ∀ {l : List (List Key × V)} {m : List (List Key × Addr × Value)}, KT H l m → ∀ x ∈ m, (tupleKind (mixKind P w)).is h x.1 x.2.1 := by
    intro l m q
    induction q with
    | nil => intro x hx; exact nomatch hx
    | @cons p q ps qs hq t ih =>
      intro x hx
      rcases List.mem_cons.mp hx with e | hx
      · subst e
        exact key_of ok (by rw [← hq.1]; exact hq.2.1)
      · exact ih x hx
  exact all r x hx
theorem dt_of {kvs : List (List Key × V)} (ok : HOk P w H h) (e : H a = some (.dT kvs)) : kvs.length ≤ sizeLine ∧ (a == sysModules) = false ∧
    ∃ xs, KT H kvs xs ∧ h.DictOfH (tupleKind (mixKind P w)) a xs := dt_rd ok (.inl e)
end
def DGet (H : Hp) (a : Addr) (y : V) (r : Option V) : Prop :=
  (∃ kvs k, Rd H a (.dK kvs) ∧ y = kV k ∧ r = valV kvs k) ∨ ∃ kvs k b, Rd H a (.dT kvs) ∧ y = .ref b ∧ H b = some (.tup (k.map kV)) ∧ r = valV kvs k
def DPut (H : Hp) (a : Addr) (y v : V) (H' : Hp) : Prop :=
  (∃ kvs k, H a = some (.dK kvs) ∧ y = kV k ∧ kvs.length < sizeLine ∧ H' = upd H a (.dK (putK kvs k v))) ∨
  ∃ kvs k b, H a = some (.dT kvs) ∧ y = .ref b ∧ H b = some (.tup (k.map kV)) ∧ kvs.length < sizeLine ∧ H' = upd H a (.dT (putK kvs k v))
theorem DGet.k {H : Hp} {a : Addr} {kvs : List (Key × V)} {k : Key} (e : H a = some (.dK kvs)) : DGet H a (kV k) (valV kvs k) := .inl ⟨kvs, k, .inl e, rfl, rfl⟩
theorem DPut.k {H : Hp} {a : Addr} {kvs : List (Key × V)} {k : Key} {v : V} (e : H a = some (.dK kvs)) (hl : kvs.length < sizeLine) : DPut H a (kV k) v (upd H a (.dK (putK kvs k v))) := .inl ⟨kvs, k, e, rfl, hl, rfl⟩
section
variable {X : Cx} {pins : List (Addr × Obj)} {σ : St} {H : Hp} {s : Shared} {a : Addr} {y v : V} {u r : Value} {o : Option V} {A : Around} {E : Value → Shared → Prop}
theorem Inv.big (I : Inv X pins σ H s) : sysModules < s.heap.objs.size := by
  have h : mainGlobals < s.heap.objs.size := (I.mod.glob.keeps I.bk).lt
  exact Nat.lt_trans (by decide) h
theorem d_write {h' : Heap} {t' : Nat} {ob : HO} (I : Inv X pins σ H s) (mu : Mut (H a)) (hs : Heap.SameBut a s.heap h') (he : ∃ q, h'.get? a = some q) (new : ObjOk X.prog X.w (upd H a ob) h' a ob) :
    Inv X pins σ (upd H a ob) { s with heap := h', toks := t' } :=
  I.write (x := a) (e := a) mu (.inl rfl) (fun b q hb z => (hs.2 b hb).trans z) he new
theorem dk_new {P : Program} {w : World} {H' : Hp} {h' : Heap} {kvs : List (Key × V)} {vs : List (Key × Value)} (z : kvs.length ≤ sizeLine) (hd : (a == sysModules) = false) (rel : KV kvs vs) (dd : h'.DictOf (mixKind P w) a vs) :
    ObjOk P w H' h' a (.dK kvs) := ⟨z, hd, vs, rel, dd⟩
theorem d_setItem {H' : Hp} {Q : Unit → Shared → Prop} (hu : A.units + 1 < cLine) (I : Inv X pins σ H s) (g : DPut H a y v H') (ry : RelV y u) (rv : RelV v r) (h : ∀ s', Inv X pins σ H' s' → Q () s') :
    wpAny (model X.prog X.w) A (setItem (.ref a) u r) Q E s := by
  rcases g with ⟨kvs, k, e, ey, l, eH⟩ | ⟨kvs, k, b, e, ey, eb, l, eH⟩
  · subst ey eH
    obtain ⟨z, hd, vs, rel, dd⟩ := dk_of I.hok e
    have hz : vs.length ≤ sizeLine := by rw [← rel.length]; exact z
    have hl : (putK kvs k v).length ≤ sizeLine := by have := length_putK kvs k v; omega
    refine wpAny_setItem_pairs (hsz := hz) (kV_is ry) dd fun h' dd' hs => h _ ?_
    have he : ∃ q, h'.get? a = some q := let ⟨q, _, _, hq, _⟩ := dd'; ⟨q, hq⟩
    exact d_write I (by rw [e]; exact True.intro) hs he (dk_new hl hd (rel.put k rv) dd')
  · subst ey eH
    cases (show u = Value.ref b from ry)
    obtain ⟨z, hd, xs, rel, dd⟩ := dt_of I.hok e
    have hz : xs.length ≤ sizeLine := by rw [← Paired.length rel]; exact z
    have hl : (putK kvs k v).length ≤ sizeLine := by have := length_putK kvs k v; omega
    refine wpAny_setItem_heap (hsz := hz) (tupleKind_room_in1 hu) (key_of I.hok eb) dd fun h' dd' hs => h _ ?_
    obtain ⟨q, es, ep, hq, h2, h3, h4, _, h5⟩ := dd'
    refine d_write I (by rw [e]; exact True.intro) hs ⟨q, hq⟩ ⟨hl, hd, _, (rel.put k eb rv).keeps fun c ys ec => ?_, q, es, ep, hq, h2, h3, h4, h5⟩
    rw [upd_ne (ne_of ec e (fun z => nomatch z))]
    exact ec
end
def NoSl (i : Expr) : Prop := ∀ ov iv, subscripted i false ov iv = operate [ov, iv] (getItem ov iv)
theorem subD_of {prog : Program} {w : World} {A : Around} {E : Value → Shared → Prop} {s : Shared} {env : Env} {value slice : Expr} {pos : Pos} {T id : String} {Q : Value → Shared → Prop}
    (hl : typeLookup (.type T) "__getitem__" = pure (some (.builtin id))) (hs : NoSl slice)
    (h : wpAny (model prog w) A (eval value env) (fun o s₁ => wpAny (model prog w) A (eval slice env) (fun i s₂ => s₂.TypeIs o T ∧ wpAny (model prog w) A (getItem o i) Q E s₂) E s₁) E s) :
    wpAny (model prog w) A (eval (.Subscript value slice pos) env) Q E s := by
  refine Subscript_ (wpAny_mono h (fun o s₁ h₁ => wpAny_mono h₁ (fun i s₂ h₂ => ?_) fun _ _ x => x) fun _ _ x => x)
  obtain ⟨hT, h₂⟩ := h₂
  unfold subscriptTail
  refine wpAny_bind ?_
  rw [getitemInPython_of_ne hT.not_modules]
  refine wpAny_bind (wpAny_specialOf hT hl ?_)
  have fin : wpAny (model prog w) A (subscripted slice false o i) (fun r s₃ => wpAny (model prog w) A (letTemporaryGo value o r >>= fun _ => pure r) Q E s₃) E s₂ := by
    rw [hs o i]
    exact wpAny_operating (wpAny_mono h₂ (fun r s₃ h₃ => wpAny_bind (wpAny_letTemporaryGo (wpAny_pure h₃))) fun _ _ x => x)
  first
    | exact wpAny_pure (wpAny_bind fin)
    | exact wpAny_bind (wpAny_pure (wpAny_bind fin))
    | exact wpAny_bind fin
def sDPut (td ty tv : TE) : TS := fun D σ H => tv σ H fun v H1 => td σ H1 fun x H2 => ty σ H2 fun y H3 => ∃ a H4, x = .ref a ∧ DPut H3 a y v H4 ∧ D.nx σ H4
section
variable {X : Cx} {o i e value : Expr} {pos pos' tpos : Pos} {td ty tv : TE}
theorem ps_dput (hu : X.A.units + 1 < cLine) (ho : PE X o td) (hi : PE X i ty) (hv : PE X value tv) (hs : swapsWith value (some (.Subscript o i pos')) pos.line X.env = pure false) :
    PS X (.Assign [.Subscript o i pos'] value pos) (sDPut td ty tv) := by
  intro pins s σ H D I h
  refine wpAny_Assign_Subscript (thn (hv pins s σ H _ I h) fun r s1 ⟨v, H1, I1, rv, q1⟩ => thn (ho pins s1 σ H1 _ I1 q1) fun u s2 ⟨x, H2, I2, rx, q2⟩ => thn (hi pins s2 σ H2 _ I2 q2) fun iv s3 ⟨y, H3, I3, ry, a, H4, ex, g, q3⟩ => ?_) hs
  subst ex
  obtain rfl : u = Value.ref a := rx
  exact d_setItem hu I3 g ry rv fun s4 I4 => ⟨σ, H4, I4, q3⟩
end
theorem dk_empty {P : Program} {w : World} {H : Hp} (h : Heap) (hb : sysModules < h.objs.size) : ObjOk P w H (h.push { cls := .type "dict", data := .dict #[] }) h.objs.size (.dK []) :=
  ⟨Nat.zero_le _, beq_eq_false_iff_ne.mpr (Ne.symm (Nat.ne_of_lt hb)), [], .nil, Heap.DictOf.new h⟩
def tDNewK : TE := fun _ H Q => ∀ p, H p = none → Q (.ref p) (upd H p (.dK []))
section
variable {X : Cx} {pos : Pos}
theorem pe_dnewK : PE X (.Dict [] [] pos) tDNewK := fun pins s σ H Q I h =>
  wpAny_Dict_empty ⟨.ref s.heap.objs.size, _, I.laid (a := s.heap.objs.size) (o := .dK []) (t' := s.toks) (fun _ _ q => Heap.get?_push_of_some _ q) (Nat.le_refl _) (dk_empty s.heap I.big), rfl, h _ (I.hok.fresh (Nat.le_refl _))⟩
end
structure M1 (X : Cx) (o : Expr) (m : Str) (apos : Pos) (e : Expr) (cpos : Pos) : Prop where
  base : attributeBase o m X.env (eval o X.env) = eval o X.env
  few : ((backTo cpos (starEach [e] X.env)).all (fun x => !x.1) && (backToKw cpos (keywordEach [] X.env)).all (fun x => x.1.isSome)
    && decide (([e] : List Expr).length + ([] : List Keyword).length + (if ([] : List Keyword).isEmpty then 0 else 1) < 30)) = true
  line : (apos.endLine == cpos.line) = true
  trees : backTo cpos (starEach [e] X.env) = [(false, eval e X.env)]
structure M2 (X : Cx) (o : Expr) (m : Str) (apos : Pos) (e f : Expr) (cpos : Pos) : Prop where
  base : attributeBase o m X.env (eval o X.env) = eval o X.env
  few : ((backTo cpos (starEach [e, f] X.env)).all (fun x => !x.1) && (backToKw cpos (keywordEach [] X.env)).all (fun x => x.1.isSome)
    && decide (([e, f] : List Expr).length + ([] : List Keyword).length + (if ([] : List Keyword).isEmpty then 0 else 1) < 30)) = true
  line : (apos.endLine == cpos.line) = true
  trees : backTo cpos (starEach [e, f] X.env) = [(false, eval e X.env), (false, eval f X.env)]
def IsD (H : Hp) (a : Addr) : Prop := (∃ kvs, Rd H a (.dK kvs)) ∨ ∃ kvs, Rd H a (.dT kvs)
theorem isD_at {X : Cx} {pins : List (Addr × Obj)} {σ : St} {H : Hp} {s : Shared} {a : Addr} (I : Inv X pins σ H s) (d : IsD H a) :
    s.TypeIs (.ref a) "dict" ∧ (∀ b, Value.ref a = .ref b → ∃ ob, s.heap.get? b = some ob ∧ ob.dict = none) ∧ (a == sysModules) = false := by
  rcases d with ⟨kvs, e⟩ | ⟨kvs, e⟩
  · obtain ⟨_, hd, vs, _, dd⟩ := dk_rd I.hok e
    refine ⟨dd.typeIs, fun b q => ?_, hd⟩
    cases q
    obtain ⟨ob, _, _, h1, h2, _⟩ := dd
    exact ⟨ob, h1, h2.2.1⟩
  · obtain ⟨_, hd, xs, _, dd⟩ := dt_rd I.hok e
    refine ⟨dd.typeIs, fun b q => ?_, hd⟩
    cases q
    obtain ⟨ob, _, _, h1, h2, _⟩ := dd
    exact ⟨ob, h1, h2.2.1⟩
section
variable {X : Cx} {pins : List (Addr × Obj)} {σ : St} {H : Hp} {s : Shared} {a : Addr} {y d : V} {u r : Value} {o : Option V} {A : Around} {E : Value → Shared → Prop}
theorem d_get1 {Q : Value → Shared → Prop} (hu : A.units + 1 < cLine) (I : Inv X pins σ H s) (g : DGet H a y o) (ry : RelV y u) (h : ∀ w' s', Inv X pins σ H s' → RelV (o.getD .non) w' → Q w' s') :
    wpAny (model X.prog X.w) A (call (.builtin "dict.get") [.ref a, u]) Q E s := by
  rcases g with ⟨kvs, k, e, ey, l⟩ | ⟨kvs, k, b, e, ey, eb, l⟩
  · subst ey
    obtain ⟨z, hd, vs, rel, dd⟩ := dk_rd I.hok e
    refine call_meetsIn PySem.F.slot_dict_get dd.typeIs PySem.F.entry_dict_get (PySem.F.args_dict_get_2 _ _) (meets_dict_get (mixKind X.prog X.w) a (kV_is ry) hd) ⟨_, dd.mapOf, h _ _ (I.tok _) ?_⟩
    rw [l]
    exact (rel.val k).getD rfl
  · subst ey
    cases (show u = Value.ref b from ry)
    obtain ⟨z, hd, xs, rel, dd⟩ := dt_rd I.hok e
    refine call_meetsIn PySem.F.slot_dict_get dd.typeIs PySem.F.entry_dict_get (PySem.F.args_dict_get_2 _ _) (meetsH_dict_get (tupleKind (mixKind X.prog X.w)) a b hd) ⟨tupleKind_room_in1 hu, k, xs, key_of I.hok eb, dd, h _ _ (I.tok _) ?_⟩
    rw [l]
    exact (rel.val k).getD rfl
end
def tDGet1 (td ty : TE) : TE := fun σ H Q => td σ H fun x H1 => ∃ a, x = .ref a ∧ IsD H1 a ∧ ty σ H1 fun y H2 => ∃ o, DGet H2 a y o ∧ Q (o.getD .non) H2
section
variable {X : Cx} {o e f : Expr} {apos cpos : Pos} {td ty tx : TE}
theorem pe_dget1 (hu : X.A.units + 1 < cLine) (ho : PE X o td) (he : PE X e ty) (m : M1 X o "get" apos e cpos) : PE X (.Call (.Attribute o "get" apos) [e] [] cpos) (tDGet1 td ty) := by
  intro pins s σ H Q I h
  refine wpAny_Call_method m.base m.few m.line PySem.F.plainAttrs_dict PySem.F.slot_dict_get PySem.F.type_dict_get (thn (ho pins s σ H _ I h) fun u s1 ⟨x, H1, I1, rx, a, ex, d, q1⟩ => ?_)
  subst ex
  obtain rfl : u = Value.ref a := rx
  obtain ⟨t1, t2, _⟩ := isD_at I1 d
  refine ⟨t1, t2, ?_⟩
  rw [m.trees]
  refine Calls.callWith_builtin rfl (Calls.evalArgs_plain (Calls.spliced_cons (thn (he pins s1 σ H1 _ I1 q1) fun iv s2 ⟨y, H2, I2, ry, ov, g, q2⟩ => Calls.spliced_nil ?_)))
  exact d_get1 hu I2 g ry fun w' s3 I3 rw' => ⟨_, H2, I3, rw', q2⟩
end
end L2
section
namespace TL
open PySem PySem.Builtin PySem.Builtin.Str PySem.StrLaws
abbrev tl (x : Str) : List Nat := x.cps.toList
def pre (S l : List Nat) : Bool := l.take S.length == S
def par (S : List Nat) : List Nat → List Nat → Option (List Nat × List Nat)
  | _, [] => none
  | acc, c :: r => if pre S (c :: r) = true then some (acc, (c :: r).drop S.length) else par S (acc ++ [c]) r
theorem join_eq (y : Str) (parts : List Str) : Txt.join y parts = Str.join y parts := glued_eq_join y parts
end TL
end
namespace Att
open PySem PySem.W PySem.Calls PyProof.Rows
theorem ints_of_wellAll {P : Params} {h : Heap} : ∀ (ns : List Int) (vs : List Value), WellAll P h vs (ns.map WData.int) → IntsAre vs ns := by
  intro ns
  induction ns with
  | nil =>
    intro vs w
    rw [List.map_nil] at w
    cases w
    exact .nil
  | cons n ns ih =>
    intro vs w
    rw [List.map_cons] at w
    cases w with
    | cons a b =>
      cases a
      exact .cons _ _ (ih _ b)
end Att
namespace L2
open PySem PySem.Spec PyProof.Rows
theorem vals_ints : ∀ {vs : List Value} {ns : List Int}, IntsAre vs ns → Vals (ns.map V.int) vs
  | _, _, .nil => .nil
  | _, _, .cons n t h => .cons ⟨t, rfl⟩ (vals_ints h)
def Only (H : Hp) : Prop := ∀ b, H b = none ∨ ∃ o xs, H b = some (.frz o (.lst xs))
end L2
namespace L2
open PySem PySem.Spec PyProof.Rows
abbrev CX0 : CXT := fun _ _ _ _ _ _ => False
abbrev E0 : XK := fun _ _ _ => False
section
variable {P : Program} {w : World} {K : PySem.W.Frag} {mg : Str → Option Value} {base : Heap}
theorem Fun.ok {x qual : Str} {st : Stmt} {f : Addr} {fd : FuncData} {N ps : List Str} {k : Nat} {sp : Sp} (F : Fun K x qual st f fd) (S : FnScope N ps (defScope st)) (len : ∀ vs H Q E, sp vs H Q E → vs.length = ps.length)
    (hbody : ∀ (cdv : Value) (A : Around) (outer : List Env) (s : Shared) (H : Hp) (vs : List V) (Q : VK) (E : XK), Room k (A.deeper (envOfC qual (defScope st) s.heap.objs.size f cdv)) → sp vs H Q E →
      ∃ t, PSs (cxOf CX0 P w K mg base N qual (defScope st) f cdv A outer s H E).nox (defBody st) t ∧ t { nx := fun _ H' => Q .non H', rt := Q } (start N vs) H) : FnOk P w K mg base CX0 (k + 1) f fd ps sp := by
  obtain ⟨oc, od, kV, doc, pm, an, cdv, ct, osl, rfl, lk, hcd⟩ := F.ex
  refine fn_of lk hcd S len fun A outer s H vs Q E hr hsp => ?_
  obtain ⟨t, h, q⟩ := hbody cdv A outer s H vs Q E hr hsp
  exact ⟨t, h.nox, q⟩
theorem Fun.binds {x qual : Str} {st : Stmt} {f : Addr} {fd : FuncData} {ps : List Str} (F : Fun K x qual st f fd)
    (h : ∀ (kV doc pm : Value) (an : Option Addr) (cdv ct : Value) (us : List Value), us.length = ps.length → bindArgs (PySem.W.fnOf x qual (defArgs st) (defBody st) (defScope st) .none kV doc pm an cdv ct) ⟨us, []⟩ = pure (ps.zip us)) : Binds K fd ps [] := by
  obtain ⟨oc, od, kV, doc, pm, an, cdv, ct, osl, rfl, lk, hcd⟩ := F.ex
  exact .all (h kV doc pm an cdv ct)
end
theorem hu_of {A : Around} {k : Nat} (hr : Room k A) : A.units + 1 < cLine := Nat.lt_of_le_of_lt (Nat.add_le_add_left (by decide : 1 ≤ 64) _) hr.units
theorem small1000 {n : Nat} (h : n ≤ 1000) : n < sizeLine := Nat.lt_of_le_of_lt h (by decide)
section
variable {X : Cx}
theorem pv (i : Nat) {x : Str} {pos : Pos} (hN : X.N[i]? = some x := by rfl) (hv : Vis X.env.scope x := by first | exact Or.inl rfl | exact Or.inr (Or.inl rfl) | exact Or.inr (Or.inr rfl)) (hd : (x == ("__debug__" : Str)) = false := by decide)
    (hcd : (x == ("__classdict__" : Str)) = false := by decide) : PE X (.Name x pos) (tVar i) := pe_var hN hv hd hcd
end
theorem iteF {A B : Prop} (h : B) : if false = true then A else B := by
  rw [if_neg Bool.false_ne_true]
  exact h
theorem iteT {A B : Prop} (h : A) : if true = true then A else B := by
  rw [if_pos rfl]
  exact h
section
variable {κ : Type} [DecidableEq κ]
theorem nd_snoc : ∀ {l : List κ} {k : κ}, l.Nodup → ¬ k ∈ l → (l ++ [k]).Nodup
  | [], k, _, _ => by simp
  | a :: r, k, h, hk => by
    obtain ⟨h1, h2⟩ := List.nodup_cons.mp h
    show (a :: (r ++ [k])).Nodup
    refine List.nodup_cons.mpr ⟨fun m => ?_, nd_snoc h2 fun m => hk (List.mem_cons.mpr (Or.inr m))⟩
    rcases List.mem_append.mp m with q | q
    · exact h1 q
    · exact hk (List.mem_cons.mpr (Or.inl (List.mem_singleton.mp q).symm))
end
theorem at_of {xs : List V} {z : Int} {j : Nat} {v : V} (e : z = (j : Int)) (h : xs[j]? = some v) : atI xs z = some v := by
  rw [e]
  exact atI_nat h
end L2
namespace L2
open PySem PySem.Spec PyProof.Rows
theorem ObjOk.thr {P : Program} {w : World} {H : Hp} {h : Heap} {a : Addr} {o : HO} (x : ObjOk P w H h a o) : ∃ u, h.get? a = some u := by
  cases o with
  | lst xs => exact let ⟨_, _, _, _, e⟩ := x; ⟨_, e⟩
  | tup xs => exact let ⟨_, _, _, o, e, _⟩ := x; ⟨o, e⟩
  | dK kvs => exact let ⟨_, _, _, _, o, _, _, e, _⟩ := x; ⟨o, e⟩
  | dT kvs => exact let ⟨_, _, _, _, o, _, _, e, _⟩ := x; ⟨o, e⟩
  | set S n => exact let ⟨o, _, _, _, e, _⟩ := x; ⟨o, e⟩
  | ins C dx fs => exact let ⟨_, _, _, e, _⟩ := x; ⟨_, e⟩
  | own y => exact x
  | xd fs => exact let ⟨_, ⟨o, _, _, e, _⟩, _⟩ := x; ⟨o, e⟩
  | rng lo hi => exact let ⟨_, _, _, e⟩ := x; ⟨_, e⟩
  | frz ob u => exact ⟨ob, x.1⟩
  | tbl ps => exact ⟨_, x⟩
  | met f y => exact ⟨_, x⟩
  | ext φ => exact x.2.1
structure Fly (P : Program) (w : World) (l : List Env) (H : Hp) (s : Shared) (H' : Hp) (B : Heap) (ea C t : Addr) (s' : Shared) : Prop where
  os : s'.os = s.os
  bare : AllBare s'.gens
  un : Un (frs l) [] H H' s.heap s'.heap
  hok : HOk P w H' s'.heap
  fl : Heap.FlyingW B l ea (.ref C) (.ref t) s'.heap
  old : ∀ b o, s.heap.get? b = some o → b ∉ frs l → ∃ o', B.get? b = some o'
  tr : ∀ b o, H' b = some o → ∃ o', B.get? b = some o'
def CXE (P : Program) (w : World) : CXT := fun outer H s E e s' => ∃ (ea C t : Addr) (H' : Hp) (B : Heap), e = .ref ea ∧ Fly P w outer H s H' B ea C t s' ∧ E (.ref C) none H'
theorem un_on {fs : List Addr} {H₀ H : Hp} {h₀ h h' B : Heap}
    (u : Un fs [] H₀ H h₀ h) (hB : B.StaysIn h') (hBk : B.StaysIn h) (old : ∀ b o, h₀.get? b = some o → b ∉ fs → ∃ o', B.get? b = some o')
    (hfr : ∀ b, b ∈ fs → ∃ o, h.get? b = some o ∧ ∀ vs, o.data ≠ .fields vs) (hsl : h.UpToSlots h') : Un fs [] H₀ H h₀ h' := by
  refine ⟨fun b o e n hb hx => ?_, fun b o e n hb hx => ?_, u.free, fun b o e hx => ?_, u.tups, u.frzs, u.tbls⟩
  · obtain ⟨o', q⟩ := old b o e hb
    have z := hBk b o' q
    rw [u.keep b o e n hb hx] at z
    cases z
    exact hB b o q
  · obtain ⟨sl, q⟩ := u.slot b o e n hb hx
    obtain ⟨oo, q1, q2⟩ := hfr b hb
    rw [q] at q1
    cases q1
    obtain ⟨sl', z⟩ := hsl b _ q q2
    exact ⟨sl', z⟩
  · by_cases hb : b ∈ fs
    · obtain ⟨oo, q1, q2⟩ := hfr b hb
      obtain ⟨sl', z⟩ := hsl b _ q1 q2
      exact ⟨_, z⟩
    · obtain ⟨o', q⟩ := old b o e hb
      exact ⟨o', hB b o' q⟩
theorem hok_on {P : Program} {w : World} {H : Hp} {h h' B : Heap} (hok : HOk P w H h) (hB : B.StaysIn h') (hBk : B.StaysIn h) (hT : ∀ b o, H b = some o → ∃ o', B.get? b = some o') : HOk P w H h' := fun a o e => by
  refine (hok a o e).stay (fun b v hb q => ?_) (fun _ q => q) fun _ _ q => q
  have hb' : ∃ o', B.get? b = some o' := by
    rcases hb with rfl | hb
    · exact hT _ _ e
    · exact hT _ _ hb
  obtain ⟨o', z⟩ := hb'
  have z2 := hBk b o' z
  rw [q] at z2
  cases z2
  exact hB b v z
section
variable {P : Program} {w : World} {l : List Env} {H H' : Hp} {s s' : Shared} {B : Heap} {ea C t : Addr}
theorem Fly.next {h'' : Heap} (F : Fly P w l H s H' B ea C t s') (hfl : Heap.FlyingW B l ea (.ref C) (.ref t) h'') (hup : s'.heap.UpToSlots h'') : Fly P w l H s H' B ea C t { s' with heap := h'' } :=
  ⟨F.os, F.bare, un_on F.un hfl.1 F.fl.1 F.old (fun b hb => (F.fl.2.2.1.mem hb).2) hup, hok_on F.hok hfl.1 F.fl.1 F.tr, hfl, F.old, F.tr⟩
theorem Fly.inv {X : Cx} {pins : List (Addr × Obj)} {σ : St} (I : Inv X pins σ H s) (F : Fly X.prog X.w X.stack H s H' B ea C t s') : Inv X pins σ H' s' :=
  I.call' (ch := []) F.os F.un F.hok F.bare fun _ z => nomatch z
end
section
variable {P : Program} {w : World} {K : PySem.W.Frag} {mg : Str → Option Value} {base : Heap} {N : List Str} {qual : Str} {scope : Scope} {f : Addr} {cd : Value} {A : Around} {outer : List Env} {s₀ : Shared} {H₀ : Hp} {E : XK}
abbrev cxE (P : Program) (w : World) (K : PySem.W.Frag) (mg : Str → Option Value) (base : Heap) (N : List Str) (qual : Str) (scope : Scope) (f : Addr) (cd : Value) (A : Around) (outer : List Env) (s₀ : Shared) (H₀ : Hp) (E : XK) : Cx := cxOf (CXE P w) P w K mg base N qual scope f cd A outer s₀ H₀ E
theorem frs_cons {b : Addr} (h : b ∈ frs (envOfC qual scope s₀.heap.objs.size f cd :: outer)) : b = s₀.heap.objs.size ∨ b ∈ frs outer := List.mem_cons.mp h
theorem old_on {H : Hp} {h B : Heap} (u : Un (frs outer) [] H₀ H s₀.heap h) (hB : ∀ b o, h.get? b = some o → b ∉ frs (envOfC qual scope s₀.heap.objs.size f cd :: outer) → ∃ o', B.get? b = some o') :
    ∀ b o, s₀.heap.get? b = some o → b ∉ frs outer → ∃ o', B.get? b = some o' := fun b o e n => by
  obtain ⟨o', q⟩ := u.there b o e (by simp)
  refine hB b o' q fun z => ?_
  rcases frs_cons z with z | z
  · exact absurd (Heap.lt_size e) (by rw [z]; exact Nat.lt_irrefl _)
  · exact n z
theorem raise_leaves {pins : List (Addr × Obj)} {σ : St} {H : Hp} {s : Shared} {C e : Addr} {h' : Heap} (I : Inv (cxE P w K mg base N qual scope f cd A outer s₀ H₀ E) pins σ H s)
    (hx : Heap.MadeExcOf s.heap h' e (.ref C) []) (hE : E (.ref C) none H) : (cxE P w K mg base N qual scope f cd A outer s₀ H₀ E).xe (.ref e) { s with heap := h' } := by
  have hstk : s.heap.FunFrames base (envOfC qual scope s₀.heap.objs.size f cd :: outer) := I.stack
  have hin : ∀ env ∈ (envOfC qual scope s₀.heap.objs.size f cd :: outer), ∀ b, env.frame = some b → b ∈ frs (envOfC qual scope s₀.heap.objs.size f cd :: outer) := fun env he b hb => List.mem_filterMap.mpr ⟨env, he, hb⟩
  have hBk : (PySem.W.hideAll s.heap (frs (envOfC qual scope s₀.heap.objs.size f cd :: outer))).StaysIn s.heap := fun b o q => PySem.W.of_hideAll _ q
  have hT : ∀ b o, H b = some o → ∃ o', (PySem.W.hideAll s.heap (frs (envOfC qual scope s₀.heap.objs.size f cd :: outer))).get? b = some o' := fun b o q => by
    obtain ⟨v, hv⟩ := (I.hok b o q).thr
    refine ⟨v, PySem.W.hideAll_get _ hv fun hb => ?_⟩
    have z : H b = none := I.stkFree b hb
    rw [q] at z; cases z
  show wpAny _ _ (leaving _ _) _ _ _
  refine wpAny_leaves_madeW (base := PySem.W.hideAll s.heap (frs (envOfC qual scope s₀.heap.objs.size f cd :: outer))) (h := s.heap) (L := s₀.heap.objs.size) I.ok.frames rfl hBk (PySem.W.funFrames_hide hstk hin) hx fun h'' t hfl _ _ hup => ?_
  have hsl : s.heap.UpToSlots h'' := (Heap.UpToSlots.of_keeps hx.keeps).trans hup
  have old := old_on (qual := qual) (scope := scope) (f := f) (cd := cd) I.base fun b o q n => ⟨o, PySem.W.hideAll_get _ q n⟩
  exact ⟨e, C, t, H, _, rfl, ⟨I.os, I.bare, un_on I.base hfl.1 hBk old (fun b hb => (I.funs.mem hb).2) hsl, hok_on I.hok hfl.1 hBk hT, hfl, old, hT⟩, hE⟩
theorem passE : Passes (CXE P w) (cxE P w K mg base N qual scope f cd A outer s₀ H₀ E) E := by
  intro pins σ H s e s' I h
  obtain ⟨ea, C, t, H', B, rfl, F, hE⟩ := h
  have I' := F.inv I
  show wpAny _ _ (leaving _ _) _ _ _
  refine wpAny_leaves_onW (L := s₀.heap.objs.size) I.ok.frames rfl F.fl fun h'' hfl hup => ?_
  have old := old_on (qual := qual) (scope := scope) (f := f) (cd := cd) I.base F.old
  exact ⟨ea, C, t, H', B, rfl, ⟨I'.os, F.bare, un_on I'.base hfl.1 F.fl.1 old (fun b hb => (I'.funs.mem hb).2) hup, hok_on F.hok hfl.1 F.fl.1 F.tr, hfl, old, F.tr⟩, hE⟩
theorem own_cls {h₀ : Heap} {x : Str} {C : Addr} {bmB : List Value} {newId : String} (kin : K.In h₀) (gl : h₀.Ns mainGlobals mg) (at_ : PySem.W.nsIn K mainGlobals x = some (some (.ref C))) (ex : PySem.W.excIn K C bmB newId = true) : OwnCls x C bmB newId mg h₀ := by
  refine ⟨PySem.W.mg_of kin gl at_, ?_⟩
  unfold PySem.W.excIn at ex
  split at ex
  · rename_i dd cdat slts hlk
    split at ex
    · rename_i C2 tl a0 a1 a2 a3 nid a5 hmro hslt
      simp only [Bool.and_eq_true, beq_iff_eq, Bool.not_eq_true'] at ex
      obtain ⟨⟨⟨⟨⟨e1, e2⟩, e3⟩, e4⟩, e5⟩, e6⟩ := ex
      subst e1 e2
      obtain ⟨nm, bs, mro, ns, qn, hd, sn, sub, ab, col, del⟩ := cdat
      dsimp only at hmro e3 e5 e6
      subst hmro e3
      have hs : slts = #[a0, a1, a2, a3, some (.builtin nid), a5] := by
        cases slts with
        | mk lst => exact congrArg Array.mk hslt
      subst hs
      exact ⟨tl, ns, nm, qn, bs, hd, sn, sub, ab, col, dd, a0, a1, a2, a3, a5, _, kin _ _ hlk, Heap.Ns.of_isNs (PySem.W.isNs_of_in kin e5), PySem.W.nsMap_none_of_in kin e5 e6, PySem.W.tail_of_in kin e4⟩
    · cases ex
  · cases ex
def tRaise (C : Addr) (E : XK) : TS := fun _ _ H => E (.ref C) none H
theorem ps_raise {x : Str} {C : Addr} {bm : List Value} {newId initId Bn : String} {np cpos pos : Pos} (FB : ExcBaseFacts Bn newId initId bm) (at_ : PySem.W.nsIn K mainGlobals x = some (some (.ref C))) (ex : PySem.W.excIn K C bm newId = true)
    (hg : Gl (cxE P w K mg base N qual scope f cd A outer s₀ H₀ E) x) (hd : (x == ("__debug__" : Str)) = false := by decide) :
    PS (cxE P w K mg base N qual scope f cd A outer s₀ H₀ E) (.Raise (some (.Call (.Name x np) [] [] cpos)) none pos) (tRaise C E) := by
  intro pins s σ H D I h
  have O := own_cls I.ok.mod.kin I.ok.mod.glob at_ ex
  obtain ⟨tl, Nn, nm, qn, bs, hdct, sn, sub, ab, col, dd, k0, k1, k2, k3, k5, mN, hC, hN, hni, T⟩ := O.obj
  refine wpAny_Raise_call_subT (C := C) (nm := nm) (q := qn) (N := Nn) (bs := bs) (bm := tl) (hdct := hdct) (sn := sn) (sub := sub) (ab := ab) (col := col) (dd := dd) (k0 := k0) (k1 := k1) (k2 := k2) (k3 := k3) (k5 := k5)
    FB (mN := mN) (T.hasType FB.hasBase) (I.ok.hd rfl) rfl hni (ld_glob I hg O.bound ⟨rfl, ?_⟩ hd)
  exact evalArgs_empty ⟨rfl, Nat.zero_le _, I.bk _ _ hC, hN.keeps I.bk, T.keeps I.bk, fun h' e hx => raise_leaves I hx h⟩
end
section
variable {P : Program} {w : World} {K : PySem.W.Frag} {mg : Str → Option Value} {base : Heap}
theorem Fun.okE {x qual : Str} {st : Stmt} {f : Addr} {fd : FuncData} {N ps : List Str} {k : Nat} {sp : Sp} (F : Fun K x qual st f fd) (S : FnScope N ps (defScope st)) (len : ∀ vs H Q E, sp vs H Q E → vs.length = ps.length)
    (hbody : ∀ (cdv : Value) (A : Around) (outer : List Env) (s : Shared) (H : Hp) (vs : List V) (Q : VK) (E : XK), Room k (A.deeper (envOfC qual (defScope st) s.heap.objs.size f cdv)) → sp vs H Q E →
      ∃ t, PSs (cxE P w K mg base N qual (defScope st) f cdv A outer s H E) (defBody st) t ∧ t { nx := fun _ H' => Q .non H', rt := Q } (start N vs) H) : FnOk P w K mg base (CXE P w) (k + 1) f fd ps sp := by
  obtain ⟨oc, od, kV, doc, pm, an, cdv, ct, osl, rfl, lk, hcd⟩ := F.ex
  exact fn_of lk hcd S len fun A outer s H vs Q E hr hsp => hbody cdv A outer s H vs Q E hr hsp
end
abbrev Cx.inSuite (X : Cx) (e : Value) : Cx := { X with A := X.A.mark (some e), calm := false, xe := fun _ _ => False }
section
variable {X : Cx}
theorem Inv.suite {pins : List (Addr × Obj)} {σ : St} {H : Hp} {s : Shared} (e : Value) (I : Inv X pins σ H s) : Inv (X.inSuite e) pins σ H s :=
  ⟨⟨I.ok.mod, I.ok.kind, I.ok.glob, I.ok.blt, I.ok.above, I.ok.inj, I.ok.has, I.ok.cab, (fun z => nomatch z), I.ok.frames, I.ok.stk, I.ok.exf, I.ok.bs, I.ok.bsz, I.ok.noex, I.ok.exfs, I.ok.funs, I.ok.frf⟩, I.os, I.bare, I.base, I.loc, I.cell, I.free, I.freeC, I.pin, I.hok, I.len⟩
theorem Inv.unsuite {pins : List (Addr × Obj)} {σ : St} {H : Hp} {s : Shared} {e : Value} (ok : X.Ok) (I : Inv (X.inSuite e) pins σ H s) : Inv X pins σ H s :=
  ⟨ok, I.os, I.bare, I.base, I.loc, I.cell, I.free, I.freeC, I.pin, I.hok, I.len⟩
theorem SP.unsuite {pins : List (Addr × Obj)} {D : Ends} {fl : Flow} {s' : Shared} {e : Value} (ok : X.Ok) (h : SP (X.inSuite e) pins D fl s') : SP X pins D fl s' := by
  cases fl with
  | next => obtain ⟨σ', H', I, q⟩ := h; exact ⟨σ', H', I.unsuite ok, q⟩
  | brk => obtain ⟨σ', H', I, q⟩ := h; exact ⟨σ', H', I.unsuite ok, q⟩
  | cont => obtain ⟨σ', H', I, q⟩ := h; exact ⟨σ', H', I.unsuite ok, q⟩
  | ret u => obtain ⟨v, σ', H', I, r, q⟩ := h; exact ⟨v, σ', H', I.unsuite ok, r, q⟩
def Hands (X : Cx) (C : Addr) (hs : List ExceptHandler) (t : TS) : Prop :=
  ∀ (pins : List (Addr × Obj)) (σ : St) (H H' : Hp) (B : Heap) (ea ta : Addr) (s s' : Shared) (D : Ends) (xe : Value → Shared → Prop), Inv X pins σ H s → Fly X.prog X.w X.stack H s H' B ea C ta s' → t D σ H' →
    wpAny (model X.prog X.w) X.A (handleBy (.ref ea) X.env hs) (SP X pins D) xe s'
theorem hands_at {x : Str} {C D' : Addr} {np pos : Pos} {b₀ : Stmt} {suite : List Stmt} {rest : List ExceptHandler} {b : Bool} {t : TS} (hg : Gl X x) (hm : X.mg x = some (.ref D')) (hx : PySem.W.exmOne X.K (.ref C) (.ref D') = some b)
    (hit : b = true → ∀ e, PSs (X.inSuite e) (b₀ :: suite) t) (miss : b = false → Hands X C rest t) (hd : (x == ("__debug__" : Str)) = false := by decide) :
    Hands X C (.ExceptHandler (some (.Name x np)) none (b₀ :: suite) pos :: rest) t := by
  intro pins σ H H' B ea ta s s' D xe I F h
  have I' := F.inv I
  have LT : PySem.W.Looks (model X.prog X.w) s'.heap (typeOf (.ref ea)) (.ref C) := by
    obtain ⟨ob, hob, hc⟩ := F.fl.there
    rw [← hc]
    exact (PySem.W.Looks.ld hob).andThen .now
  refine wpAny_handleBy_cons (codeAny_handlers_test (ld_glob (X := X.inSuite (.ref ea)) (I'.suite _) hg hm ?_ hd)) (by intro q; cases q)
  refine (PySem.W.exm_one I'.kIn LT hx).here ?_
  cases b with
  | true =>
    refine codeAny_handlers_suite (lands_againW F.fl fun h₂ hfl hup => ?_)
    have I2 := (F.next hfl hup).inv I
    exact wpAny_mono (hit rfl (.ref ea) pins _ σ H' D (I2.suite _) h) (fun f s₂ q => q.unsuite I.ok) fun _ _ z => False.elim z
  | false => exact miss rfl pins σ H H' B ea ta s s' D xe I F h
abbrev Cx.inTry (X : Cx) (pn : List (Addr × Obj)) (xe : Value → Shared → Prop) : Cx := { X with pn := pn, xe := xe }
theorem Inv.toTry {pins : List (Addr × Obj)} {σ : St} {H : Hp} {s : Shared} {xe : Value → Shared → Prop} (I : Inv X pins σ H s) : Inv (X.inTry (X.pn ++ pins) xe) [] σ H s :=
  ⟨⟨I.ok.mod, I.ok.kind, I.ok.glob, I.ok.blt, I.ok.above, I.ok.inj, I.ok.has, I.ok.cab, I.ok.hd, I.ok.frames, I.ok.stk, I.ok.exf, I.ok.bs, I.ok.bsz, I.ok.noex, I.ok.exfs, I.ok.funs, I.ok.frf⟩, I.os, I.bare, I.base, I.loc, I.cell, I.free, I.freeC, (fun p hp => I.pin p (by simpa using hp)), I.hok, I.len⟩
theorem Inv.ofTry {pins pins' : List (Addr × Obj)} {σ : St} {H : Hp} {s : Shared} {xe : Value → Shared → Prop} (ok : X.Ok) (I : Inv (X.inTry (X.pn ++ pins) xe) pins' σ H s) : Inv X pins σ H s :=
  ⟨ok, I.os, I.bare, I.base, I.loc, I.cell, I.free, I.freeC, (fun p hp => I.pin p (List.mem_append_left _ hp)), I.hok, I.len⟩
theorem SP.ofTry {pins pins' : List (Addr × Obj)} {D : Ends} {fl : Flow} {s' : Shared} {xe : Value → Shared → Prop} (ok : X.Ok) (h : SP (X.inTry (X.pn ++ pins) xe) pins' D fl s') : SP X pins D fl s' := by
  cases fl with
  | next => obtain ⟨σ', H', I, q⟩ := h; exact ⟨σ', H', I.ofTry ok, q⟩
  | brk => obtain ⟨σ', H', I, q⟩ := h; exact ⟨σ', H', I.ofTry ok, q⟩
  | cont => obtain ⟨σ', H', I, q⟩ := h; exact ⟨σ', H', I.ofTry ok, q⟩
  | ret u => obtain ⟨v, σ', H', I, r, q⟩ := h; exact ⟨v, σ', H', I.ofTry ok, r, q⟩
def tCallX (sp : Sp) (Ex : Value → St → Hp → Prop) (t : TA) : TE := fun σ H Q => t σ H fun vs H1 => sp vs H1 Q fun c _ H' => Ex c σ H'
def PassesX (X : Cx) (Ex : Value → St → Hp → Prop) : Prop := ∀ (pins : List (Addr × Obj)) (σ : St) (H : Hp) (s : Shared) (e : Value) (s' : Shared), Inv X pins σ H s → CXE X.prog X.w X.stack H s (fun c _ H' => Ex c σ H') e s' → X.xe e s'
theorem pe_callX {k : Nat} {f : Addr} {fd : FuncData} {ps : List Str} {sp : Sp} {Ex : Value → St → Hp → Prop} {x : Str} {p pos : Pos} {e : Expr} {es : List Expr} {t : TA} (F : FnOk X.prog X.w X.K X.mg X.base (CXE X.prog X.w) k f fd ps sp) (hr : Room k X.A) (hg : Gl X x) (hm : X.mg x = some (.ref f)) (hk : PySem.W.keepIn X.K (.ref f) = true) (hb : Binds X.K fd ps []) (hx : PassesX X Ex)
    (ha : PA X (e :: es) t) (hdb : (x == ("__debug__" : Str)) = false := by decide) (he : starEach (e :: es) X.env = (false, eval e X.env) :: starEach es X.env := by rfl) (hpl : (backTo pos (starEach es X.env)).any (·.1) = false := by rfl) :
    PE X (.Call (.Name x p) (e :: es) [] pos) (tCallX sp Ex t) := by
  intro pins s σ H Q I h
  refine wpAny_Call_Name_kw (ld_glob I hg hm ?_ hdb)
  refine PySem.W.callWith_K (h₀ := X.base) I.ok.mod.kin hk (thn (ha pos pins s σ H _ I h) fun us s1 ⟨vs, H1, I1, r, q⟩ => ⟨I1.kIn, ?_⟩) he hpl
  have hl : (us ++ []).length = ps.length := by rw [List.append_nil, ← r.length]; exact F.len _ _ _ _ q
  refine wpAny_call (codeAny_mono (F.run X.A X.stack s1 H1 ⟨us, []⟩ us vs Q _ hr I1.env0 (by have z := hb s1 us I1.kIn hl; rwa [List.append_nil] at z) r q) fun rr s' hq => ?_)
  cases rr with
  | error e => exact hx pins σ H1 s1 e s' I1 hq
  | ok fl =>
    cases fl with
    | ret u => exact I1.after hq
    | next => exact False.elim hq
    | brk => exact False.elim hq
    | cont => exact False.elim hq
def tTry (Ex : Value → St → Hp → Prop) (th : Value → TS) (tb : TS) : TS := fun D σ H => (∀ c σ' H', Ex c σ' H' → th c D σ' H') ∧ tb D σ H
theorem ps_try (hst : X.stack = X.env :: X.outer ∧ X.env.frame = some X.env.locals) {body : List Stmt} {h₀ : ExceptHandler} {hs : List ExceptHandler} {pos : Pos} {Ex : Value → St → Hp → Prop} {th : Value → TS} {tb : TS} (cs : List Addr)
    (hcs : ∀ c σ H, Ex c σ H → ∃ C, c = .ref C ∧ C ∈ cs) (hh : ∀ C ∈ cs, Hands X C (h₀ :: hs) (th (.ref C)))
    (hb : ∀ (pn : List (Addr × Obj)) (xe : Value → Shared → Prop), PassesOwn (model X.prog X.w) X.A X.env xe → PassesX (X.inTry pn xe) Ex → PSs (X.inTry pn xe) body tb) :
    PS X (.Try body (h₀ :: hs) [] [] pos) (tTry Ex th tb) := by
  intro pins s σ H D I h
  obtain ⟨hth, h⟩ := h
  refine wpAny_Try_except ?_
  refine wpAny_mono (hb (X.pn ++ pins) _ PassesOwn.looking ?_ [] s σ H D I.toTry h) (fun f s1 q => ?_) fun e s1 q => q
  · intro pins' σ1 H1 s1 e s2 I1 hx
    obtain ⟨ea, C, t, H', B, rfl, F, hE⟩ := hx
    obtain ⟨C', ec, hC⟩ := hcs _ _ _ hE
    cases ec
    have I0 : Inv X pins σ1 H1 s1 := I1.ofTry I.ok
    obtain ⟨m, ⟨oL, _⟩, _⟩ := id I0.loc
    show wpAny (model X.prog X.w) X.A (noteFrame (.ref ea) X.env) _ _ _
    have F0 : Fly X.prog X.w X.stack H1 s1 H' B ea C t s2 := F
    obtain ⟨e1, e2⟩ := hst
    have fr : X.A.frames = some (X.env :: X.outer) := by rw [← e1]; exact I.ok.frames
    have fl := F0.fl
    rw [e1] at fl
    refine wpAny_looks_onW fr e2 fl fun h₄ held hup => ?_
    refine wpAny_landsW held fun h₅ hfl5 hup5 => ?_
    rw [← e1] at hfl5
    exact hh C hC pins σ1 H1 H' B ea t s1 _ D X.xe I0 (F0.next hfl5 (hup.trans hup5)) (hth _ _ _ hE)
  · have q' := q.ofTry I.ok
    cases f with
    | next => exact wpAny_execs_nil q'
    | brk => exact q'
    | cont => exact q'
    | ret u => exact q'
end
end L2
namespace Sh
def regV (M : Ra28.M) (k : Nat) : Nat :=
  if k < 16 then M.r k else if k = 16 then 0 else if k = 17 then M.gbr else if k = 18 then M.vbr else if k = 19 then M.mac / 4294967296 else if k = 20 then M.mac % 4294967296 else M.pr
def setR (M : Ra28.M) (k x : Nat) : Ra28.M :=
  if k < 16 then Ra28.set M k x else if k = 17 then { M with gbr := x } else if k = 18 then { M with vbr := x } else if k = 19 then { M with mac := x * 4294967296 + M.mac % 4294967296 } else if k = 20 then { M with mac := M.mac / 4294967296 * 4294967296 + x } else { M with pr := x }
def rdV (M : Ra28.M) (k : Nat) : Nat := if k = 16 then Ra28.sr M else if k = 22 then M.pc else regV M k
def wrV (M : Ra28.M) (k x : Nat) : Ra28.M := if k = 16 then Ra28.setSr M x else if k = 22 then { M with pc := x, npc := (x + 2) % 4294967296, slot := false } else setR M k x
inductive Eff where
  /-- goes on; why -/
  | nx (M : Ra28.M) (w : Nat)
  /-- a jump to t -/
  | jp (M : Ra28.M) (t : Nat)
  /-- it stops, nothing is done -/
  | ex (c : Nat)
def loadE (M : Ra28.M) (p n : Nat) (g : Nat → Eff) : Eff := if p % n ≠ 0 then .ex 3 else if 65536 < p + n then .ex 4 else g (Ra28.get M p n)
def storeE (N : Ra28.M) (p n x : Nat) : Eff := if p % n ≠ 0 then .ex 3 else if 65536 < p + n then .ex 4 else .nx (Ra28.put N p n (x % 256 ^ n)) 0
def wide (n x : Nat) : Nat := if n = 1 then Ra28.widened 8 x else if n = 2 then Ra28.widened 16 x else x
def there (M : Ra28.M) (k i : Nat) : Nat := Ra28.plus (Ra28.plus M.pc 4) (2 * Ra28.widened k i % 4294967296)
def macE (M : Ra28.M) (n j k : Nat) : Eff :=
  loadE M (M.r n) k fun x => loadE M ((Ra28.set M n (Ra28.plus (M.r n) k)).r j) k fun y =>
    .nx { Ra28.set (Ra28.set M n (Ra28.plus (M.r n) k)) j (Ra28.plus ((Ra28.set M n (Ra28.plus (M.r n) k)).r j) k) with mac := if k = 4 then Ra28.macL M x y else Ra28.macW M x y } 0
def combE (n x i : Nat) : Nat := if n % 4 = 1 then x &&& i else if n % 4 = 2 then x ^^^ i else x ||| i
def whichOf (j i : Nat) : Nat := j + (if i % 16 = 2 ∨ i % 16 = 6 ∨ i % 16 = 10 then 19 else 16)
def amt (j : Nat) : Nat := if j = 0 then 2 else if j = 1 then 8 else 16
open Ra28 in
def effA (c : Ac) (M : M) (n j i : Nat) : Eff := match c with
  | .jump_by_register => .jp M (plus (plus M.pc 4) (M.r n))
  | .call_by_register => .jp { M with pr := plus M.pc 4 } (plus (plus M.pc 4) (M.r n))
  | .come_back => .jp M M.pr
  | .come_back_with_status => loadE M (M.r 15) 4 fun a => loadE M (plus (M.r 15) 4) 4 fun b => .jp (setSr (Ra28.set M 15 (plus (M.r 15) 8)) b) a
  | .jump_to_register => .jp M (M.r n)
  | .call_to_register => .jp { M with pr := plus M.pc 4 } (M.r n)
  | .leap_where_1 => .nx (if M.t = true then { M with npc := there M 8 i } else M) 0
  | .leap_where_0 => .nx (if M.t = true then M else { M with npc := there M 8 i }) 0
  | .jump_where_1 => if M.t = true then .jp M (there M 8 i) else .nx M 0
  | .jump_where_0 => if M.t = true then .nx M 0 else .jp M (there M 8 i)
  | .jump_by_number => .jp M (there M 12 (n * 256 + i))
  | .call_by_number => .jp { M with pr := plus M.pc 4 } (there M 12 (n * 256 + i))
  | .load_word => loadE M (plus (plus M.pc 4) (2 * i)) 2 fun x => .nx (Ra28.set M n (widened 16 x)) 0
  | .load_long => loadE M (plus (plus M.pc 4 / 4 * 4) (4 * i)) 4 fun x => .nx (Ra28.set M n x) 0
  | .call_system => .nx M 5
  | .tell_place => .nx (Ra28.set M 0 (plus (plus M.pc 4 / 4 * 4) (4 * i))) 0
  | .add_long_product => macE M n j 4
  | .add_word_product => macE M n j 2
  | .store_indexed => storeE M (plus (M.r 0) (M.r n)) (2 ^ (i % 4)) (M.r j)
  | .load_indexed => loadE M (plus (M.r 0) (M.r j)) (2 ^ (i % 4)) fun x => .nx (Ra28.set M n (wide (2 ^ (i % 4)) x)) 0
  | .multiply => .nx { M with mac := M.mac / W * W + M.r n * M.r j % W } 0
  | .read_control => .nx (Ra28.set M n (rdV M (16 + j))) 0
  | .read_system => .nx (Ra28.set M n (rdV M (19 + j))) 0
  | .read_t => .nx (Ra28.set M n (bit M.t)) 0
  | .clear_t => .nx { M with t := false } 0
  | .raise_t => .nx { M with t := true } 0
  | .clear_sum => .nx { M with mac := 0 } 0
  | .do_nothing => .nx M 0
  | .begin_unsigned_division => .nx { M with q := false, m := false, t := false } 0
  | .sleep => .nx M 6
  | .store_at => storeE M (M.r n) (2 ^ (i % 4)) (M.r j)
  | .store_below => storeE (Ra28.set M n (minus (M.r n) (2 ^ (i % 4)))) (minus (M.r n) (2 ^ (i % 4))) (2 ^ (i % 4)) (M.r j)
  | .begin_signed_division => .nx { M with q := decide (2 ^ 31 ≤ M.r n), m := decide (2 ^ 31 ≤ M.r j), t := decide (2 ^ 31 ≤ M.r n) != decide (2 ^ 31 ≤ M.r j) } 0
  | .have_no_bit_in_common => .nx { M with t := M.r n &&& M.r j == 0 } 0
  | .bits_of_both => .nx (Ra28.set M n (M.r n &&& M.r j)) 0
  | .bits_of_one => .nx (Ra28.set M n (M.r n ^^^ M.r j)) 0
  | .bits_of_either => .nx (Ra28.set M n (M.r n ||| M.r j)) 0
  | .have_same_byte => .nx { M with t := sameByte (M.r n) (M.r j) } 0
  | .join_halves => .nx (Ra28.set M n (M.r j % 65536 * 65536 + M.r n / 65536)) 0
  | .multiply_halves => .nx { M with mac := M.mac / W * W + M.r n % 65536 * (M.r j % 65536) } 0
  | .multiply_signed_halves => .nx { M with mac := M.mac / W * W + wrap (signed 16 (M.r n) * signed 16 (M.r j)) } 0
  | .is_same => .nx { M with t := M.r n == M.r j } 0
  | .is_at_least => .nx { M with t := decide (M.r j ≤ M.r n) } 0
  | .is_above => .nx { M with t := decide (M.r j < M.r n) } 0
  | .is_at_least_signed => .nx { M with t := decide (signed 32 (M.r j) ≤ signed 32 (M.r n)) } 0
  | .is_above_signed => .nx { M with t := decide (signed 32 (M.r j) < signed 32 (M.r n)) } 0
  | .subtract => .nx (Ra28.set M n (minus (M.r n) (M.r j))) 0
  | .add => .nx (Ra28.set M n (plus (M.r n) (M.r j))) 0
  | .subtract_with_t => .nx { Ra28.set M n ((M.r n + 2 * W - M.r j - bit M.t) % W) with t := decide (M.r n < M.r j + bit M.t) } 0
  | .add_with_t => .nx { Ra28.set M n ((M.r n + M.r j + bit M.t) % W) with t := decide (W ≤ M.r n + M.r j + bit M.t) } 0
  | .subtract_signed => .nx { Ra28.set M n (minus (M.r n) (M.r j)) with t := signed 32 (M.r n) - signed 32 (M.r j) != signed 32 (minus (M.r n) (M.r j)) } 0
  | .add_signed => .nx { Ra28.set M n (plus (M.r n) (M.r j)) with t := signed 32 (M.r n) + signed 32 (M.r j) != signed 32 (plus (M.r n) (M.r j)) } 0
  | .multiply_whole => .nx { M with mac := M.r n * M.r j } 0
  | .multiply_whole_signed => .nx { M with mac := wrap64 (signed 32 (M.r n) * signed 32 (M.r j)) } 0
  | .divide_step => .nx (div1 M n (M.r j)) 0
  | .double => .nx { Ra28.set M n (2 * M.r n % W) with t := decide (2 ^ 31 ≤ M.r n) } 0
  | .halve => .nx { Ra28.set M n (M.r n / 2) with t := M.r n % 2 == 1 } 0
  | .halve_signed => .nx { Ra28.set M n (M.r n / 2 + if decide (2 ^ 31 ≤ M.r n) = true then 2 ^ 31 else 0) with t := M.r n % 2 == 1 } 0
  | .turn_left => .nx { Ra28.set M n (2 * M.r n % W + bit (decide (2 ^ 31 ≤ M.r n))) with t := decide (2 ^ 31 ≤ M.r n) } 0
  | .turn_right => .nx { Ra28.set M n (M.r n / 2 + bit (M.r n % 2 == 1) * 2 ^ 31) with t := M.r n % 2 == 1 } 0
  | .turn_left_through_t => .nx { Ra28.set M n (2 * M.r n % W + bit M.t) with t := decide (2 ^ 31 ≤ M.r n) } 0
  | .turn_right_through_t => .nx { Ra28.set M n (M.r n / 2 + bit M.t * 2 ^ 31) with t := M.r n % 2 == 1 } 0
  | .shift_left => .nx (Ra28.set M n (2 ^ amt j * M.r n % W)) 0
  | .shift_right => .nx (Ra28.set M n (M.r n / 2 ^ amt j)) 0
  | .count_down => .nx { Ra28.set M n (minus (M.r n) 1) with t := M.r n == 1 } 0
  | .is_at_least_zero => .nx { M with t := !decide (2 ^ 31 ≤ M.r n) } 0
  | .is_above_zero => .nx { M with t := !decide (2 ^ 31 ≤ M.r n) && M.r n != 0 } 0
  | .store_which => storeE (Ra28.set M n (minus (M.r n) 4)) (minus (M.r n) 4) 4 (rdV M (whichOf j i))
  | .load_which => loadE M (M.r n) 4 fun x => .nx (wrV (Ra28.set M n (plus (M.r n) 4)) (whichOf j i) x) 0
  | .take_which => .nx (wrV M (whichOf j i) (M.r n)) 0
  | .claim_byte => loadE M (M.r n) 1 fun x => .nx { put M (M.r n) 1 (x ||| 128) with t := x == 0 } 0
  | .load_at => loadE M (M.r j) (2 ^ (i % 4)) fun x => .nx (Ra28.set M n (wide (2 ^ (i % 4)) x)) 0
  | .load_and_pass => loadE M (M.r j) (2 ^ (i % 4)) fun x => .nx (Ra28.set (Ra28.set M j (plus (M.r j) (2 ^ (i % 4)))) n (wide (2 ^ (i % 4)) x)) 0
  | .move => .nx (Ra28.set M n (M.r j)) 0
  | .turn_bits => .nx (Ra28.set M n (W - 1 - M.r j)) 0
  | .exchange_bytes => .nx (Ra28.set M n (M.r j / 65536 * 65536 + M.r j % 256 * 256 + M.r j / 256 % 256)) 0
  | .exchange_halves => .nx (Ra28.set M n (M.r j % 65536 * 65536 + M.r j / 65536)) 0
  | .negate => .nx (Ra28.set M n (minus 0 (M.r j))) 0
  | .negate_with_t => .nx { Ra28.set M n ((2 * W - M.r j - bit M.t) % W) with t := decide (0 < M.r j + bit M.t) } 0
  | .lowest_byte => .nx (Ra28.set M n (M.r j % 256)) 0
  | .lower_half => .nx (Ra28.set M n (M.r j % 65536)) 0
  | .lowest_byte_signed => .nx (Ra28.set M n (widened 8 (M.r j))) 0
  | .lower_half_signed => .nx (Ra28.set M n (widened 16 (M.r j))) 0
  | .store_near => storeE M (plus (M.r j) (2 ^ (n % 4) * (i % 16))) (2 ^ (n % 4)) (M.r 0)
  | .load_near => loadE M (plus (M.r j) (2 ^ (n % 4) * (i % 16))) (2 ^ (n % 4)) fun x => .nx (Ra28.set M 0 (wide (2 ^ (n % 4)) x)) 0
  | .is_number => .nx { M with t := M.r 0 == widened 8 i } 0
  | .store_by_base => storeE M (plus M.gbr (2 ^ (n % 4) * i)) (2 ^ (n % 4)) (M.r 0)
  | .load_by_base => loadE M (plus M.gbr (2 ^ (n % 4) * i)) (2 ^ (n % 4)) fun x => .nx (Ra28.set M 0 (wide (2 ^ (n % 4)) x)) 0
  | .has_no_bit_of => .nx { M with t := M.r 0 &&& i == 0 } 0
  | .combine => .nx (Ra28.set M 0 (combE n (M.r 0) i)) 0
  | .byte_has_no_bit_of => loadE M (plus (M.r 0) M.gbr) 1 fun x => .nx { M with t := x &&& i == 0 } 0
  | .combine_byte => loadE M (plus (M.r 0) M.gbr) 1 fun x => .nx (put M (plus (M.r 0) M.gbr) 1 (combE n x i)) 0
  | .store_with_offset => storeE M (plus (M.r n) (4 * (i % 16))) 4 (M.r j)
  | .load_with_offset => loadE M (plus (M.r j) (4 * (i % 16))) 4 fun x => .nx (Ra28.set M n x) 0
  | .add_number => .nx (Ra28.set M n (plus (M.r n) (widened 8 i))) 0
  | .take_number => .nx (Ra28.set M n (widened 8 i)) 0
def okA (c : Ac) (n i : Nat) : Prop := match c with
  | .store_indexed | .load_indexed | .store_at | .store_below | .load_at | .load_and_pass => i % 4 < 3
  | .read_control | .read_system | .shift_left | .shift_right | .store_which | .load_which | .take_which => i / 16 < 3
  | .store_near | .load_near => n % 4 < 2
  | .store_by_base | .load_by_base => n % 4 < 3
  | .combine | .combine_byte => True
  | _ => True
def bN0 (i : Nat) : Option Ac := match i with | 11 => some .come_back | 43 => some .come_back_with_status | _ => none
def bI0 (i : Nat) : Option Ac := match i with | 3 => some .call_by_register | 35 => some .jump_by_register | _ => none
def bI4 (i : Nat) : Option Ac := match i with | 11 => some .call_to_register | 43 => some .jump_to_register | _ => none
def bN8 (n : Nat) : Option Ac := match n with | 9 => some .leap_where_1 | 11 => some .leap_where_0 | 13 => some .jump_where_1 | 15 => some .jump_where_0 | _ => none
def bNC (n : Nat) : Option Ac := match n with | 3 => some .call_system | 7 => some .tell_place | _ => none
def bG (g : Nat) : Option Ac := match g with | 9 => some .load_word | 10 => some .jump_by_number | 11 => some .call_by_number | 13 => some .load_long | _ => none
def boundA (g n i : Nat) : Option Ac :=
  if g = 0 ∧ n = 0 ∧ (bN0 i).isSome = true then bN0 i else if g = 0 then bI0 i else if g = 4 then bI4 i else if g = 8 then bN8 n else if g = 12 then bNC n else bG g
def tK0 (k : Nat) : Option Ac := match k with
  | 4 => some .store_indexed | 5 => some .store_indexed | 6 => some .store_indexed | 7 => some .multiply | 12 => some .load_indexed | 13 => some .load_indexed | 14 => some .load_indexed | _ => none
def tI0 (i : Nat) : Option Ac := match i with
  | 2 => some .read_control | 18 => some .read_control | 34 => some .read_control | 10 => some .read_system | 26 => some .read_system | 42 => some .read_system | 41 => some .read_t | _ => none
def tN0 (i : Nat) : Option Ac := match i with
  | 8 => some .clear_t | 24 => some .raise_t | 40 => some .clear_sum | 9 => some .do_nothing | 25 => some .begin_unsigned_division | 27 => some .sleep | _ => none
def free0 (n i : Nat) : Option Ac :=
  if i % 16 = 15 then some .add_long_product else if (tK0 (i % 16)).isSome = true then tK0 (i % 16) else if (tI0 i).isSome = true then tI0 i else if n = 0 then tN0 i else none
def free2 (k : Nat) : Option Ac := match k with
  | 0 => some .store_at | 1 => some .store_at | 2 => some .store_at | 4 => some .store_below | 5 => some .store_below | 6 => some .store_below | 7 => some .begin_signed_division | 8 => some .have_no_bit_in_common | 9 => some .bits_of_both
  | 10 => some .bits_of_one | 11 => some .bits_of_either | 12 => some .have_same_byte | 13 => some .join_halves | 14 => some .multiply_halves | 15 => some .multiply_signed_halves | _ => none
def free3 (k : Nat) : Option Ac := match k with
  | 0 => some .is_same | 2 => some .is_at_least | 3 => some .is_at_least_signed | 4 => some .divide_step | 5 => some .multiply_whole | 6 => some .is_above | 7 => some .is_above_signed | 8 => some .subtract | 10 => some .subtract_with_t
  | 11 => some .subtract_signed | 12 => some .add | 13 => some .multiply_whole_signed | 14 => some .add_with_t | 15 => some .add_signed | _ => none
def free4 (i : Nat) : Option Ac := match i with
  | 0 => some .double | 32 => some .double | 1 => some .halve | 33 => some .halve_signed | 4 => some .turn_left | 5 => some .turn_right | 36 => some .turn_left_through_t | 37 => some .turn_right_through_t
  | 8 => some .shift_left | 24 => some .shift_left | 40 => some .shift_left | 9 => some .shift_right | 25 => some .shift_right | 41 => some .shift_right | 16 => some .count_down | 17 => some .is_at_least_zero | 21 => some .is_above_zero
  | 2 => some .store_which | 18 => some .store_which | 34 => some .store_which | 3 => some .store_which | 19 => some .store_which | 35 => some .store_which | 6 => some .load_which | 22 => some .load_which | 38 => some .load_which
  | 7 => some .load_which | 23 => some .load_which | 39 => some .load_which | 10 => some .take_which | 26 => some .take_which | 42 => some .take_which | 14 => some .take_which | 30 => some .take_which | 46 => some .take_which | 27 => some .claim_byte | _ => none
def free6 (k : Nat) : Ac := match k with
  | 0 => .load_at | 1 => .load_at | 2 => .load_at | 3 => .move | 4 => .load_and_pass | 5 => .load_and_pass | 6 => .load_and_pass | 7 => .turn_bits | 8 => .exchange_bytes | 9 => .exchange_halves | 10 => .negate_with_t | 11 => .negate
  | 12 => .lowest_byte | 13 => .lower_half | 14 => .lowest_byte_signed | _ => .lower_half_signed
def free8 (n : Nat) : Option Ac := match n with
  | 0 => some .store_near | 1 => some .store_near | 4 => some .load_near | 5 => some .load_near | 8 => some .is_number | _ => none
def freeC (n : Nat) : Option Ac := match n with
  | 0 => some .store_by_base | 1 => some .store_by_base | 2 => some .store_by_base | 4 => some .load_by_base | 5 => some .load_by_base | 6 => some .load_by_base | 8 => some .has_no_bit_of | 9 => some .combine | 10 => some .combine | 11 => some .combine
  | 12 => some .byte_has_no_bit_of | 13 => some .combine_byte | 14 => some .combine_byte | 15 => some .combine_byte | _ => none
def freeW (g : Nat) : Option Ac := match g with
  | 1 => some .store_with_offset | 5 => some .load_with_offset | 7 => some .add_number | 14 => some .take_number | _ => none
def freeA (g n i : Nat) : Option Ac :=
  if g = 0 then free0 n i else if g = 2 then free2 (i % 16) else if g = 3 then free3 (i % 16) else if g = 4 then (if i % 16 = 15 then some .add_word_product else free4 i)
  else if g = 6 then some (free6 (i % 16)) else if g = 8 then free8 n else if g = 12 then freeC n else freeW g
def actOf (g n i : Nat) : Option (Ac × Bool) := match boundA g n i with
  | some c => some (c, true)
  | none => match freeA g n i with
    | some c => some (c, false)
    | none => none
def goOf (M : Ra28.M) : Eff → Ra28.Go
  | .nx N 0 => .on (Ra28.next N)
  | .nx N (w + 1) => .stop (w + 1) (Ra28.next N)
  | .jp N t => .on (Ra28.jump N t)
  | .ex c => .stop c M
theorem go_load (M : Ra28.M) (p n : Nat) (g : Nat → Eff) : goOf M (loadE M p n g) = Ra28.load M p n fun x => goOf M (g x) := by
  unfold loadE Ra28.load
  show goOf M (if p % n ≠ 0 then .ex 3 else if 65536 < p + n then .ex 4 else g (Ra28.get M p n)) = if p % n ≠ 0 then .stop 3 M else if 65536 < p + n then .stop 4 M else goOf M (g (Ra28.get M p n))
  by_cases h : p % n ≠ 0
  · rw [if_pos h, if_pos h]; rfl
  · rw [if_neg h, if_neg h]
    by_cases h2 : 65536 < p + n
    · rw [if_pos h2, if_pos h2]; rfl
    · rw [if_neg h2, if_neg h2]
theorem go_store (M N : Ra28.M) (p n x : Nat) : goOf M (storeE N p n x) = Ra28.store M N p n x := by
  unfold storeE Ra28.store
  show goOf M (if p % n ≠ 0 then .ex 3 else if 65536 < p + n then .ex 4 else .nx (Ra28.put N p n (x % 256 ^ n)) 0) = if p % n ≠ 0 then .stop 3 M else if 65536 < p + n then .stop 4 M else Ra28.done (Ra28.put N p n (x % 256 ^ n))
  by_cases h : p % n ≠ 0
  · rw [if_pos h, if_pos h]; rfl
  · rw [if_neg h, if_neg h]
    by_cases h2 : 65536 < p + n
    · rw [if_pos h2, if_pos h2]; rfl
    · rw [if_neg h2, if_neg h2]; rfl
theorem go_mac (M : Ra28.M) (n j k : Nat) : goOf M (macE M n j k) = Ra28.macAt M n j k := by
  unfold macE
  rw [go_load]
  unfold Ra28.macAt
  congr 1
  funext x
  rw [go_load]
  rfl
def stepE (M : Ra28.M) : Eff := if M.pc % 2 = 1 then .ex 3 else if 65536 < M.pc + 2 then .ex 4 else
  match actOf (Ra28.get M M.pc 2 / 4096) (Ra28.get M M.pc 2 / 256 % 16) (Ra28.get M M.pc 2 % 256) with
  | none => .ex 1
  | some (c, b) => if M.slot = true ∧ b = true then .ex 2 else effA c M (Ra28.get M M.pc 2 / 256 % 16) (Ra28.get M M.pc 2 % 256 / 16) (Ra28.get M M.pc 2 % 256)
def okE : Eff → Prop
  | .nx _ w => w = 0 ∨ 5 ≤ w
  | .jp _ _ => True
  | .ex c => 1 ≤ c ∧ c < 5
theorem okE_load {M : Ra28.M} {p n : Nat} {g : Nat → Eff} (h : ∀ x, okE (g x)) : okE (loadE M p n g) := by
  unfold loadE
  repeat' split
  · exact ⟨by decide, by decide⟩
  · exact ⟨by decide, by decide⟩
  · exact h _
theorem okE_store {N : Ra28.M} {p n x : Nat} : okE (storeE N p n x) := by
  unfold storeE
  repeat' split
  · exact ⟨by decide, by decide⟩
  · exact ⟨by decide, by decide⟩
  · exact .inl rfl
theorem okE_act (c : Ac) (M : Ra28.M) (n j i : Nat) : okE (effA c M n j i) := by
  cases c
  case jump_where_1 => unfold effA; dsimp only; split; exact trivial; exact Or.inl rfl
  case jump_where_0 => unfold effA; dsimp only; split; exact Or.inl rfl; exact trivial
  case call_system => exact Or.inr (by decide)
  case sleep => exact Or.inr (by decide)
  case add_long_product => dsimp only [effA]; refine okE_load fun _ => okE_load fun _ => ?_; exact Or.inl rfl
  case add_word_product => dsimp only [effA]; refine okE_load fun _ => okE_load fun _ => ?_; exact Or.inl rfl
  case come_back_with_status => dsimp only [effA]; refine okE_load fun _ => okE_load fun _ => ?_; exact trivial
  all_goals dsimp only [effA]
  all_goals first | (with_reducible exact okE_store) | ((with_reducible refine okE_load ?_); intro x; exact Or.inl rfl) | exact trivial | exact Or.inl rfl
theorem okE_step (M : Ra28.M) : okE (stepE M) := by
  unfold stepE
  repeat' split
  all_goals first | exact ⟨by decide, by decide⟩ | exact okE_act _ _ _ _ _
end Sh
namespace Sh
open Ra28 in
def execG (m : M) (g n j k i z x : Nat) : Option Go := match g with
  | 0x0 => zero m n j k x
  | 0x1 => some (store m m (plus (m.r n) (4 * k)) 4 (m.r j))
  | 0x2 => two m n j (0x20 + k)
  | 0x3 => two m n j (0x30 + k)
  | 0x4 => if k = 15 then some (macAt m n j 2) else one m n i
  | 0x5 => some (load m (plus (m.r j) (4 * k)) 4 fun x => put1 m n x)
  | 0x6 => two m n j (0x60 + k)
  | 0x7 => some (put1 m n (plus (m.r n) (widened 8 i)))
  | 0x8 => eight m n j x
  | 0x9 => some (load m (plus (plus m.pc 4) (2 * i)) 2 fun x => put1 m n (widened 16 x))
  | 0xA => some (.on (jump m (plus (plus m.pc 4) (2 * widened 12 z % W))))
  | 0xB => some (.on (jump { m with pr := plus m.pc 4 } (plus (plus m.pc 4) (2 * widened 12 z % W))))
  | 0xC => some (twelve m n i)
  | 0xD => some (load m (plus (plus m.pc 4 / 4 * 4) (4 * i)) 4 fun x => put1 m n x)
  | 0xE => some (put1 m n (widened 8 i))
  | _ => none
theorem exec_eq (M : Ra28.M) (x : Nat) : Ra28.exec M x = execG M (x / 4096) (x / 256 % 16) (x / 16 % 16) (x % 16) (x % 256) (x % 4096) x := rfl
open Ra28 in
def zeroG (m : M) (n j k i x : Nat) : Option Go :=
  let r0 := m.r 0
  match k with
  | 4 => some (store m m (plus r0 (m.r n)) 1 (m.r j))
  | 5 => some (store m m (plus r0 (m.r n)) 2 (m.r j))
  | 6 => some (store m m (plus r0 (m.r n)) 4 (m.r j))
  | 7 => some (done { m with mac := m.mac / W * W + m.r n * m.r j % W })
  | 12 => some (load m (plus r0 (m.r j)) 1 fun x => put1 m n (widened 8 x))
  | 13 => some (load m (plus r0 (m.r j)) 2 fun x => put1 m n (widened 16 x))
  | 14 => some (load m (plus r0 (m.r j)) 4 fun x => put1 m n x)
  | 15 => some (macAt m n j 4)
  | _ => match i with
    | 0x02 => some (put1 m n (special m 3))
    | 0x12 => some (put1 m n (special m 4))
    | 0x22 => some (put1 m n (special m 5))
    | 0x0A => some (put1 m n (special m 0))
    | 0x1A => some (put1 m n (special m 1))
    | 0x2A => some (put1 m n (special m 2))
    | 0x29 => some (put1 m n (bit m.t))
    | 0x03 => some (.on (jump { m with pr := plus m.pc 4 } (plus (plus m.pc 4) (m.r n))))
    | 0x23 => some (.on (jump m (plus (plus m.pc 4) (m.r n))))
    | _ => match x with
      | 0x0008 => some (t m false)
      | 0x0018 => some (t m true)
      | 0x0028 => some (done { m with mac := 0 })
      | 0x0009 => some (done m)
      | 0x0019 => some (done { m with q := false, m := false, t := false })
      | 0x000B => some (.on (jump m m.pr))
      | 0x001B => some (.stop 6 (next m))
      | 0x002B => some (load m (m.r 15) 4 fun a => load m (plus (m.r 15) 4) 4 fun b => .on (jump (setSr (Ra28.set m 15 (plus (m.r 15) 8)) b) a))
      | _ => none
theorem zero_eq (M : Ra28.M) (n j k x : Nat) : Ra28.zero M n j k x = zeroG M n j k (x % 256) x := rfl
open Ra28 in
def eightG (m : M) (n j d i : Nat) : Option Go :=
  let there := plus (plus m.pc 4) (2 * widened 8 i % W)
  match n with
  | 0x0 => some (store m m (plus (m.r j) d) 1 (m.r 0))
  | 0x1 => some (store m m (plus (m.r j) (2 * d)) 2 (m.r 0))
  | 0x4 => some (load m (plus (m.r j) d) 1 fun x => put1 m 0 (widened 8 x))
  | 0x5 => some (load m (plus (m.r j) (2 * d)) 2 fun x => put1 m 0 (widened 16 x))
  | 0x8 => some (t m (m.r 0 == widened 8 i))
  | 0x9 => some (.on (if m.t = true then leap m there else next m))
  | 0xB => some (.on (if m.t = true then next m else leap m there))
  | 0xD => some (.on (if m.t = true then jump m there else next m))
  | 0xF => some (.on (if m.t = true then next m else jump m there))
  | _ => none
theorem eight_eq (M : Ra28.M) (n j x : Nat) : Ra28.eight M n j x = eightG M n j (x % 16) (x % 256) := rfl
def barG (g h i x : Nat) : Bool := (([0x9, 0xA, 0xB, 0xD] : List Nat).contains g) || ((([0x89, 0x8B, 0x8D, 0x8F, 0xC3, 0xC7] : List Nat).contains h) || ((g == 0 && ([0x03, 0x23] : List Nat).contains i) || (([0x000B, 0x002B] : List Nat).contains x || (g == 4 && ([0x0B, 0x2B] : List Nat).contains i))))
theorem bar_eq (x : Nat) : Ra28.barred x = barG (x / 4096) (x / 256) (x % 256) x := rfl
def Agree (M : Ra28.M) (o : Option Ra28.Go) (b : Bool) (n j i : Nat) (r : Option (Ac × Bool)) : Prop := match r with
  | none => o = none ∧ b = false
  | some (c, b') => b = b' ∧ okA c n i ∧ o = some (goOf M (effA c M n j i))
theorem lt16 {P : Nat → Prop} (h0 : P 0) (h1 : P 1) (h2 : P 2) (h3 : P 3) (h4 : P 4) (h5 : P 5) (h6 : P 6) (h7 : P 7) (h8 : P 8) (h9 : P 9) (h10 : P 10) (h11 : P 11) (h12 : P 12) (h13 : P 13) (h14 : P 14) (h15 : P 15) : ∀ k, k < 16 → P k
  | 0, _ => h0 | 1, _ => h1 | 2, _ => h2 | 3, _ => h3 | 4, _ => h4 | 5, _ => h5 | 6, _ => h6 | 7, _ => h7 | 8, _ => h8 | 9, _ => h9 | 10, _ => h10 | 11, _ => h11 | 12, _ => h12 | 13, _ => h13 | 14, _ => h14 | 15, _ => h15
  | n + 16, h => absurd h (by omega)
theorem some_load {M : Ra28.M} {p n : Nat} {f : Nat → Ra28.Go} {g : Nat → Eff} (h : ∀ x, f x = goOf M (g x)) : some (Ra28.load M p n f) = some (goOf M (loadE M p n g)) := by
  rw [go_load]
  have : f = fun x => goOf M (g x) := funext h
  rw [this]
theorem some_store {M N : Ra28.M} {p n x : Nat} : some (Ra28.store M N p n x) = some (goOf M (storeE N p n x)) := by rw [go_store]
theorem some_mac {M : Ra28.M} {n j k : Nat} : some (Ra28.macAt M n j k) = some (goOf M (macE M n j k)) := by rw [go_mac]
theorem agree2 (M : Ra28.M) (n j i : Nat) : ∀ k, k < 16 → i % 16 = k → Agree M (Ra28.two M n j (0x20 + k)) false n j i ((free2 k).map fun c => (c, false)) := by
  refine lt16 ?_ ?_ ?_ ?_ ?_ ?_ ?_ ?_ ?_ ?_ ?_ ?_ ?_ ?_ ?_ ?_
  all_goals intro hk
  case refine_1 | refine_2 | refine_3 | refine_5 | refine_6 | refine_7 =>
    refine ⟨rfl, (by show i % 4 < 3; omega), ?_⟩
    have e : i % 4 = 0 ∨ i % 4 = 1 ∨ i % 4 = 2 := by omega
    dsimp only [effA]
    first
      | (rw [show i % 4 = 0 by omega]; exact some_store)
      | (rw [show i % 4 = 1 by omega]; exact some_store)
      | (rw [show i % 4 = 2 by omega]; exact some_store)
  all_goals first | exact ⟨rfl, rfl⟩ | exact ⟨rfl, trivial, rfl⟩
theorem agree3 (M : Ra28.M) (n j i : Nat) : ∀ k, k < 16 → i % 16 = k → Agree M (Ra28.two M n j (0x30 + k)) false n j i ((free3 k).map fun c => (c, false)) := by
  refine lt16 ?_ ?_ ?_ ?_ ?_ ?_ ?_ ?_ ?_ ?_ ?_ ?_ ?_ ?_ ?_ ?_
  all_goals intro hk
  all_goals first | exact ⟨rfl, rfl⟩ | exact ⟨rfl, trivial, rfl⟩
theorem agree6 (M : Ra28.M) (n j i : Nat) : ∀ k, k < 16 → i % 16 = k → Agree M (Ra28.two M n j (0x60 + k)) false n j i (some (free6 k, false)) := by
  refine lt16 ?_ ?_ ?_ ?_ ?_ ?_ ?_ ?_ ?_ ?_ ?_ ?_ ?_ ?_ ?_ ?_
  all_goals intro hk
  case refine_1 | refine_2 | refine_3 | refine_5 | refine_6 | refine_7 =>
    refine ⟨rfl, (by show i % 4 < 3; omega), ?_⟩
    dsimp only [free6, effA]
    first
      | (rw [show i % 4 = 0 by omega]; exact some_load fun _ => rfl)
      | (rw [show i % 4 = 1 by omega]; exact some_load fun _ => rfl)
      | (rw [show i % 4 = 2 by omega]; exact some_load fun _ => rfl)
  all_goals exact ⟨rfl, trivial, rfl⟩
theorem agree8 (M : Ra28.M) (j i d : Nat) (hd : i % 16 = d) : ∀ n, n < 16 → Agree M (eightG M n j d i) (barG 8 (128 + n) i (32768 + n * 256 + i)) n j i (actOf 8 n i) := by
  subst hd
  have hb : ∀ n, n < 16 → barG 8 (128 + n) i (32768 + n * 256 + i) = (n == 9 || n == 11 || n == 13 || n == 15) := by
    intro n hn
    unfold barG
    have e1 : ([0x000B, 0x002B] : List Nat).contains (32768 + n * 256 + i) = false := by simp; omega
    rw [e1]
    revert n
    refine lt16 ?_ ?_ ?_ ?_ ?_ ?_ ?_ ?_ ?_ ?_ ?_ ?_ ?_ ?_ ?_ ?_
    all_goals (intro _; rfl)
  intro n hn
  rw [hb n hn]
  clear hb
  revert n
  refine lt16 ?_ ?_ ?_ ?_ ?_ ?_ ?_ ?_ ?_ ?_ ?_ ?_ ?_ ?_ ?_ ?_
  case refine_1 => exact ⟨rfl, (by show 0 % 4 < 2; decide), by show _ = some (goOf M (storeE M (Ra28.plus (M.r j) (1 * (i % 16))) 1 (M.r 0))); rw [Nat.one_mul]; exact some_store⟩
  case refine_2 => exact ⟨rfl, (by show 1 % 4 < 2; decide), some_store⟩
  case refine_5 => exact ⟨rfl, (by show 4 % 4 < 2; decide), by show _ = some (goOf M (loadE M (Ra28.plus (M.r j) (1 * (i % 16))) 1 fun x => .nx (Ra28.set M 0 (wide 1 x)) 0)); rw [Nat.one_mul, go_load]; rfl⟩
  case refine_6 => exact ⟨rfl, (by show 5 % 4 < 2; decide), by simp only [effA, go_load]; rfl⟩
  case refine_10 =>
    refine ⟨rfl, trivial, ?_⟩
    show some (Ra28.Go.on (if M.t = true then Ra28.leap M (there M 8 i) else Ra28.next M)) = some (Ra28.Go.on (Ra28.next (if M.t = true then { M with npc := there M 8 i } else M)))
    by_cases h : M.t = true
    · rw [if_pos h, if_pos h]; rfl
    · rw [if_neg h, if_neg h]
  case refine_12 =>
    refine ⟨rfl, trivial, ?_⟩
    show some (Ra28.Go.on (if M.t = true then Ra28.next M else Ra28.leap M (there M 8 i))) = some (Ra28.Go.on (Ra28.next (if M.t = true then M else { M with npc := there M 8 i })))
    by_cases h : M.t = true
    · rw [if_pos h, if_pos h]
    · rw [if_neg h, if_neg h]; rfl
  case refine_14 =>
    refine ⟨rfl, trivial, ?_⟩
    show some (Ra28.Go.on (if M.t = true then Ra28.jump M (there M 8 i) else Ra28.next M)) = some (goOf M (if M.t = true then .jp M (there M 8 i) else .nx M 0))
    by_cases h : M.t = true
    · rw [if_pos h, if_pos h]; rfl
    · rw [if_neg h, if_neg h]; rfl
  case refine_16 =>
    refine ⟨rfl, trivial, ?_⟩
    show some (Ra28.Go.on (if M.t = true then Ra28.next M else Ra28.jump M (there M 8 i))) = some (goOf M (if M.t = true then .nx M 0 else .jp M (there M 8 i)))
    by_cases h : M.t = true
    · rw [if_pos h, if_pos h]; rfl
    · rw [if_neg h, if_neg h]; rfl
  all_goals first | exact ⟨rfl, rfl⟩ | exact ⟨rfl, trivial, rfl⟩
theorem agreeC (M : Ra28.M) (j i : Nat) : ∀ n, n < 16 → Agree M (some (Ra28.twelve M n i)) (barG 12 (192 + n) i (49152 + n * 256 + i)) n j i (actOf 12 n i) := by
  have hb : ∀ n, n < 16 → barG 12 (192 + n) i (49152 + n * 256 + i) = (n == 3 || n == 7) := by
    intro n hn
    unfold barG
    have e1 : ([0x000B, 0x002B] : List Nat).contains (49152 + n * 256 + i) = false := by simp; omega
    rw [e1]
    revert n
    refine lt16 ?_ ?_ ?_ ?_ ?_ ?_ ?_ ?_ ?_ ?_ ?_ ?_ ?_ ?_ ?_ ?_
    all_goals (intro _; rfl)
  intro n hn
  rw [hb n hn]
  clear hb
  revert n
  refine lt16 ?_ ?_ ?_ ?_ ?_ ?_ ?_ ?_ ?_ ?_ ?_ ?_ ?_ ?_ ?_ ?_
  case refine_1 => exact ⟨rfl, (by show 0 % 4 < 3; decide), by show _ = some (goOf M (storeE M (Ra28.plus M.gbr (1 * i)) 1 (M.r 0))); rw [Nat.one_mul]; exact some_store⟩
  case refine_2 => exact ⟨rfl, (by show 1 % 4 < 3; decide), some_store⟩
  case refine_3 => exact ⟨rfl, (by show 2 % 4 < 3; decide), some_store⟩
  case refine_5 => exact ⟨rfl, (by show 4 % 4 < 3; decide), by show _ = some (goOf M (loadE M (Ra28.plus M.gbr (1 * i)) 1 fun x => .nx (Ra28.set M 0 (wide 1 x)) 0)); rw [Nat.one_mul, go_load]; rfl⟩
  case refine_6 => exact ⟨rfl, (by show 5 % 4 < 3; decide), by simp only [effA, go_load]; rfl⟩
  case refine_7 => exact ⟨rfl, (by show 6 % 4 < 3; decide), by simp only [effA, go_load]; rfl⟩
  all_goals first | exact ⟨rfl, trivial, rfl⟩ | exact ⟨rfl, trivial, by simp only [effA, go_load]; rfl⟩
theorem match_zero (M : Ra28.M) (n j i x : Nat) (hx : 256 ≤ x) (k : Nat) : zeroG M n j k i x = zeroG M n j k i 256 := by
  unfold zeroG
  dsimp only
  split <;> try rfl
  split <;> try rfl
  split <;> first | omega | rfl
theorem act0 {n i : Nat} (hn : n ≠ 0) : actOf 0 n i = actOf 0 1 i := by
  unfold actOf boundA freeA free0
  simp only [hn, false_and, and_false, if_false, Nat.one_ne_zero, if_true]
theorem bound_lo {n i : Nat} (h : i % 16 ≠ 3) (h' : i % 16 ≠ 11) : boundA 0 n i = none := by
  have e1 : bN0 i = none := by unfold bN0; split <;> first | omega | rfl
  have e2 : bI0 i = none := by unfold bI0; split <;> first | omega | rfl
  unfold boundA
  rw [if_neg (by rw [e1]; intro q; cases q.2.2), if_pos rfl, e2]
theorem act_lo {n i : Nat} (k : Nat) (hk : i % 16 = k) (h : k ≠ 3) (h' : k ≠ 11) (c : Ac) (e : free0 n i = some c) : actOf 0 n i = some (c, false) := by
  unfold actOf
  rw [bound_lo (by omega) (by omega)]
  show (match freeA 0 n i with | some c => some (c, false) | none => none) = _
  rw [show freeA 0 n i = free0 n i from rfl, e]
theorem bar0 {n i x : Nat} (hn : n < 16) (hx : x = 256 * n + i) : barG 0 n i x = (([0x03, 0x23] : List Nat).contains i || ([0x000B, 0x002B] : List Nat).contains x) := by
  unfold barG
  have e2 : ([0x89, 0x8B, 0x8D, 0x8F, 0xC3, 0xC7] : List Nat).contains n = false := by simp; omega
  rw [e2]
  simp
theorem bar_lo {n i x : Nat} (hn : n < 16) (hi : i < 256) (hx : x = 256 * n + i) (h : i % 16 ≠ 3) (h' : i % 16 ≠ 11) : barG 0 n i x = false := by
  rw [bar0 hn hx]
  have e1 : ([0x03, 0x23] : List Nat).contains i = false := by simp; omega
  have e2 : ([0x000B, 0x002B] : List Nat).contains x = false := by simp; omega
  rw [e1, e2]; rfl
theorem agree0 (M : Ra28.M) (n : Nat) (hn : n < 16) (x : Nat) : ∀ k, k < 16 → ∀ j, j < 16 → ∀ i, i = 16 * j + k → x = 256 * n + i → Agree M (zeroG M n j k i x) (barG 0 n i x) n j i (actOf 0 n i) := by
  refine lt16 ?_ ?_ ?_ ?_ ?_ ?_ ?_ ?_ ?_ ?_ ?_ ?_ ?_ ?_ ?_ ?_
  case refine_5 | refine_6 | refine_7 =>
    intro j hj i hi hx
    rw [bar_lo hn (by omega) hx (by omega) (by omega), act_lo _ rfl (by omega) (by omega) _ (show free0 n i = some Ac.store_indexed by unfold free0; first | (rw [show i % 16 = 4 by omega]; rfl) | (rw [show i % 16 = 5 by omega]; rfl) | (rw [show i % 16 = 6 by omega]; rfl))]
    refine ⟨rfl, (by show i % 4 < 3; omega), ?_⟩
    dsimp only [effA]
    first
      | (rw [show i % 4 = 0 by omega]; exact some_store)
      | (rw [show i % 4 = 1 by omega]; exact some_store)
      | (rw [show i % 4 = 2 by omega]; exact some_store)
  case refine_13 | refine_14 | refine_15 =>
    intro j hj i hi hx
    rw [bar_lo hn (by omega) hx (by omega) (by omega), act_lo _ rfl (by omega) (by omega) _ (show free0 n i = some Ac.load_indexed by unfold free0; first | (rw [show i % 16 = 12 by omega]; rfl) | (rw [show i % 16 = 13 by omega]; rfl) | (rw [show i % 16 = 14 by omega]; rfl))]
    refine ⟨rfl, (by show i % 4 < 3; omega), ?_⟩
    dsimp only [effA]
    first
      | (rw [show i % 4 = 0 by omega, go_load]; rfl)
      | (rw [show i % 4 = 1 by omega, go_load]; rfl)
      | (rw [show i % 4 = 2 by omega, go_load]; rfl)
  case refine_8 =>
    intro j hj i hi hx
    rw [bar_lo hn (by omega) hx (by omega) (by omega), act_lo _ rfl (by omega) (by omega) _ (show free0 n i = some Ac.multiply by unfold free0; rw [show i % 16 = 7 by omega]; rfl)]
    exact ⟨rfl, trivial, rfl⟩
  case refine_16 =>
    intro j hj i hi hx
    rw [bar_lo hn (by omega) hx (by omega) (by omega), act_lo _ rfl (by omega) (by omega) .add_long_product (by unfold free0; rw [if_pos (by omega)])]
    exact ⟨rfl, trivial, some_mac⟩
  all_goals
    refine lt16 ?_ ?_ ?_ ?_ ?_ ?_ ?_ ?_ ?_ ?_ ?_ ?_ ?_ ?_ ?_ ?_ <;> intro i hi hx <;> subst hi <;> by_cases h0 : n = 0
  all_goals
    first
      | (subst h0; subst hx; first | exact ⟨rfl, rfl⟩ | exact ⟨rfl, trivial, rfl⟩ | exact ⟨rfl, (by show _ < 3; decide), rfl⟩ | exact ⟨rfl, trivial, by simp only [effA, go_load]; rfl⟩)
      | (rw [act0 h0, match_zero _ _ _ _ _ (by omega), bar0 hn hx, show ([0x000B, 0x002B] : List Nat).contains x = false by simp; omega]
         first | exact ⟨rfl, rfl⟩ | exact ⟨rfl, trivial, rfl⟩ | exact ⟨rfl, (by show _ < 3; decide), rfl⟩)
end Sh
namespace Sh
theorem bar4 {n i : Nat} (hn : n < 16) : barG 4 (64 + n) i (16384 + 256 * n + i) = ([0x0B, 0x2B] : List Nat).contains i := by
  unfold barG
  have e1 : ([0x000B, 0x002B] : List Nat).contains (16384 + 256 * n + i) = false := by simp; omega
  have e2 : ([0x89, 0x8B, 0x8D, 0x8F, 0xC3, 0xC7] : List Nat).contains (64 + n) = false := by simp; omega
  rw [e1, e2]
  simp
theorem agree4 (M : Ra28.M) (n : Nat) : ∀ k, k < 16 → ∀ j, j < 16 → ∀ i, i = 16 * j + k → Agree M (if k = 15 then some (Ra28.macAt M n j 2) else Ra28.one M n i) (([0x0B, 0x2B] : List Nat).contains i) n j i (actOf 4 n i) := by
  refine lt16 ?_ ?_ ?_ ?_ ?_ ?_ ?_ ?_ ?_ ?_ ?_ ?_ ?_ ?_ ?_ ?_
  case refine_16 =>
    intro j hj i hi
    have e1 : ([0x0B, 0x2B] : List Nat).contains i = false := by simp; omega
    have e2 : bI4 i = none := by unfold bI4; split <;> first | omega | rfl
    have e3 : actOf 4 n i = some (.add_word_product, false) := by
      show (match bI4 i with | some c => some (c, true) | none => match (if i % 16 = 15 then some Ac.add_word_product else free4 i) with | some c => some (c, false) | none => none) = _
      rw [e2, if_pos (by omega)]
    rw [e1, e3, if_pos rfl]
    exact ⟨rfl, trivial, some_mac⟩
  all_goals
    refine lt16 ?_ ?_ ?_ ?_ ?_ ?_ ?_ ?_ ?_ ?_ ?_ ?_ ?_ ?_ ?_ ?_ <;> intro i hi <;> subst hi
  all_goals
    first
      | exact ⟨rfl, rfl⟩ | exact ⟨rfl, trivial, by simp only [effA, go_load]; rfl⟩
      | exact ⟨rfl, (by show _ < 3; decide), by dsimp only [effA]; rw [go_store]; rfl⟩ | exact ⟨rfl, (by show _ < 3; decide), by dsimp only [effA]; rw [go_load]; rfl⟩ | exact ⟨rfl, (by show _ < 3; decide), rfl⟩
theorem agreeR (M : Ra28.M) (n j i : Nat) (hn : n < 16) (hj : j < 16) (hi : i < 256) (hji : j = i / 16) (k : Nat) (hk : k = i % 16) (z : Nat) (hz : z = n * 256 + i) :
    ∀ g, g < 16 → g ≠ 0 → g ≠ 4 → g ≠ 8 → g ≠ 12 → ∀ x, x = g * 4096 + n * 256 + i → Agree M (execG M g n j k i z x) (barG g (g * 16 + n) i x) n j i (actOf g n i) := by
  subst hk hz
  have hb : ∀ g, g < 16 → g ≠ 0 → g ≠ 4 → g ≠ 8 → g ≠ 12 → ∀ x, x = g * 4096 + n * 256 + i → barG g (g * 16 + n) i x = ([0x9, 0xA, 0xB, 0xD] : List Nat).contains g := by
    intro g h1 h2 h3 h4 h5 x hx
    unfold barG
    have e1 : ([0x000B, 0x002B] : List Nat).contains x = false := by simp; omega
    have e2 : ([0x89, 0x8B, 0x8D, 0x8F, 0xC3, 0xC7] : List Nat).contains (g * 16 + n) = false := by simp; omega
    have e3 : (g == 0) = false := by simp; omega
    have e4 : (g == 4) = false := by simp; omega
    rw [e1, e2, e3, e4]
    simp
  intro g h1 h2 h3 h4 h5 x hx
  rw [hb g h1 h2 h3 h4 h5 x hx]
  clear hb
  revert g
  refine lt16 ?_ ?_ ?_ ?_ ?_ ?_ ?_ ?_ ?_ ?_ ?_ ?_ ?_ ?_ ?_ ?_
  all_goals intro h1 h2 h3 h4 hx
  all_goals first | contradiction | skip
  · exact ⟨rfl, trivial, some_store⟩
  · have z := agree2 M n j i (i % 16) (by omega) rfl
    have e : actOf 2 n i = (free2 (i % 16)).map fun c => (c, false) := by
      show (match free2 (i % 16) with | some c => some (c, false) | none => none) = _
      cases free2 (i % 16) <;> rfl
    rw [e]
    exact z
  · have z := agree3 M n j i (i % 16) (by omega) rfl
    have e : actOf 3 n i = (free3 (i % 16)).map fun c => (c, false) := by
      show (match free3 (i % 16) with | some c => some (c, false) | none => none) = _
      cases free3 (i % 16) <;> rfl
    rw [e]
    exact z
  · exact ⟨rfl, trivial, by simp only [effA, go_load]; rfl⟩
  · exact agree6 M n j i (i % 16) (by omega) rfl
  · exact ⟨rfl, trivial, rfl⟩
  · exact ⟨rfl, trivial, by simp only [effA, go_load]; rfl⟩
  · exact ⟨rfl, trivial, rfl⟩
  · exact ⟨rfl, trivial, rfl⟩
  · exact ⟨rfl, trivial, by simp only [effA, go_load]; rfl⟩
  · exact ⟨rfl, trivial, rfl⟩
  · exact ⟨rfl, rfl⟩
theorem agree_word (M : Ra28.M) (x : Nat) (hx : x < 65536) : Agree M (Ra28.exec M x) (Ra28.barred x) (x / 256 % 16) (x % 256 / 16) (x % 256) (actOf (x / 4096) (x / 256 % 16) (x % 256)) := by
  rw [exec_eq, bar_eq]
  have ej : x / 16 % 16 = x % 256 / 16 := by omega
  have ek : x % 16 = x % 256 % 16 := by omega
  have ez : x % 4096 = x / 256 % 16 * 256 + x % 256 := by omega
  have eh : x / 256 = x / 4096 * 16 + x / 256 % 16 := by omega
  rw [ej, ek, ez]
  generalize hg : x / 4096 = g at *
  generalize hn : x / 256 % 16 = n at *
  generalize hi : x % 256 = i at *
  rw [eh]
  have hx' : x = g * 4096 + n * 256 + i := by omega
  have b1 : g < 16 := by omega
  have b2 : n < 16 := by omega
  have b3 : i < 256 := by omega
  by_cases c0 : g = 0
  · subst c0
    show Agree M (Ra28.zero M n (i / 16) (i % 16) x) (barG 0 (0 * 16 + n) i x) n (i / 16) i (actOf 0 n i)
    rw [zero_eq, hi, show 0 * 16 + n = n by omega]
    exact agree0 M n b2 x (i % 16) (by omega) (i / 16) (by omega) i (by omega) (by omega)
  by_cases c4 : g = 4
  · subst c4
    rw [show 4 * 16 + n = 64 + n from rfl, show x = 16384 + 256 * n + i by omega, bar4 b2]
    exact agree4 M n (i % 16) (by omega) (i / 16) (by omega) i (by omega)
  by_cases c8 : g = 8
  · subst c8
    show Agree M (Ra28.eight M n (i / 16) x) (barG 8 (8 * 16 + n) i x) n (i / 16) i (actOf 8 n i)
    rw [eight_eq, hi, show x % 16 = i % 16 by omega, show x = 32768 + n * 256 + i by omega]
    exact agree8 M (i / 16) i (i % 16) rfl n b2
  by_cases c12 : g = 12
  · subst c12
    rw [show x = 49152 + n * 256 + i by omega]
    exact agreeC M (i / 16) i n b2
  exact agreeR M n (i / 16) i b2 (by omega) b3 rfl _ rfl _ rfl g b1 c0 c4 c8 c12 x hx'
theorem go_step (M : Ra28.M) (h : ∀ q, M.mem q < 256) : goOf M (stepE M) = Ra28.step M := by
  unfold stepE Ra28.step
  by_cases h1 : M.pc % 2 = 1
  · rw [if_pos h1, if_pos h1]; rfl
  · rw [if_neg h1, if_neg h1]
    by_cases h2 : 65536 < M.pc + 2
    · rw [if_pos h2, if_pos (show Ra28.MEMORY < M.pc + 2 from h2)]; rfl
    · rw [if_neg h2, if_neg (show ¬ Ra28.MEMORY < M.pc + 2 from h2)]
      have hx : Ra28.get M M.pc 2 < 65536 := by
        have e : Ra28.get M M.pc 2 = M.mem M.pc * 256 + M.mem (M.pc + 1) := by simp [Ra28.get]
        have := h M.pc; have := h (M.pc + 1)
        omega
      have z := agree_word M (Ra28.get M M.pc 2) hx
      dsimp only
      generalize Ra28.get M M.pc 2 = x at *
      revert z
      cases actOf (x / 4096) (x / 256 % 16) (x % 256) with
      | none =>
        intro z
        obtain ⟨z1, z2⟩ := z
        rw [z1, z2, if_neg (by intro q; cases q.2)]
        rfl
      | some r =>
        obtain ⟨c, b⟩ := r
        intro z
        obtain ⟨z1, _, z2⟩ := z
        rw [z1, z2]
        dsimp only
        by_cases h3 : M.slot = true ∧ b = true
        · rw [if_pos h3, if_pos h3]; rfl
        · rw [if_neg h3, if_neg h3]; rfl
theorem ok_word {x : Nat} (hx : x < 65536) {c : Ac} {b : Bool} (e : actOf (x / 4096) (x / 256 % 16) (x % 256) = some (c, b)) : okA c (x / 256 % 16) (x % 256) := by
  have z := agree_word ⟨fun _ => 0, false, false, false, false, 0, 0, 0, 0, 0, 0, 0, false, fun _ => 0⟩ x hx
  rw [e] at z
  exact z.2.1
end Sh
namespace Sh
open PySem PyProof.Rows L2
structure Good (M : Ra28.M) : Prop where
  r : ∀ k, M.r k < 4294967296
  i : M.i < 16
  gbr : M.gbr < 4294967296
  vbr : M.vbr < 4294967296
  mac : M.mac < 18446744073709551616
  pr : M.pr < 4294967296
  pc : M.pc < 4294967296
  npc : M.npc < 4294967296
  mem : ∀ q, M.mem q < 256
structure Ad where
  p : Addr
  dx : Addr
  rg : Addr
  me : Addr
  td : Addr
  kn : Addr
def regsOf (M : Ra28.M) : List V := (List.range 22).map fun k => V.int (regV M k)
theorem regs_len (M : Ra28.M) : (regsOf M).length = 22 := by simp [regsOf]
theorem regs_get (M : Ra28.M) {k : Nat} (h : k < 22) : (regsOf M)[k]? = some (V.int (regV M k)) := by
  unfold regsOf
  rw [List.getElem?_map, List.getElem?_range h]
  rfl
theorem regV_lt {M : Ra28.M} (g : Good M) (k : Nat) : regV M k < 4294967296 := by
  unfold regV
  have := g.r k; have := g.gbr; have := g.vbr; have := g.mac; have := g.pr
  split
  · assumption
  · repeat' split
    all_goals omega
theorem regV_setR {M : Ra28.M} {k x : Nat} (hk : k < 22) (h16 : k ≠ 16) (hx : x < 4294967296) (j : Nat) (hj : j < 22) : regV (setR M k x) j = if j = k then x else regV M j := by
  by_cases h0 : k < 16
  · have e0 : setR M k x = Ra28.set M k x := if_pos h0
    rw [e0]
    by_cases e : j = k
    · rw [if_pos e]
      have e1 : regV (Ra28.set M k x) j = (Ra28.set M k x).r j := if_pos (by omega)
      rw [e1]
      exact if_pos e
    · rw [if_neg e]
      have e1 : (Ra28.set M k x).r j = M.r j := if_neg e
      unfold regV
      rw [e1]
      rfl
  · have e0 : ∀ N : Ra28.M, setR M k x = N → regV N j = (if j = k then x else regV M j) → regV (setR M k x) j = if j = k then x else regV M j := fun N q r => by rw [q]; exact r
    have hk' : k = 17 ∨ k = 18 ∨ k = 19 ∨ k = 20 ∨ k = 21 := by omega
    by_cases hj0 : j < 16
    · have e1 : regV M j = M.r j := if_pos hj0
      have e2 : regV (setR M k x) j = (setR M k x).r j := if_pos hj0
      rw [if_neg (by omega), e1, e2]
      unfold setR
      rw [if_neg h0]
      repeat' split
      all_goals rfl
    · have hj' : j = 16 ∨ j = 17 ∨ j = 18 ∨ j = 19 ∨ j = 20 ∨ j = 21 := by omega
      unfold setR regV
      rw [if_neg h0, if_neg hj0, if_neg hj0]
      rcases hk' with rfl | rfl | rfl | rfl | rfl <;> rcases hj' with rfl | rfl | rfl | rfl | rfl | rfl <;> simp <;> omega
theorem regs_set {M : Ra28.M} {k x : Nat} (hk : k < 22) (h16 : k ≠ 16) (hx : x < 4294967296) : (regsOf M).set k (V.int x) = regsOf (setR M k x) := by
  apply List.ext_getElem?
  intro j
  by_cases hj : j < 22
  · rw [regs_get _ hj, regV_setR hk h16 hx j hj]
    by_cases e : j = k
    · subst e
      rw [List.getElem?_set_self (by rw [regs_len]; exact hj), if_pos rfl]
    · rw [List.getElem?_set_ne (fun q => e q.symm), regs_get _ hj, if_neg e]
  · rw [List.getElem?_eq_none (by rw [List.length_set, regs_len]; omega), List.getElem?_eq_none (by rw [regs_len]; omega)]
theorem setR_good {M : Ra28.M} (g : Good M) {k x : Nat} (hx : x < 4294967296) : Good (setR M k x) := by
  obtain ⟨g1, g2, g3, g4, g5, g6, g7, g8, g9⟩ := g
  unfold setR
  split
  · refine ⟨fun j => ?_, g2, g3, g4, g5, g6, g7, g8, g9⟩
    show (if j = k then x else M.r j) < _
    split
    · exact hx
    · exact g1 j
  · repeat' split
    · exact ⟨g1, g2, hx, g4, g5, g6, g7, g8, g9⟩
    · exact ⟨g1, g2, g3, hx, g5, g6, g7, g8, g9⟩
    · exact ⟨g1, g2, g3, g4, (by show x * 4294967296 + M.mac % 4294967296 < _; omega), g6, g7, g8, g9⟩
    · exact ⟨g1, g2, g3, g4, (by show M.mac / 4294967296 * 4294967296 + x < _; omega), g6, g7, g8, g9⟩
    · exact ⟨g1, g2, g3, g4, g5, hx, g7, g8, g9⟩
def fsOf (a : Ad) (M : Ra28.M) (w : Nat) : List (Str × V) :=
  [("regs", .ref a.rg), ("t", .int (Ra28.bit M.t)), ("s", .int (Ra28.bit M.s)), ("q", .int (Ra28.bit M.q)), ("m", .int (Ra28.bit M.m)), ("mask", .int M.i), ("place", .int M.pc), ("follow", .int M.npc), ("waiting", .bl M.slot), ("why", .int w),
    ("memory", .ref a.me), ("touched", .ref a.td), ("known", .ref a.kn)]
structure RepC (C : Addr) (a : Ad) (M : Ra28.M) (w : Nat) (H : Hp) : Prop where
  ob : H a.p = some (.ins C a.dx (fsOf a M w))
  rg : H a.rg = some (.lst (regsOf M))
  good : Good M
def Chg (a : Ad) (H H' : Hp) : Prop := ∀ b, b ≠ a.p → b ≠ a.rg → H' b = H b
theorem Chg.refl (a : Ad) (H : Hp) : Chg a H H := fun _ _ _ => rfl
theorem Chg.trans {a : Ad} {H H1 H2 : Hp} (x : Chg a H H1) (y : Chg a H1 H2) : Chg a H H2 := fun b h1 h2 => (y b h1 h2).trans (x b h1 h2)
def memOf (M : Ra28.M) : List V := (List.range 65536).map fun q => V.int (M.mem q)
theorem mem_len (M : Ra28.M) : (memOf M).length = 65536 := by simp [memOf]
theorem mem_get (M : Ra28.M) {k : Nat} (h : k < 65536) : (memOf M)[k]? = some (V.int (M.mem k)) := by
  unfold memOf
  rw [List.getElem?_map, List.getElem?_range h]
  rfl
def TdOk (m0 : Nat → Nat) (M : Ra28.M) (td : Addr) (H : Hp) : Prop :=
  ∃ T : List Nat, H td = some (.dK (T.map fun (k : Nat) => ((Sum.inl (k : Int) : Key), V.bl true))) ∧ T.Nodup ∧ (∀ k ∈ T, k < 16384) ∧ ∀ q, q < 65536 → M.mem q ≠ m0 q → q / 4 ∈ T
structure Rep (C : Addr) (a : Ad) (m0 : Nat → Nat) (M : Ra28.M) (w : Nat) (H : Hp) : Prop extends RepC C a M w H where
  me : H a.me = some (.lst (memOf M))
  td : TdOk m0 M a.td H
  n1 : a.me ≠ a.rg
def Fra (a : Ad) (H H' : Hp) : Prop := ∀ b o, b ≠ a.p → b ≠ a.rg → b ≠ a.me → b ≠ a.td → H b = some o → H' b = some o
theorem Chg.fra {a : Ad} {H H' : Hp} (x : Chg a H H') : Fra a H H' := fun b o h1 h2 _ _ e => (x b h1 h2).trans e
theorem Fra.trans {a : Ad} {H H1 H2 : Hp} (x : Fra a H H1) (y : Fra a H1 H2) : Fra a H H2 := fun b o h1 h2 h3 h4 e => y b o h1 h2 h3 h4 (x b o h1 h2 h3 h4 e)
def Ext (H H' : Hp) : Prop := ∀ b o, H b = some o → H' b = some o
theorem Ext.trans {H H1 H2 : Hp} (x : Ext H H1) (y : Ext H1 H2) : Ext H H2 := fun b o e => y b o (x b o e)
theorem Ext.fra {a : Ad} {H H' : Hp} (x : Ext H H') : Fra a H H' := fun b o _ _ _ _ e => x b o e
theorem Ext.new {H : Hp} {p : Addr} {o : HO} (h : H p = none) : Ext H (upd H p o) := fun b u e => by rw [upd_ne (ne_of_none e h)]; exact e
theorem RepC.ext {C : Addr} {a : Ad} {M : Ra28.M} {w : Nat} {H H' : Hp} (R : RepC C a M w H) (x : Ext H H') : RepC C a M w H' := ⟨x _ _ R.ob, x _ _ R.rg, R.good⟩
theorem Rep.ext {C : Addr} {a : Ad} {m0 : Nat → Nat} {M : Ra28.M} {w : Nat} {H H' : Hp} (R : Rep C a m0 M w H) (x : Ext H H') : Rep C a m0 M w H' :=
  ⟨R.toRepC.ext x, x _ _ R.me, let ⟨T, t1, t2⟩ := R.td; ⟨T, x _ _ t1, t2⟩, R.n1⟩
theorem RepC.prg {C : Addr} {a : Ad} {M : Ra28.M} {w : Nat} {H : Hp} (R : RepC C a M w H) : a.p ≠ a.rg := ne_of R.ob R.rg (by intro q; cases q)
theorem Rep.chg {C : Addr} {a : Ad} {m0 : Nat → Nat} {M M' : Ra28.M} {w w' : Nat} {H H' : Hp} (R : Rep C a m0 M w H) (R' : RepC C a M' w' H') (c : Chg a H H') (e : M'.mem = M.mem) : Rep C a m0 M' w' H' := by
  have e1 : memOf M' = memOf M := by unfold memOf; rw [e]
  obtain ⟨T, t1, t2, t3, t4⟩ := R.td
  refine ⟨R', ?_, ⟨T, ?_, t2, t3, fun q h1 h2 => t4 q h1 (by rw [← e]; exact h2)⟩, R.n1⟩
  · rw [e1, c _ (ne_of R.me R.ob (by intro q; cases q)) R.n1]; exact R.me
  · rw [c _ (ne_of t1 R.ob (by intro q; cases q)) (ne_of t1 R.rg (by intro q; cases q))]; exact t1
def tMF (C : Addr) (a : Ad) (g : Ra28.M → Nat → V) (ta : TE) : TE := fun σ H Q => ta σ H fun x H1 => ∃ M w, x = .ref a.p ∧ RepC C a M w H1 ∧ Q (g M w) H1
section
variable {X : Cx} {C : Addr} {a : Ad} {e value : Expr} {f : Str} {pos pos' : Pos} {ta tv : TE}
theorem pe_mf {g : Ra28.M → Nat → V} (cl : Cls X.K C) (na : NoAttr X.K C f) (hl : ∀ M w, (fsOf a M w).lookup f = some (g M w)) (he : PE X e ta) (hb : attributeBase e f X.env (eval e X.env) = eval e X.env := by rfl) : PE X (.Attribute e f pos) (tMF C a g ta) := by
  intro pins s σ H Q I h
  refine attr_of hb (thn (he pins s σ H _ I h) fun u s1 ⟨x, H1, I1, rx, M, w, ex, R, q⟩ => ?_)
  subst ex
  obtain rfl : u = Value.ref a.p := rx
  exact getattr_ok I1 R.ob cl na (hl M w) fun u' s2 I2 ru => ⟨_, H1, I2, ru, q⟩
structure FW {β : Type} (f : Str) (val : β → V) (up : β → Ra28.M → Ra28.M) (uw : β → Nat → Nat) (ok : β → Prop) : Prop where
  eq : ∀ a M w b, putF f (val b) (fsOf a M w) = fsOf a (up b M) (uw b w)
  regs : ∀ M b, regsOf (up b M) = regsOf M
  good : ∀ M b, ok b → Good M → Good (up b M)
def sMF {β : Type} (C : Addr) (a : Ad) (val : β → V) (up : β → Ra28.M → Ra28.M) (uw : β → Nat → Nat) (ok : β → Prop) (ta tv : TE) : TS := fun D σ H => tv σ H fun y H1 => ta σ H1 fun x H2 =>
  ∃ M w b, x = .ref a.p ∧ y = val b ∧ ok b ∧ RepC C a M w H2 ∧ ∀ H3, RepC C a (up b M) (uw b w) H3 → Chg a H2 H3 → D.nx σ H3
theorem ps_mf {β : Type} {val : β → V} {up : β → Ra28.M → Ra28.M} {uw : β → Nat → Nat} {ok : β → Prop} (W : FW f val up uw ok) (cl : Cls X.K C) (na : NoAttr X.K C f) (ha : PE X e ta) (hv : PE X value tv)
    (hs : swapsWith value (some (.Attribute e f pos')) pos.line X.env = pure false := by rfl) : PS X (.Assign [.Attribute e f pos'] value pos) (sMF C a val up uw ok ta tv) := by
  intro pins s σ H D I h
  refine plainObj_wpAny_Assign_Attribute (thn (hv pins s σ H _ I h) fun u s1 ⟨y, H1, I1, ry, q⟩ => thn (ha pins s1 σ H1 _ I1 q) fun ov s2 ⟨x, H2, I2, rx, M, w, b, ex, ey, hb, R, q2⟩ => ?_) hs
  subst ex ey
  obtain rfl : ov = Value.ref a.p := rx
  refine setattr_ok I2 R.ob cl na (by show 13 < 1000; decide) ry fun s3 I3 => ⟨σ, _, I3, q2 _ ⟨?_, ?_, W.good M b hb R.good⟩ fun c h1 _ => upd_ne h1⟩
  · rw [upd_same, W.eq]
  · rw [upd_ne (Ne.symm R.prg), W.regs]; exact R.rg
def rReg (C : Addr) (a : Ad) : R2 := fun x y H Q => ∃ M w, ∃ k : Nat, x = .ref a.rg ∧ y = .int k ∧ k < 22 ∧ RepC C a M w H ∧ Q (.int (regV M k)) H
theorem ix_reg : IxR X (rReg C a) := by
  intro value slice pins s σ H x y v u Q I rx ry h hs
  obtain ⟨M, w, k, ex, ey, hk, R, q⟩ := h
  exact ix_list value slice pins s σ H x y v u Q I rx ry ⟨a.rg, _, k, _, ex, ey, SqL.of R.rg, atI_nat (regs_get M hk), q⟩ hs
def sReg (C : Addr) (a : Ad) : TSet := fun o i v H Q => ∃ M w, ∃ k x : Nat, o = .ref a.rg ∧ i = .int k ∧ v = .int x ∧ k < 22 ∧ k ≠ 16 ∧ x < 4294967296 ∧ RepC C a M w H ∧ ∀ H', RepC C a (setR M k x) w H' → Chg a H H' → Q H'
theorem ixN_nat {n k : Nat} (h : k < n) : ixN n (k : Int) = some k := by
  unfold ixN
  rw [if_pos (by omega), if_pos (by omega), Int.toNat_natCast]
theorem fs_setR (M : Ra28.M) (w k x : Nat) : fsOf a (setR M k x) w = fsOf a M w := by
  unfold setR
  repeat' split
  all_goals rfl
theorem set_reg : PSet X (sReg C a) := by
  intro pins s σ H o i v ov iv u Q I ro ri rv h
  obtain ⟨M, w, k, x, eo, ei, ev, hk, h16, hx, R, q⟩ := h
  subst ev
  refine set_list pins s σ H o i _ ov iv u Q I ro ri rv ⟨a.rg, _, k, k, eo, ei, R.rg, ixN_nat (by rw [regs_len]; exact hk), q _ ⟨?_, ?_, setR_good R.good hx⟩ fun c _ h2 => upd_ne h2⟩
  · rw [upd_ne R.prg, fs_setR]; exact R.ob
  · rw [upd_same, regs_set hk h16 hx]
theorem get_reg : PGet X (rReg C a) := by
  intro pins s σ H o i ov iv Q I ro ri h
  obtain ⟨M, w, k, eo, ei, hk, R, q⟩ := h
  subst eo ei
  cases ro
  obtain ⟨t, rfl⟩ := ri
  obtain ⟨its, r, pl, hz⟩ := I.list (SqL.of R.rg)
  obtain ⟨w', ew, rw'⟩ := r.get (regs_get M hk)
  exact wpAny_getItem_list pl.isList (by omega) (by omega) (by simpa using ew) ⟨_, H, I, rw', q⟩
def tIf01 (t : TT) : TE := fun σ H Q => t σ H fun c H1 => Q (.int (Ra28.bit c)) H1
theorem pe_if01 {c : Expr} {t : TT} {j1 j2 p1 p2} (hc : PT X c t) : PE X (.IfExp c (.Constant (.int 1) j1 p1) (.Constant (.int 0) j2 p2) pos) (tIf01 t) := by
  intro pins s σ H Q I h
  refine wpAny_IfExp (thn (hc pins s σ H _ I h) fun d s1 ⟨H1, I1, q1⟩ => ?_)
  cases d with
  | true => exact pe_int pins s1 σ H1 Q I1 q1
  | false => exact pe_int pins s1 σ H1 Q I1 q1
def tIf10 (t : TT) : TE := fun σ H Q => t σ H fun c H1 => Q (.int (Ra28.bit (!c))) H1
theorem pe_if10 {c : Expr} {t : TT} {j1 j2 p1 p2} (hc : PT X c t) : PE X (.IfExp c (.Constant (.int 0) j1 p1) (.Constant (.int 1) j2 p2) pos) (tIf10 t) := by
  intro pins s σ H Q I h
  refine wpAny_IfExp (thn (hc pins s σ H _ I h) fun d s1 ⟨H1, I1, q1⟩ => ?_)
  cases d with
  | true => exact pe_int pins s1 σ H1 Q I1 q1
  | false => exact pe_int pins s1 σ H1 Q I1 q1
end
theorem fw_t : FW "t" (fun b : Bool => V.int (Ra28.bit b)) (fun b M => { M with t := b }) (fun _ w => w) fun _ => True := ⟨fun _ _ _ _ => rfl, fun _ _ => rfl, fun _ _ _ ⟨g1, g2, g3, g4, g5, g6, g7, g8, g9⟩ => ⟨g1, g2, g3, g4, g5, g6, g7, g8, g9⟩⟩
theorem fw_s : FW "s" (fun b : Bool => V.int (Ra28.bit b)) (fun b M => { M with s := b }) (fun _ w => w) fun _ => True := ⟨fun _ _ _ _ => rfl, fun _ _ => rfl, fun _ _ _ ⟨g1, g2, g3, g4, g5, g6, g7, g8, g9⟩ => ⟨g1, g2, g3, g4, g5, g6, g7, g8, g9⟩⟩
theorem fw_q : FW "q" (fun b : Bool => V.int (Ra28.bit b)) (fun b M => { M with q := b }) (fun _ w => w) fun _ => True := ⟨fun _ _ _ _ => rfl, fun _ _ => rfl, fun _ _ _ ⟨g1, g2, g3, g4, g5, g6, g7, g8, g9⟩ => ⟨g1, g2, g3, g4, g5, g6, g7, g8, g9⟩⟩
theorem fw_m : FW "m" (fun b : Bool => V.int (Ra28.bit b)) (fun b M => { M with m := b }) (fun _ w => w) fun _ => True := ⟨fun _ _ _ _ => rfl, fun _ _ => rfl, fun _ _ _ ⟨g1, g2, g3, g4, g5, g6, g7, g8, g9⟩ => ⟨g1, g2, g3, g4, g5, g6, g7, g8, g9⟩⟩
theorem fw_mask : FW "mask" (fun x : Nat => V.int x) (fun x M => { M with i := x }) (fun _ w => w) fun x => x < 16 := ⟨fun _ _ _ _ => rfl, fun _ _ => rfl, fun _ _ h ⟨g1, g2, g3, g4, g5, g6, g7, g8, g9⟩ => ⟨g1, h, g3, g4, g5, g6, g7, g8, g9⟩⟩
theorem fw_place : FW "place" (fun x : Nat => V.int x) (fun x M => { M with pc := x }) (fun _ w => w) fun x => x < 4294967296 := ⟨fun _ _ _ _ => rfl, fun _ _ => rfl, fun _ _ h ⟨g1, g2, g3, g4, g5, g6, g7, g8, g9⟩ => ⟨g1, g2, g3, g4, g5, g6, h, g8, g9⟩⟩
theorem fw_follow : FW "follow" (fun x : Nat => V.int x) (fun x M => { M with npc := x }) (fun _ w => w) fun x => x < 4294967296 := ⟨fun _ _ _ _ => rfl, fun _ _ => rfl, fun _ _ h ⟨g1, g2, g3, g4, g5, g6, g7, g8, g9⟩ => ⟨g1, g2, g3, g4, g5, g6, g7, h, g9⟩⟩
theorem fw_waiting : FW "waiting" (fun b : Bool => V.bl b) (fun b M => { M with slot := b }) (fun _ w => w) fun _ => True := ⟨fun _ _ _ _ => rfl, fun _ _ => rfl, fun _ _ _ ⟨g1, g2, g3, g4, g5, g6, g7, g8, g9⟩ => ⟨g1, g2, g3, g4, g5, g6, g7, g8, g9⟩⟩
theorem fw_why : FW "why" (fun x : Nat => V.int x) (fun _ M => M) (fun x _ => x) fun _ => True := ⟨fun _ _ _ _ => rfl, fun _ _ => rfl, fun _ _ _ g => g⟩
structure Tx (K : PySem.W.Frag) (mg : Str → Option Value) (C : Addr) : Prop where
  cl : Cls K C
  nRegs : NoAttr K C "regs"
  nT : NoAttr K C "t"
  nS : NoAttr K C "s"
  nQ : NoAttr K C "q"
  nM : NoAttr K C "m"
  nMask : NoAttr K C "mask"
  nPlace : NoAttr K C "place"
  nFollow : NoAttr K C "follow"
  nWait : NoAttr K C "waiting"
  nWhy : NoAttr K C "why"
  nMem : NoAttr K C "memory"
  nTd : NoAttr K C "touched"
  nKn : NoAttr K C "known"
  MASK : ∃ t, mg "MASK" = some (.int 4294967295 t)
  MASK_64 : ∃ t, mg "MASK_64" = some (.int 18446744073709551615 t)
  SIZE : ∃ t, mg "SIZE" = some (.int 65536 t)
  STATUS : ∃ t, mg "STATUS" = some (.int 16 t)
  GBR : ∃ t, mg "GBR" = some (.int 17 t)
  MACH : ∃ t, mg "MACH" = some (.int 19 t)
  MACL : ∃ t, mg "MACL" = some (.int 20 t)
  PR : ∃ t, mg "PR" = some (.int 21 t)
  PLACE : ∃ t, mg "PLACE" = some (.int 22 t)
section
variable {X : Cx} {C : Addr} (T : Tx X.K X.mg C) {e : Expr} {pos : Pos} {ta : TE} (a : Ad)
include T
theorem f_regs (he : PE X e ta) (hb : attributeBase e "regs" X.env (eval e X.env) = eval e X.env := by rfl) : PE X (.Attribute e "regs" pos) (tMF C a (fun _ _ => .ref a.rg) ta) := pe_mf T.cl T.nRegs (fun _ _ => rfl) he hb
theorem f_t (he : PE X e ta) (hb : attributeBase e "t" X.env (eval e X.env) = eval e X.env := by rfl) : PE X (.Attribute e "t" pos) (tMF C a (fun M _ => .int (Ra28.bit M.t)) ta) := pe_mf T.cl T.nT (fun _ _ => rfl) he hb
theorem f_s (he : PE X e ta) (hb : attributeBase e "s" X.env (eval e X.env) = eval e X.env := by rfl) : PE X (.Attribute e "s" pos) (tMF C a (fun M _ => .int (Ra28.bit M.s)) ta) := pe_mf T.cl T.nS (fun _ _ => rfl) he hb
theorem f_q (he : PE X e ta) (hb : attributeBase e "q" X.env (eval e X.env) = eval e X.env := by rfl) : PE X (.Attribute e "q" pos) (tMF C a (fun M _ => .int (Ra28.bit M.q)) ta) := pe_mf T.cl T.nQ (fun _ _ => rfl) he hb
theorem f_m (he : PE X e ta) (hb : attributeBase e "m" X.env (eval e X.env) = eval e X.env := by rfl) : PE X (.Attribute e "m" pos) (tMF C a (fun M _ => .int (Ra28.bit M.m)) ta) := pe_mf T.cl T.nM (fun _ _ => rfl) he hb
theorem f_mask (he : PE X e ta) (hb : attributeBase e "mask" X.env (eval e X.env) = eval e X.env := by rfl) : PE X (.Attribute e "mask" pos) (tMF C a (fun M _ => .int M.i) ta) := pe_mf T.cl T.nMask (fun _ _ => rfl) he hb
theorem f_place (he : PE X e ta) (hb : attributeBase e "place" X.env (eval e X.env) = eval e X.env := by rfl) : PE X (.Attribute e "place" pos) (tMF C a (fun M _ => .int M.pc) ta) := pe_mf T.cl T.nPlace (fun _ _ => rfl) he hb
theorem f_follow (he : PE X e ta) (hb : attributeBase e "follow" X.env (eval e X.env) = eval e X.env := by rfl) : PE X (.Attribute e "follow" pos) (tMF C a (fun M _ => .int M.npc) ta) := pe_mf T.cl T.nFollow (fun _ _ => rfl) he hb
theorem f_waiting (he : PE X e ta) (hb : attributeBase e "waiting" X.env (eval e X.env) = eval e X.env := by rfl) : PE X (.Attribute e "waiting" pos) (tMF C a (fun M _ => .bl M.slot) ta) := pe_mf T.cl T.nWait (fun _ _ => rfl) he hb
theorem f_why (he : PE X e ta) (hb : attributeBase e "why" X.env (eval e X.env) = eval e X.env := by rfl) : PE X (.Attribute e "why" pos) (tMF C a (fun _ w => .int w) ta) := pe_mf T.cl T.nWhy (fun _ _ => rfl) he hb
theorem f_memory (he : PE X e ta) (hb : attributeBase e "memory" X.env (eval e X.env) = eval e X.env := by rfl) : PE X (.Attribute e "memory" pos) (tMF C a (fun _ _ => .ref a.me) ta) := pe_mf T.cl T.nMem (fun _ _ => rfl) he hb
theorem f_touched (he : PE X e ta) (hb : attributeBase e "touched" X.env (eval e X.env) = eval e X.env := by rfl) : PE X (.Attribute e "touched" pos) (tMF C a (fun _ _ => .ref a.td) ta) := pe_mf T.cl T.nTd (fun _ _ => rfl) he hb
theorem f_known (he : PE X e ta) (hb : attributeBase e "known" X.env (eval e X.env) = eval e X.env := by rfl) : PE X (.Attribute e "known" pos) (tMF C a (fun _ _ => .ref a.kn) ta) := pe_mf T.cl T.nKn (fun _ _ => rfl) he hb
end
theorem pe_num {X : Cx} {x : Str} {z : Int} {pos : Pos} (h : ∃ t, X.mg x = some (.int z t)) (hg : Gl X x := by rfl) (hd : (x == ("__debug__" : Str)) = false := by decide) : PE X (.Name x pos) (tC (.int z)) := by
  obtain ⟨t, e⟩ := h
  exact pe_glob hg e ⟨t, rfl⟩ hd
def effQ (C : Addr) (xs : Xs) (a : Ad) (m0 : Nat → Nat) (H : Hp) (Q : VK) (E : XK) : Eff → Prop
  | .nx M w => ∀ H', Rep C a m0 M w H' → Fra a H H' → Q .non H'
  | .jp M t => ∀ H', Rep C a m0 M 0 H' → Fra a H H' → Q (.int t) H'
  | .ex c => E (.ref (if c = 3 then xs.nm else xs.nw)) none H
abbrev P4 : List Str := ["machine", "n", "m", "i"]
def spAct (C : Addr) (xs : Xs) (ok : Nat → Nat → Prop) (eff : Ra28.M → Nat → Nat → Nat → Eff) : Sp := fun vs H Q E => ∃ (a : Ad) (m0 : Nat → Nat) (M : Ra28.M) (n j i : Nat), vs = [.ref a.p, .int n, .int j, .int i] ∧ Rep C a m0 M 0 H ∧
  n < 16 ∧ j < 16 ∧ i < 256 ∧ j = i / 16 ∧ M.pc < 65536 ∧ ok n i ∧ effQ C xs a m0 H Q E (eff M n j i)
section
variable {P : Program} {w : World} {K : PySem.W.Frag} {mg : Str → Option Value} {base : Heap}
theorem act_ok {x : Str} {st : Stmt} {f C : Addr} {xs : Xs} {fd : FuncData} {N : List Str} {k : Nat} {ok : Nat → Nat → Prop} {eff : Ra28.M → Nat → Nat → Nat → Eff} (F : Fun K x x st f fd) (S : FnScope N P4 (defScope st))
    (h : ∀ (cdv : Value) (A : Around) (outer : List Env) (s : Shared) (H : Hp) (Q : VK) (E : XK) (a : Ad) (m0 : Nat → Nat) (M : Ra28.M) (n j i : Nat), Room k (A.deeper (envOfC x (defScope st) s.heap.objs.size f cdv)) → Rep C a m0 M 0 H →
      n < 16 → j < 16 → i < 256 → j = i / 16 → M.pc < 65536 → ok n i → effQ C xs a m0 H Q E (eff M n j i) →
      ∃ t, PSs (cxE P w K mg base N x (defScope st) f cdv A outer s H E) (defBody st) t ∧ t { nx := fun _ H' => Q .non H', rt := Q } (start N [.ref a.p, .int n, .int j, .int i]) H) :
    FnOk P w K mg base (CXE P w) (k + 1) f fd P4 (spAct C xs ok eff) := by
  refine F.okE S (fun vs H Q E z => ?_) fun cdv A outer s H vs Q E hr z => ?_
  · obtain ⟨a, m0, M, n, j, i, rfl, _⟩ := z
    rfl
  · obtain ⟨a, m0, M, n, j, i, rfl, R, h1, h2, h3, h4, h5, h6, h7⟩ := z
    exact h cdv A outer s H Q E a m0 M n j i hr R h1 h2 h3 h4 h5 h6 h7
end
end Sh
namespace Sh
open PySem PyProof.Rows L2
theorem toNat_mod {x : Int} (h : 0 ≤ x) (n : Nat) : ((x.toNat % n : Nat) : Int) = x % (n : Int) := by
  obtain ⟨y, rfl⟩ : ∃ y : Nat, x = y := ⟨x.toNat, by omega⟩
  simp
theorem and_mask (x : Int) (k : Nat) : Builtin.bitAnd x (2 ^ k - 1) = x % 2 ^ k := by
  have e : ((2 : Int) ^ k) = ((2 ^ k : Nat) : Int) := by simp
  have hp := Nat.two_pow_pos k
  rw [e]
  generalize hk : (2 ^ k : Nat) = m at *
  have h0 : (0 : Int) ≤ (m : Int) - 1 := by omega
  have ht : ((m : Int) - 1).toNat = 2 ^ k - 1 := by rw [hk]; omega
  by_cases hx : 0 ≤ x
  · rw [bitAnd_pp hx h0, ht, Nat.and_two_pow_sub_one_eq_mod, hk, toNat_mod hx]
  · rw [bitAnd_np hx h0, ht, Nat.and_comm, Nat.and_two_pow_sub_one_eq_mod, hk]
    unfold Builtin.bitNot
    rw [toNat_mod (by omega)]
    have d := Int.emod_add_mul_ediv x (m : Int)
    have a1 := Int.emod_nonneg x (b := (m : Int)) (by omega)
    have a2 := Int.emod_lt_of_pos x (b := (m : Int)) (by omega)
    have e1 : -x - 1 = ((m : Int) - 1 - x % (m : Int)) + (m : Int) * (-(x / (m : Int)) - 1) := by
      rw [Int.mul_sub, Int.mul_neg, Int.mul_one]
      omega
    have a3 : (-x - 1) % (m : Int) = (m : Int) - 1 - x % (m : Int) := by
      rw [e1, Int.add_mul_emod_self_left]
      exact Int.emod_eq_of_lt (by omega) (by omega)
    omega
theorem and_nn (x y : Nat) : Builtin.bitAnd (x : Int) (y : Int) = ((x &&& y : Nat) : Int) := by rw [bitAnd_pp (by omega) (by omega)]; rfl
theorem not_not (x : Int) : Builtin.bitNot (Builtin.bitNot x) = x := by unfold Builtin.bitNot; omega
theorem or_nn (x y : Nat) : Builtin.bitOr (x : Int) (y : Int) = ((x ||| y : Nat) : Int) := by
  unfold Builtin.bitOr
  rw [bitAnd_nn (by unfold Builtin.bitNot; omega) (by unfold Builtin.bitNot; omega), not_not, not_not, not_not]
  rfl
theorem xor_and_or : ∀ (x y : Nat), (x ^^^ y) + (x &&& y) = x ||| y := by
  intro x
  induction x using Nat.strongRecOn with
  | _ x ih =>
    intro y
    by_cases h : x = 0
    · subst h; simp
    · have ih2 := ih (x / 2) (by omega) (y / 2)
      have d1 := Nat.xor_div_two (a := x) (b := y)
      have d2 := Nat.and_div_two (a := x) (b := y)
      have d3 := Nat.or_div_two (a := x) (b := y)
      have m1 : (x ^^^ y) % 2 = (x % 2) ^^^ (y % 2) := Nat.xor_mod_two_pow (a := x) (b := y) (n := 1)
      have m2 : (x &&& y) % 2 = (x % 2) &&& (y % 2) := Nat.and_mod_two_pow (a := x) (b := y) (n := 1)
      have m3 : (x ||| y) % 2 = (x % 2) ||| (y % 2) := Nat.or_mod_two_pow (a := x) (b := y) (n := 1)
      rw [← d1, ← d2, ← d3] at ih2
      have c1 : x % 2 = 0 ∨ x % 2 = 1 := by omega
      have c2 : y % 2 = 0 ∨ y % 2 = 1 := by omega
      have m : (x ^^^ y) % 2 + (x &&& y) % 2 = (x ||| y) % 2 := by
        rw [m1, m2, m3]
        rcases c1 with c1 | c1 <;> rcases c2 with c2 | c2 <;> rw [c1, c2] <;> decide
      omega
theorem xor_nn (x y : Nat) : Builtin.bitXor (x : Int) (y : Int) = ((x ^^^ y : Nat) : Int) := by
  unfold Builtin.bitXor
  rw [or_nn, and_nn]
  have h := xor_and_or x y
  omega
theorem and_or (x y : Nat) : (x &&& y) + (x ||| y) = x + y := by
  have h := bitOr_and (x : Int) (y : Int)
  rw [or_nn, and_nn] at h
  omega
def sg (k : Nat) (v : Int) : Int := if v % 2 ^ k < 2 ^ (k - 1) then v % 2 ^ k else v % 2 ^ k - 2 ^ k
theorem sg_nat (k v : Nat) : sg k (v : Int) = Ra28.signed k v := by
  unfold sg Ra28.signed
  have e : ((v : Int) % 2 ^ k) = ((v % 2 ^ k : Nat) : Int) := by simp
  have e1 : ((2 : Int) ^ (k - 1)) = ((2 ^ (k - 1) : Nat) : Int) := by simp
  rw [e, e1]
  by_cases h : v % 2 ^ k < 2 ^ (k - 1)
  · rw [if_pos h, if_pos (by omega)]
  · rw [if_neg h, if_neg (by omega)]
theorem sg_eq {k : Nat} (hk : 1 ≤ k) (v : Int) : Builtin.bitXor (Builtin.bitAnd v (2 * 2 ^ (k - 1) - 1)) (2 ^ (k - 1)) - 2 ^ (k - 1) = sg k v := by
  obtain ⟨j, rfl⟩ : ∃ j, k = j + 1 := ⟨k - 1, by omega⟩
  have e0 : (2 : Int) * 2 ^ (j + 1 - 1) - 1 = 2 ^ (j + 1) - 1 := by rw [Nat.add_sub_cancel, Int.pow_succ]; omega
  rw [e0, and_mask, Nat.add_sub_cancel]
  unfold sg
  rw [Nat.add_sub_cancel]
  have hp : (0 : Int) < 2 ^ (j + 1) := Int.pow_pos (by decide)
  have a1 := Int.emod_nonneg v (b := (2 : Int) ^ (j + 1)) (by omega)
  have a2 := Int.emod_lt_of_pos v (b := (2 : Int) ^ (j + 1)) hp
  obtain ⟨y, hy⟩ : ∃ y : Nat, v % (2 : Int) ^ (j + 1) = y := ⟨(v % (2 : Int) ^ (j + 1)).toNat, by omega⟩
  rw [hy] at a2 ⊢
  have e1 : ((2 : Int) ^ j) = ((2 ^ j : Nat) : Int) := by simp
  have e2 : ((2 : Int) ^ (j + 1)) = ((2 * 2 ^ j : Nat) : Int) := by rw [Int.pow_succ]; simp; omega
  rw [e2] at a2 ⊢
  rw [e1, bitXor_and, and_nn]
  have hj := Nat.two_pow_pos j
  have ao := and_or y (2 ^ j)
  by_cases q : 2 ^ j ≤ y
  · rw [if_neg (by omega)]
    have z1 : (y - 2 ^ j) ||| 2 ^ j = y := by rw [Nat.or_two_pow_eq_add_of_lt (by omega)]; omega
    have z2 : y ||| 2 ^ j = y := by
      have : ((y - 2 ^ j) ||| 2 ^ j) ||| 2 ^ j = (y - 2 ^ j) ||| 2 ^ j := by rw [Nat.or_assoc, Nat.or_self]
      rwa [z1] at this
    omega
  · rw [if_pos (by omega)]
    have z1 := Nat.or_two_pow_eq_add_of_lt (a := y) (n := j) (by omega)
    omega
theorem plus_eq (x y : Nat) : Builtin.bitAnd ((x : Int) + (y : Int)) 4294967295 = ((Ra28.plus x y : Nat) : Int) := by
  rw [bitAnd_m32]
  show ((x : Int) + y) % 4294967296 = (((x + y) % 4294967296 : Nat) : Int)
  omega
theorem plus_lt (x y : Nat) : Ra28.plus x y < 4294967296 := Nat.mod_lt _ (by decide)
theorem minus_eq {x y : Nat} (hy : y < 4294967296) : Builtin.bitAnd ((x : Int) - (y : Int)) 4294967295 = ((Ra28.minus x y : Nat) : Int) := by
  rw [bitAnd_m32]
  show ((x : Int) - y) % 4294967296 = (((x + 4294967296 - y) % 4294967296 : Nat) : Int)
  omega
theorem minus_lt (x y : Nat) : Ra28.minus x y < 4294967296 := Nat.mod_lt _ (by decide)
theorem wrap_eq (z : Int) : Builtin.bitAnd z 4294967295 = ((Ra28.wrap z : Nat) : Int) := by
  rw [bitAnd_m32]
  show z % 4294967296 = (((z % 4294967296).toNat : Nat) : Int)
  have := Int.emod_nonneg z (b := 4294967296) (by decide)
  omega
theorem wrap_lt (z : Int) : Ra28.wrap z < 4294967296 := by
  show (z % 4294967296).toNat < 4294967296
  have := Int.emod_lt_of_pos z (b := 4294967296) (by decide)
  omega
theorem mod_eq (x : Nat) : Builtin.bitAnd (x : Int) 4294967295 = ((x % 4294967296 : Nat) : Int) := by
  rw [bitAnd_m32]; omega
theorem bit_lt (b : Bool) : Ra28.bit b < 2 := by cases b <;> decide
end Sh
namespace Sh
open PySem PyProof.Rows L2
def Cal (P : Program) (w : World) (K : PySem.W.Frag) (mg : Str → Option Value) (base : Heap) (x : Str) (ps : List Str) (sp : Sp) (k : Nat) : Prop :=
  ∃ (f : Addr) (fd : FuncData), mg x = some (.ref f) ∧ PySem.W.keepIn K (.ref f) = true ∧ Binds K fd ps [] ∧ FnOk P w K mg base (CXE P w) k f fd ps sp
def Mth (P : Program) (w : World) (K : PySem.W.Frag) (mg : Str → Option Value) (base : Heap) (C : Addr) (m : Str) (ps : List Str) (sp : Sp) (k : Nat) : Prop :=
  ∃ (f : Addr) (fd : FuncData), Meth K C m f ∧ Binds K fd ps [] ∧ FnOk P w K mg base (CXE P w) k f fd ps sp
def tMM (C : Addr) (a : Ad) (sp : Sp) (E : XK) (ta : TE) (t : TA) : TE := fun σ H Q => ta σ H fun x H1 => ∃ M w, x = .ref a.p ∧ RepC C a M w H1 ∧ t σ H1 fun vs H2 => sp (.ref a.p :: vs) H2 Q E
section
variable {X : Cx} {C : Addr} {a : Ad} {x m : Str} {ps : List Str} {sp : Sp} {k : Nat} {E : XK} {o e : Expr} {es : List Expr} {p pos apos : Pos} {ta : TE} {t : TA}
theorem pe_c (G : Cal X.prog X.w X.K X.mg X.base x ps sp k) (hr : Room k X.A) (hx : Passes (CXE X.prog X.w) X E) (ha : PA X (e :: es) t) (hg : Gl X x := by rfl) (hdb : (x == ("__debug__" : Str)) = false := by decide)
    (he : starEach (e :: es) X.env = (false, eval e X.env) :: starEach es X.env := by rfl) (hpl : (backTo pos (starEach es X.env)).any (·.1) = false := by rfl) : PE X (.Call (.Name x p) (e :: es) [] pos) (tCall sp [] E t) := by
  obtain ⟨f, fd, hm, hk, hb, F⟩ := G
  exact pe_call F hr hg hm hk hb .nil hx ha hdb he hpl
theorem pe_mm {pl : Sem Bool} (cl : Cls X.K C) (G : Mth X.prog X.w X.K X.mg X.base C m ps sp k) (hr : Room k X.A) (hx : Passes (CXE X.prog X.w) X E) (ho : PE X o ta) (ha : PA X (e :: es) t) (hl : ∀ M w, (fsOf a M w).lookup m = none := by intros; rfl)
    (hst : starEach (e :: es) X.env = (false, eval e X.env) :: starEach es X.env := by rfl) (hpl : (backTo pos (starEach es X.env)).any (·.1) = false := by rfl)
    (ht : eval (.Call (.Attribute o m apos) (e :: es) [] pos) X.env = (do
      let ov ← eval o X.env
      standAt apos.atName
      let (f, first) ← holding [ov] (getMethod ov m pl)
      callWith pos f first (backTo pos (starEach (e :: es) X.env)) (backToKw pos (keywordEach [] X.env))) := by rfl) :
    PE X (.Call (.Attribute o m apos) (e :: es) [] pos) (tMM C a sp E ta t) := by
  obtain ⟨f, fd, hm, hb, F⟩ := G
  intro pins s σ H Q I h
  refine PySem.W.methodCall_KW (pl := pl) (thn (ho pins s σ H _ I h) fun u s1 ⟨x, H1, I1, rx, M, w, ex, R, q⟩ => ?_) ht
  subst ex
  obtain rfl : u = Value.ref a.p := rx
  refine getmeth_ok I1 R.ob cl hm (hl M w) ?_
  refine PySem.W.callWith_K (first := [.ref a.p]) (h₀ := X.base) I.ok.mod.kin hm.kp (thn (ha pos pins s1 σ H1 _ I1 q) fun us s2 ⟨vs, H2, I2, r, q2⟩ => ⟨I2.kIn, ?_⟩) hst hpl
  exact run_fn (us := .ref a.p :: us) (vs := .ref a.p :: vs) (dvs := []) (ds := []) F hr hb .nil hx I2 (.cons rfl r) (by rw [List.append_nil]; exact q2)
end
def rR (C : Addr) (a : Ad) : R2 := fun x y H Q => ∃ M w, ∃ k : Nat, x = .ref a.rg ∧ y = .int k ∧ k < 16 ∧ RepC C a M w H ∧ Q (.int (M.r k)) H
def sR (C : Addr) (a : Ad) : TSet := fun o i v H Q => ∃ M w, ∃ k x : Nat, o = .ref a.rg ∧ i = .int k ∧ v = .int x ∧ k < 16 ∧ x < 4294967296 ∧ RepC C a M w H ∧ ∀ H', RepC C a (Ra28.set M k x) w H' → Chg a H H' → Q H'
def rMem (C : Addr) (a : Ad) : R2 := fun x y H Q => ∃ m0 M w, ∃ k : Nat, x = .ref a.me ∧ y = .int k ∧ k < 65536 ∧ Rep C a m0 M w H ∧ Q (.int (M.mem k)) H
theorem setR_r {M : Ra28.M} {k x : Nat} (h : k < 16) : setR M k x = Ra28.set M k x := if_pos h
theorem regV_r {M : Ra28.M} {k : Nat} (h : k < 16) : regV M k = M.r k := if_pos h
section
variable {X : Cx} {C : Addr} {a : Ad}
theorem ix_r : IxR X (rR C a) := by
  intro value slice pins s σ H x y v u Q I rx ry h hs
  obtain ⟨M, w, k, ex, ey, hk, R, q⟩ := h
  exact ix_reg (C := C) (a := a) value slice pins s σ H x y v u Q I rx ry ⟨M, w, k, ex, ey, by omega, R, by rw [regV_r hk]; exact q⟩ hs
theorem get_r : PGet X (rR C a) := by
  intro pins s σ H o i ov iv Q I ro ri h
  obtain ⟨M, w, k, eo, ei, hk, R, q⟩ := h
  exact get_reg (C := C) (a := a) pins s σ H o i ov iv Q I ro ri ⟨M, w, k, eo, ei, by omega, R, by rw [regV_r hk]; exact q⟩
theorem set_r : PSet X (sR C a) := by
  intro pins s σ H o i v ov iv u Q I ro ri rv h
  obtain ⟨M, w, k, x, eo, ei, ev, hk, hx, R, q⟩ := h
  exact set_reg (C := C) (a := a) pins s σ H o i v ov iv u Q I ro ri rv ⟨M, w, k, x, eo, ei, ev, by omega, by omega, hx, R, by rw [setR_r hk]; exact q⟩
theorem ix_mem : IxR X (rMem C a) := by
  intro value slice pins s σ H x y v u Q I rx ry h hs
  obtain ⟨m0, M, w, k, ex, ey, hk, R, q⟩ := h
  exact ix_list value slice pins s σ H x y v u Q I rx ry ⟨a.me, _, k, _, ex, ey, SqL.of R.me, atI_nat (mem_get M hk), q⟩ hs
end
theorem cpow {x : Nat} {c : Int} (hx : x < 18446744073709551616) (h0 : 0 ≤ c) (h1 : c ≤ 1000000) : CPow (x : Int) c := ⟨h0, h1, by
  rw [Int.natAbs_natCast]
  exact hx⟩
def ldQ (xs : Xs) (H : Hp) (E : XK) (p n : Nat) (r : Prop) : Prop := if p % n ≠ 0 then E (.ref xs.nm) none H else if 65536 < p + n then E (.ref xs.nw) none H else r
theorem ldQ_load {C : Addr} {xs : Xs} {a : Ad} {m0 : Nat → Nat} {H : Hp} {Q : VK} {E : XK} {M : Ra28.M} {p n : Nat} {g : Nat → Eff} {r : Prop} (k : effQ C xs a m0 H Q E (loadE M p n g)) (h : effQ C xs a m0 H Q E (g (Ra28.get M p n)) → r) : ldQ xs H E p n r := by
  unfold loadE at k
  unfold ldQ
  by_cases h1 : p % n ≠ 0
  · rw [if_pos h1] at k ⊢; exact k
  · rw [if_neg h1] at k ⊢
    by_cases h2 : 65536 < p + n
    · rw [if_pos h2] at k ⊢; exact k
    · rw [if_neg h2] at k ⊢; exact h k
theorem ldQ_store {C : Addr} {xs : Xs} {a : Ad} {m0 : Nat → Nat} {H : Hp} {Q : VK} {E : XK} {N : Ra28.M} {p n x : Nat} {r : Prop} (k : effQ C xs a m0 H Q E (storeE N p n x)) (h : effQ C xs a m0 H Q E (.nx (Ra28.put N p n (x % 256 ^ n)) 0) → r) : ldQ xs H E p n r := by
  unfold storeE at k
  unfold ldQ
  by_cases h1 : p % n ≠ 0
  · rw [if_pos h1] at k ⊢; exact k
  · rw [if_neg h1] at k ⊢
    by_cases h2 : 65536 < p + n
    · rw [if_pos h2] at k ⊢; exact k
    · rw [if_neg h2] at k ⊢; exact h k
def SizeOk (n : Nat) : Prop := n = 1 ∨ n = 2 ∨ n = 4
def spSigned : Sp := fun vs H Q _ => ∃ (v : Int) (n : Nat), vs = [.int v, .int n] ∧ 1 ≤ n ∧ n ≤ 64 ∧ Q (.int (sg n v)) H
def spClamped : Sp := fun vs H Q _ => ∃ v l m : Int, vs = [.int v, .int l, .int m] ∧ Q (.int (max l (min m v))) H
def spCheck (xs : Xs) : Sp := fun vs H Q E => ∃ (v : V) (p n : Nat), vs = [v, .int p, .int n] ∧ SizeOk n ∧ ldQ xs H E p n (Q .non H)
def spLoad (C : Addr) (xs : Xs) : Sp := fun vs H Q E => ∃ (a : Ad) (m0 : Nat → Nat) (M : Ra28.M) (w p n : Nat), vs = [.ref a.p, .int p, .int n] ∧ Rep C a m0 M w H ∧ SizeOk n ∧ ldQ xs H E p n (Q (.int (wide n (Ra28.get M p n))) H)
def spStore (C : Addr) (xs : Xs) : Sp := fun vs H Q E => ∃ (a : Ad) (m0 : Nat → Nat) (M : Ra28.M) (w p n x : Nat), vs = [.ref a.p, .int p, .int n, .int x] ∧ Rep C a m0 M w H ∧ SizeOk n ∧ x < 4294967296 ∧
  ldQ xs H E p n (∀ H', Rep C a m0 (Ra28.put M p n (x % 256 ^ n)) w H' → Fra a H H' → Q .non H')
section
variable {P : Program} {w : World} {K : PySem.W.Frag} {mg : Str → Option Value} {base : Heap} {f C : Addr} {xs : Xs} {fd : FuncData}
theorem sc_signed : FnScope ["value", "width", "half"] ["value", "width"] (defScope (top 3)) := ⟨rfl, rfl, rfl, by decide +kernel, rfl, by decide +kernel, by decide +kernel⟩
theorem ok_signed (F : Fun K "signed" "signed" (top 3) f fd) : FnOk P w K mg base (CXE P w) 1 f fd ["value", "width"] spSigned := by
  have sc := sc_signed
  refine F.okE sc (fun vs H Q E h => ?_) (fun cdv A outer s H vs Q E hr h => ?_)
  · obtain ⟨v, n, rfl, _⟩ := h; rfl
  · obtain ⟨v, n, rfl, h1, h2, k⟩ := h
    refine ⟨_, (pss_cons (ps_set (i := 2) sc.nd rfl (Or.inl rfl) (pe_op op_shl pe_int (pe_op op_sub (pv 1) pe_int))) (pss_one (ps_ret (pe_op op_sub (pe_op op_xor (pe_op op_and (pv 0) (pe_op op_sub (pe_op op_mul pe_int (pv 2)) pe_int)) (pv 2)) (pv 2))))), ?_⟩
    refine ⟨_, rfl, _, _, rfl, rfl, _, _, rfl, rfl, ⟨by omega, by omega, by decide⟩, ?_⟩
    refine ⟨_, rfl, _, rfl, _, _, rfl, rfl, .inl ⟨by decide, by decide⟩, _, _, rfl, rfl, _, _, rfl, rfl, _, rfl, _, _, rfl, rfl, _, rfl, _, _, rfl, rfl, ?_⟩
    have e : ((n : Int) - 1).toNat = n - 1 := by omega
    have z := sg_eq h1 v
    show Q (.int (Builtin.bitXor (Builtin.bitAnd v (2 * (1 * 2 ^ ((n : Int) - 1).toNat) - 1)) (1 * 2 ^ ((n : Int) - 1).toNat) - 1 * 2 ^ ((n : Int) - 1).toNat)) H
    rw [e, Int.one_mul, z]
    exact k
theorem sc_check : FnScope ["self", "place", "size"] ["self", "place", "size"] (defScope (mth 5)) := ⟨rfl, rfl, rfl, by decide +kernel, rfl, by decide +kernel, by decide +kernel⟩
theorem ok_check (F : Fun K "check" "Machine.check" (mth 5) f fd) (T : Tx K mg C) (xt : XT K xs) : FnOk P w K mg base (CXE P w) 1 f fd ["self", "place", "size"] (spCheck xs) := by
  have sc := sc_check
  refine F.okE sc (fun vs H Q E h => ?_) (fun cdv A outer s H vs Q E hr h => ?_)
  · obtain ⟨v, p, n, rfl, _⟩ := h; rfl
  · obtain ⟨v, p, n, rfl, hn, k⟩ := h
    refine ⟨_, pss_cons (ps_if (pt_truth (pe_op op_and (pv 1) (pe_op op_sub (pv 2) pe_int)) (fun _ => rfl)) (pss_one (ps_raise PySem.F.excBase_Exception xt.nm xt.xnm rfl)) pss_nil)
      (pss_one (ps_if (pt_cmpR op_ge (pv 1) (pe_num T.SIZE) (nomark _)) (pss_one (ps_raise PySem.F.excBase_Exception xt.nw xt.xnw rfl)) pss_nil)), ?_⟩
    refine ⟨_, rfl, _, rfl, _, _, rfl, rfl, _, _, rfl, rfl, _, rfl, ?_⟩
    have e : Builtin.bitAnd (p : Int) ((n : Int) - 1) = ((p % n : Nat) : Int) := by
      rcases hn with rfl | rfl | rfl
      · have := and_mask (p : Int) 0; simp at this; simp [this]
      · have := and_mask (p : Int) 1; simp at this; simp [this]
      · have := and_mask (p : Int) 2; simp at this; simp [this]
    show if (Builtin.bitAnd (p : Int) ((n : Int) - 1) != 0) = true then _ else _
    rw [e]
    unfold ldQ at k
    have hb : (((p % n : Nat) : Int) != 0) = decide (p % n ≠ 0) := by
      generalize p % n = r
      cases r with
      | zero => rfl
      | succ r => simp; omega
    rw [hb]
    by_cases h1 : p % n ≠ 0
    · rw [if_pos h1] at k
      rw [if_pos (decide_eq_true h1)]
      exact k
    · rw [if_neg h1] at k
      rw [if_neg (by rw [decide_eq_true_eq]; exact h1)]
      refine ⟨_, rfl, _, _, rfl, rfl, _, rfl, ?_⟩
      show if decide ((65536 : Int) ≤ (p : Int)) = true then _ else _
      by_cases h2 : 65536 < p + n
      · rw [if_pos h2] at k
        rw [if_pos (decide_eq_true (by rcases hn with rfl | rfl | rfl <;> omega))]
        exact k
      · rw [if_neg h2] at k
        rw [if_neg (by rw [decide_eq_true_eq]; rcases hn with rfl | rfl | rfl <;> omega)]
        exact k
end
end Sh
namespace Sh
open PySem PyProof.Rows L2
theorem ite_t {c : Prop} [Decidable c] {A B : Prop} (hc : c) (h : A) : ite c A B := by rw [if_pos hc]; exact h
theorem ite_f {c : Prop} [Decidable c] {A B : Prop} (hc : ¬ c) (h : B) : ite c A B := by rw [if_neg hc]; exact h
theorem ldQ_imp {xs : Xs} {H : Hp} {E : XK} {p n : Nat} {r r' : Prop} (k : ldQ xs H E p n r) (h : p % n = 0 → p + n ≤ 65536 → r → r') : ldQ xs H E p n r' := by
  unfold ldQ at k ⊢
  by_cases h1 : p % n ≠ 0
  · rw [if_pos h1] at k ⊢; exact k
  · rw [if_neg h1] at k ⊢
    by_cases h2 : 65536 < p + n
    · rw [if_pos h2] at k ⊢; exact k
    · rw [if_neg h2] at k ⊢; exact h (by omega) (by omega) k
theorem get1 (M : Ra28.M) (p : Nat) : Ra28.get M p 1 = M.mem p := by simp [Ra28.get]
theorem get2 (M : Ra28.M) (p : Nat) : Ra28.get M p 2 = M.mem p * 256 + M.mem (p + 1) := by simp [Ra28.get]
theorem get4 (M : Ra28.M) (p : Nat) : Ra28.get M p 4 = ((M.mem p * 256 + M.mem (p + 1)) * 256 + M.mem (p + 2)) * 256 + M.mem (p + 3) := by simp [Ra28.get]
theorem or_add (x y k : Nat) (h : y < 2 ^ k) : (x * 2 ^ k) ||| y = x * 2 ^ k + y := by
  rw [Nat.mul_comm, Nat.two_pow_add_eq_or_of_lt h]
theorem signed_wrap (k v : Nat) : Builtin.bitAnd (sg k (v : Int)) 4294967295 = ((Ra28.widened k v : Nat) : Int) := by rw [wrap_eq, sg_nat]; rfl
theorem widened_lt (k v : Nat) : Ra28.widened k v < 4294967296 := wrap_lt _
theorem get_lt {M : Ra28.M} (g : Good M) (p : Nat) : Ra28.get M p 4 < 4294967296 := by
  rw [get4]
  have := g.mem p; have := g.mem (p + 1); have := g.mem (p + 2); have := g.mem (p + 3)
  omega
theorem wide_lt {M : Ra28.M} (g : Good M) {p n : Nat} (hn : SizeOk n) : wide n (Ra28.get M p n) < 4294967296 := by
  rcases hn with rfl | rfl | rfl
  · exact widened_lt _ _
  · exact widened_lt _ _
  · exact get_lt g p
section
variable {P : Program} {w : World} {K : PySem.W.Frag} {mg : Str → Option Value} {base : Heap} {f C : Addr} {xs : Xs} {fd : FuncData}
theorem sc_load : FnScope ["self", "place", "size", "memory"] ["self", "place", "size"] (defScope (mth 6)) := ⟨rfl, rfl, rfl, by decide +kernel, rfl, by decide +kernel, by decide +kernel⟩
theorem ok_load (F : Fun K "load" "Machine.load" (mth 6) f fd) (T : Tx K mg C) (gs : Cal P w K mg base "signed" ["value", "width"] spSigned 1) (gc : Mth P w K mg base C "check" ["self", "place", "size"] (spCheck xs) 1) :
    FnOk P w K mg base (CXE P w) 2 f fd ["self", "place", "size"] (spLoad C xs) := by
  have sc := sc_load
  refine F.okE sc (fun vs H Q E h => ?_) (fun cdv A outer s H vs Q E hr h => ?_)
  · obtain ⟨a, m0, M, w, p, n, rfl, _⟩ := h; rfl
  · obtain ⟨a, m0, M, w', p, n, rfl, R, hn, k⟩ := h
    refine ⟨_, pss_cons (ps_expr (pe_mm (a := a) T.cl gc hr passE (pv 0) (pa_cons (pv 1) (pa_cons (pv 2) pa_nil))))
      (pss_cons (ps_set (i := 3) sc.nd rfl (Or.inl rfl) (f_memory T a (pv 0)))
      (pss_cons (ps_if (pt_cmpR op_eq (pv 2) pe_int (nomark _)) (pss_one (ps_ret (pe_op op_and (pe_c gs hr passE (pa_cons (pe_ix (ix_mem (C := C) (a := a)) (pv 3) (pv 1) (fun _ _ => rfl)) (pa_cons pe_int pa_nil))) (pe_num T.MASK)))) pss_nil)
      (pss_cons (ps_if (pt_cmpR op_eq (pv 2) pe_int (nomark _)) (pss_one (ps_ret (pe_op op_and (pe_c gs hr passE (pa_cons (pe_op op_or (pe_op op_shl (pe_ix (ix_mem (C := C) (a := a)) (pv 3) (pv 1) (fun _ _ => rfl)) pe_int) (pe_ix (ix_mem (C := C) (a := a)) (pv 3) (pe_op op_add (pv 1) pe_int) (fun _ _ => rfl))) (pa_cons pe_int pa_nil))) (pe_num T.MASK)))) pss_nil)
      (pss_one (ps_ret (pe_op op_or (pe_op op_or (pe_op op_or (pe_op op_shl (pe_ix (ix_mem (C := C) (a := a)) (pv 3) (pv 1) (fun _ _ => rfl)) pe_int) (pe_op op_shl (pe_ix (ix_mem (C := C) (a := a)) (pv 3) (pe_op op_add (pv 1) pe_int) (fun _ _ => rfl)) pe_int))
        (pe_op op_shl (pe_ix (ix_mem (C := C) (a := a)) (pv 3) (pe_op op_add (pv 1) pe_int) (fun _ _ => rfl)) pe_int)) (pe_ix (ix_mem (C := C) (a := a)) (pv 3) (pe_op op_add (pv 1) pe_int) (fun _ _ => rfl)))))))), ?_⟩
    refine ⟨_, rfl, M, w', rfl, R.toRepC, _, rfl, _, rfl, _, p, n, rfl, hn, ldQ_imp k fun h1 h2 k => ?_⟩
    refine ⟨_, rfl, M, w', rfl, R.toRepC, _, rfl, rfl, _, rfl, ?_⟩
    have b0 := R.good.mem p
    have b1 := R.good.mem (p + 1)
    have b2 := R.good.mem (p + 2)
    have b3 := R.good.mem (p + 3)
    rcases hn with rfl | rfl | rfl
    · refine ite_t (by decide) ?_
      refine ⟨_, rfl, _, rfl, m0, M, w', p, rfl, rfl, by omega, R, _, 8, rfl, by decide, by decide, _, _, rfl, rfl, ?_⟩
      show Q (.int (Builtin.bitAnd (sg 8 (M.mem p : Int)) 4294967295)) H
      rw [signed_wrap, ← get1]
      exact k
    · refine ite_f (by decide) ?_
      refine ⟨_, rfl, rfl, _, rfl, ite_t (by decide) ?_⟩
      refine ⟨_, rfl, _, rfl, m0, M, w', p, rfl, rfl, by omega, R, _, _, rfl, rfl, cpow (by omega) (by decide) (by decide), _, rfl, _, rfl, _, _, rfl, rfl, m0, M, w', p + 1, rfl, rfl, by omega, R, _, _, rfl, rfl, _, 16, rfl, by decide, by decide, _, _, rfl, rfl, ?_⟩
      have e : Builtin.bitOr ((M.mem p : Int) * 2 ^ (8 : Int).toNat) (M.mem (p + 1) : Int) = ((Ra28.get M p 2 : Nat) : Int) := by
        have e1 : ((M.mem p : Int) * 2 ^ (8 : Int).toNat) = ((M.mem p * 2 ^ 8 : Nat) : Int) := by simp
        rw [e1, or_nn, or_add _ _ _ (by omega), get2]
      show Q (.int (Builtin.bitAnd (sg 16 (Builtin.bitOr ((M.mem p : Int) * 2 ^ (8 : Int).toNat) (M.mem (p + 1) : Int))) 4294967295)) H
      rw [e, signed_wrap]
      exact k
    · refine ite_f (by decide) ?_
      refine ⟨_, rfl, rfl, _, rfl, ite_f (by decide) ?_⟩
      refine ⟨_, rfl, _, rfl, m0, M, w', p, rfl, rfl, by omega, R, _, _, rfl, rfl, cpow (by omega) (by decide) (by decide), _, rfl, _, rfl, _, _, rfl, rfl, m0, M, w', p + 1, rfl, rfl, by omega, R, _, _, rfl, rfl, cpow (by omega) (by decide) (by decide), _, _, rfl, rfl,
        _, rfl, _, rfl, _, _, rfl, rfl, m0, M, w', p + 2, rfl, rfl, by omega, R, _, _, rfl, rfl, cpow (by omega) (by decide) (by decide), _, _, rfl, rfl, _, rfl, _, rfl, _, _, rfl, rfl, m0, M, w', p + 3, rfl, rfl, by omega, R, _, _, rfl, rfl, ?_⟩
      have e : Builtin.bitOr (Builtin.bitOr (Builtin.bitOr ((M.mem p : Int) * 2 ^ (24 : Int).toNat) ((M.mem (p + 1) : Int) * 2 ^ (16 : Int).toNat)) ((M.mem (p + 2) : Int) * 2 ^ (8 : Int).toNat)) (M.mem (p + 3) : Int) = ((Ra28.get M p 4 : Nat) : Int) := by
        have e1 : ((M.mem p : Int) * 2 ^ (24 : Int).toNat) = ((M.mem p * 16777216 : Nat) : Int) := by simp
        have e2 : ((M.mem (p + 1) : Int) * 2 ^ (16 : Int).toNat) = ((M.mem (p + 1) * 65536 : Nat) : Int) := by simp
        have e3 : ((M.mem (p + 2) : Int) * 2 ^ (8 : Int).toNat) = ((M.mem (p + 2) * 256 : Nat) : Int) := by simp
        rw [e1, e2, e3, get4]
        generalize M.mem p = c0 at *
        generalize M.mem (p + 1) = c1 at *
        generalize M.mem (p + 2) = c2 at *
        generalize M.mem (p + 3) = c3 at *
        have f1 : c0 * 16777216 + c1 * 65536 = (c0 * 256 + c1) * 65536 := by rw [Nat.add_mul, Nat.mul_assoc]
        have f2 : (c0 * 256 + c1) * 65536 + c2 * 256 = ((c0 * 256 + c1) * 256 + c2) * 256 := by rw [Nat.add_mul ((c0 * 256 + c1) * 256), Nat.mul_assoc (c0 * 256 + c1)]
        rw [or_nn, show c0 * 16777216 ||| c1 * 65536 = c0 * 16777216 + c1 * 65536 from or_add c0 (c1 * 65536) 24 (by omega), f1, or_nn,
          show (c0 * 256 + c1) * 65536 ||| c2 * 256 = (c0 * 256 + c1) * 65536 + c2 * 256 from or_add _ _ 16 (by omega), f2, or_nn, show ((c0 * 256 + c1) * 256 + c2) * 256 ||| c3 = ((c0 * 256 + c1) * 256 + c2) * 256 + c3 from or_add _ _ 8 (by omega)]
      show Q (.int (Builtin.bitOr (Builtin.bitOr (Builtin.bitOr ((M.mem p : Int) * 2 ^ (24 : Int).toNat) ((M.mem (p + 1) : Int) * 2 ^ (16 : Int).toNat)) ((M.mem (p + 2) : Int) * 2 ^ (8 : Int).toNat)) (M.mem (p + 3) : Int))) H
      rw [e]
      exact k
def setM (M : Ra28.M) (q b : Nat) : Ra28.M := { M with mem := fun r => if r = q then b else M.mem r }
theorem mem_set (M : Ra28.M) {q : Nat} (b : Nat) (h : q < 65536) : (memOf M).set q (V.int b) = memOf (setM M q b) := by
  apply List.ext_getElem?
  intro j
  by_cases hj : j < 65536
  · rw [mem_get _ hj]
    by_cases e : j = q
    · subst e
      rw [List.getElem?_set_self (by rw [mem_len]; exact hj)]
      show _ = some (V.int ((if j = j then b else M.mem j : Nat) : Int))
      rw [if_pos rfl]
    · rw [List.getElem?_set_ne (fun z => e z.symm), mem_get _ hj]
      show _ = some (V.int ((if j = q then b else M.mem j : Nat) : Int))
      rw [if_neg e]
  · rw [List.getElem?_eq_none (by rw [List.length_set, mem_len]; omega), List.getElem?_eq_none (by rw [mem_len]; omega)]
theorem put1 (M : Ra28.M) (p x : Nat) : setM M p (x % 256) = Ra28.put M p 1 (x % 256 ^ 1) := by
  unfold setM Ra28.put
  congr 1
  funext q
  by_cases e : q = p
  · subst e; simp
  · rw [if_neg e, if_neg (by omega)]
theorem put2 (M : Ra28.M) (p x : Nat) : setM (setM M p (x / 256 % 256)) (p + 1) (x % 256) = Ra28.put M p 2 (x % 256 ^ 2) := by
  unfold setM Ra28.put
  congr 1
  funext q
  dsimp only
  by_cases e : q = p + 1
  · subst e
    have e0 : 2 - 1 - (p + 1 - p) = 0 := by omega
    rw [if_pos rfl, if_pos (by omega), e0]
    first | (simp; done) | (simp; omega)
  · rw [if_neg e]
    by_cases e1 : q = p
    · subst e1
      have e0 : 2 - 1 - (q - q) = 1 := by omega
      rw [if_pos rfl, if_pos (by omega), e0]
      (first | (simp; done) | (simp; omega))
    · rw [if_neg e1, if_neg (by omega)]
theorem put4 (M : Ra28.M) {p x : Nat} (hx : x < 4294967296) : setM (setM (setM (setM M p (x / 16777216)) (p + 1) (x / 65536 % 256)) (p + 2) (x / 256 % 256)) (p + 3) (x % 256) = Ra28.put M p 4 (x % 256 ^ 4) := by
  unfold setM Ra28.put
  congr 1
  funext q
  dsimp only
  by_cases e : q = p + 3
  · subst e
    have e0 : 4 - 1 - (p + 3 - p) = 0 := by omega
    rw [if_pos rfl, if_pos (by omega), e0]
    first | (simp; done) | (simp; omega)
  · rw [if_neg e]
    by_cases e1 : q = p + 2
    · subst e1
      have e0 : 4 - 1 - (p + 2 - p) = 1 := by omega
      rw [if_pos rfl, if_pos (by omega), e0]
      (first | (simp; done) | (simp; omega))
    · rw [if_neg e1]
      by_cases e2 : q = p + 1
      · subst e2
        have e0 : 4 - 1 - (p + 1 - p) = 2 := by omega
        rw [if_pos rfl, if_pos (by omega), e0]
        (first | (simp; done) | (simp; omega))
      · rw [if_neg e2]
        by_cases e3 : q = p
        · subst e3
          have e0 : 4 - 1 - (q - q) = 3 := by omega
          rw [if_pos rfl, if_pos (by omega), e0]
          (first | (simp; done) | (simp; omega))
        · rw [if_neg e3, if_neg (by omega)]
theorem put_good {M : Ra28.M} (g : Good M) (p n x : Nat) : Good (Ra28.put M p n x) := by
  obtain ⟨g1, g2, g3, g4, g5, g6, g7, g8, g9⟩ := g
  refine ⟨g1, g2, g3, g4, g5, g6, g7, g8, fun q => ?_⟩
  show (if p ≤ q ∧ q < p + n then x / 256 ^ (n - 1 - (q - p)) % 256 else M.mem q) < 256
  split
  · exact Nat.mod_lt _ (by decide)
  · exact g9 q
theorem put_out (M : Ra28.M) {p n x q : Nat} (h : ¬ (p ≤ q ∧ q < p + n)) : (Ra28.put M p n x).mem q = M.mem q := if_neg h
abbrev tdL (T : List Nat) : List (Key × V) := T.map fun (k : Nat) => ((Sum.inl (k : Int) : Key), V.bl true)
theorem td_any (T : List Nat) (k : Nat) : ((tdL T).any fun kv => decide (kv.1 = (Sum.inl (k : Int) : Key))) = decide (k ∈ T) := by
  induction T with
  | nil => simp
  | cons x r ih =>
    show (decide ((Sum.inl (x : Int) : Key) = Sum.inl (k : Int)) || (tdL r).any _) = _
    rw [ih]
    by_cases e : x = k
    · subst e; simp
    · have : ¬ ((Sum.inl (x : Int) : Key) = Sum.inl (k : Int)) := fun q => e (by have := Sum.inl.inj q; omega)
      rw [decide_eq_false this]
      have e' : ¬ k = x := fun q => e q.symm
      simp [e']
theorem td_put (T : List Nat) (k : Nat) : putK (tdL T) (Sum.inl (k : Int)) (V.bl true) = tdL (if k ∈ T then T else T ++ [k]) := by
  unfold putK
  rw [td_any]
  by_cases h : k ∈ T
  · rw [if_pos (decide_eq_true h), if_pos h]
    unfold tdL
    rw [List.map_map]
    apply List.map_congr_left
    intro x _
    show (if (Sum.inl (x : Int) : Key) = Sum.inl (k : Int) then ((Sum.inl (x : Int) : Key), V.bl true) else (Sum.inl (x : Int), V.bl true)) = _
    split <;> rfl
  · rw [if_neg (by rw [decide_eq_true_eq]; exact h), if_neg h]
    unfold tdL
    rw [List.map_append]
    rfl
theorem nodup_len : ∀ (n : Nat) (T : List Nat), T.Nodup → (∀ k ∈ T, k < n) → T.length ≤ n := by
  intro n
  induction n with
  | zero =>
    intro T _ h
    cases T with
    | nil => exact Nat.le_refl _
    | cons x r => exact absurd (h x List.mem_cons_self) (Nat.not_lt_zero _)
  | succ n ih =>
    intro T h1 h2
    by_cases hm : n ∈ T
    · have := ih (T.erase n) (h1.erase n) (fun k hk => by
        have z := (List.Nodup.mem_erase_iff h1).mp hk
        have := h2 k z.2
        omega)
      rw [List.length_erase_of_mem hm] at this
      omega
    · have := ih T h1 (fun k hk => by
        have := h2 k hk
        have : k ≠ n := fun q => hm (q ▸ hk)
        omega)
      omega
end
end Sh
namespace Sh
open PySem PyProof.Rows L2
theorem td_next {m0 : Nat → Nat} {M : Ra28.M} {T : List Nat} {p n x : Nat} (t2 : T.Nodup) (t3 : ∀ k ∈ T, k < 16384) (t4 : ∀ q, q < 65536 → M.mem q ≠ m0 q → q / 4 ∈ T) (hn : SizeOk n) (h1 : p % n = 0) (h2 : p + n ≤ 65536) :
    (if p / 4 ∈ T then T else T ++ [p / 4]).Nodup ∧ (∀ k ∈ (if p / 4 ∈ T then T else T ++ [p / 4]), k < 16384) ∧ ∀ q, q < 65536 → (Ra28.put M p n x).mem q ≠ m0 q → q / 4 ∈ (if p / 4 ∈ T then T else T ++ [p / 4]) := by
  have hp : p / 4 < 16384 := by rcases hn with rfl | rfl | rfl <;> omega
  have hin : ∀ q, q < 65536 → (Ra28.put M p n x).mem q ≠ m0 q → q / 4 = p / 4 ∨ q / 4 ∈ T := fun q hq hne => by
    by_cases hb : p ≤ q ∧ q < p + n
    · left; rcases hn with rfl | rfl | rfl <;> omega
    · rw [put_out M hb] at hne
      exact .inr (t4 q hq hne)
  by_cases h : p / 4 ∈ T
  · rw [if_pos h]
    refine ⟨t2, t3, fun q hq hne => ?_⟩
    rcases hin q hq hne with z | z
    · rw [z]; exact h
    · exact z
  · rw [if_neg h]
    refine ⟨?_, fun k hk => ?_, fun q hq hne => ?_⟩
    · rw [List.nodup_append]
      refine ⟨t2, by simp, fun x hx y hy => ?_⟩
      rw [List.mem_singleton.mp hy]
      exact fun e => h (e ▸ hx)
    · rcases List.mem_append.mp hk with z | z
      · exact t3 k z
      · rw [List.mem_singleton.mp z]; exact hp
    · rcases hin q hq hne with z | z
      · rw [z]; simp
      · exact List.mem_append_left _ z
theorem store_fin {C : Addr} {a : Ad} {m0 : Nat → Nat} {M : Ra28.M} {w p n x : Nat} {H : Hp} {T : List Nat} (R : Rep C a m0 M w H) (t1 : H a.td = some (.dK (tdL T))) (t2 : T.Nodup) (t3 : ∀ k ∈ T, k < 16384) (t4 : ∀ q, q < 65536 → M.mem q ≠ m0 q → q / 4 ∈ T)
    (hn : SizeOk n) (h1 : p % n = 0) (h2 : p + n ≤ 65536) : Rep C a m0 (Ra28.put M p n x) w (upd (upd H a.td (.dK (tdL (if p / 4 ∈ T then T else T ++ [p / 4])))) a.me (.lst (memOf (Ra28.put M p n x)))) ∧
      Fra a H (upd (upd H a.td (.dK (tdL (if p / 4 ∈ T then T else T ++ [p / 4])))) a.me (.lst (memOf (Ra28.put M p n x)))) := by
  have n1 : a.p ≠ a.td := ne_of R.ob t1 (by intro q; cases q)
  have n2 : a.p ≠ a.me := ne_of R.ob R.me (by intro q; cases q)
  have n3 : a.rg ≠ a.td := ne_of R.rg t1 (by intro q; cases q)
  have n4 : a.td ≠ a.me := ne_of t1 R.me (by intro q; cases q)
  obtain ⟨u2, u3, u4⟩ := td_next (x := x) t2 t3 t4 hn h1 h2
  refine ⟨⟨⟨?_, ?_, put_good R.good p n x⟩, upd_same, ⟨_, ?_, u2, u3, u4⟩, R.n1⟩, fun b o e1 e2 e3 e4 q => ?_⟩
  · rw [upd_ne n2, upd_ne n1]; exact R.ob
  · rw [upd_ne (Ne.symm R.n1), upd_ne n3]; exact R.rg
  · rw [upd_ne n4, upd_same]
  · rw [upd_ne e3, upd_ne e4]; exact q
theorem ixN_add {n p : Nat} (c : Nat) (h : p + c < n) : ixN n ((p : Int) + (c : Int)) = some (p + c) := by
  have e : (p : Int) + (c : Int) = ((p + c : Nat) : Int) := by omega
  rw [e]; exact ixN_nat h
section
variable {P : Program} {w : World} {K : PySem.W.Frag} {mg : Str → Option Value} {base : Heap} {f C : Addr} {xs : Xs} {fd : FuncData}
theorem sc_store : FnScope ["self", "place", "size", "value", "memory"] ["self", "place", "size", "value"] (defScope (mth 7)) := ⟨rfl, rfl, rfl, by decide +kernel, rfl, by decide +kernel, by decide +kernel⟩
theorem ok_store (F : Fun K "store" "Machine.store" (mth 7) f fd) (T : Tx K mg C) (gc : Mth P w K mg base C "check" ["self", "place", "size"] (spCheck xs) 1) :
    FnOk P w K mg base (CXE P w) 2 f fd ["self", "place", "size", "value"] (spStore C xs) := by
  have sc := sc_store
  refine F.okE sc (fun vs H Q E h => ?_) (fun cdv A outer s H vs Q E hr h => ?_)
  · obtain ⟨a, m0, M, w, p, n, x, rfl, _⟩ := h; rfl
  · obtain ⟨a, m0, M, w', p, n, x, rfl, R, hn, hx, k⟩ := h
    refine ⟨_, pss_cons (ps_expr (pe_mm (a := a) T.cl gc hr passE (pv 0) (pa_cons (pv 1) (pa_cons (pv 2) pa_nil))))
      (pss_cons (ps_set (i := 4) sc.nd rfl (Or.inl rfl) (f_memory T a (pv 0)))
      (pss_cons (ps_dput (hu_of hr) (f_touched T a (pv 0)) (pe_op op_shr (pv 1) pe_int) pe_bl rfl)
      (pss_one (ps_if (pt_cmpR op_eq (pv 2) pe_int (nomark _)) (pss_one (ps_asg (pe_op op_and (pv 3) pe_int) (pg_sub (pv 4) (pv 1) set_list)))
        (pss_one (ps_if (pt_cmpR op_eq (pv 2) pe_int (nomark _)) (pss_cons (ps_asg (pe_op op_and (pe_op op_shr (pv 3) pe_int) pe_int) (pg_sub (pv 4) (pv 1) set_list)) (pss_one (ps_asg (pe_op op_and (pv 3) pe_int) (pg_sub (pv 4) (pe_op op_add (pv 1) pe_int) set_list))))
          (pss_cons (ps_asg (pe_op op_shr (pv 3) pe_int) (pg_sub (pv 4) (pv 1) set_list)) (pss_cons (ps_asg (pe_op op_and (pe_op op_shr (pv 3) pe_int) pe_int) (pg_sub (pv 4) (pe_op op_add (pv 1) pe_int) set_list))
            (pss_cons (ps_asg (pe_op op_and (pe_op op_shr (pv 3) pe_int) pe_int) (pg_sub (pv 4) (pe_op op_add (pv 1) pe_int) set_list)) (pss_one (ps_asg (pe_op op_and (pv 3) pe_int) (pg_sub (pv 4) (pe_op op_add (pv 1) pe_int) set_list)))))))))))), ?_⟩
    refine ⟨_, rfl, M, w', rfl, R.toRepC, _, rfl, _, rfl, _, p, n, rfl, hn, ldQ_imp k fun h1 h2 k => ?_⟩
    obtain ⟨Td, t1, t2, t3, t4⟩ := R.td
    have e4 : ((p : Int) / 2 ^ (2 : Int).toNat) = ((p / 4 : Nat) : Int) := by simp
    have hl : (tdL Td).length < sizeLine := by
      rw [List.length_map]
      exact Nat.lt_of_le_of_lt (nodup_len 16384 Td t2 t3) (by decide)
    refine ⟨_, rfl, M, w', rfl, R.toRepC, _, rfl, M, w', rfl, R.toRepC, _, rfl, _, _, rfl, rfl, (by show (0 : Int) ≤ 2; decide), a.td, upd H a.td (.dK (tdL (if p / 4 ∈ Td then Td else Td ++ [p / 4]))), rfl, ?_, _, rfl, rfl, _, rfl, ?_⟩
    · show DPut H a.td (V.int ((p : Int) / 2 ^ (2 : Int).toNat)) (.bl true) _
      rw [e4, ← td_put]
      exact DPut.k (k := Sum.inl ((p / 4 : Nat) : Int)) t1 hl
    have n4 : a.me ≠ a.td := ne_of R.me t1 (by intro q; cases q)
    have hme : (upd H a.td (.dK (tdL (if p / 4 ∈ Td then Td else Td ++ [p / 4])))) a.me = some (.lst (memOf M)) := by rw [upd_ne n4]; exact R.me
    obtain ⟨r1, r2⟩ := store_fin (x := x % 256 ^ n) R t1 t2 t3 t4 hn h1 h2
    have kk := k _ r1 r2
    have e255 : Builtin.bitAnd (x : Int) 255 = ((x % 256 : Nat) : Int) := by rw [bitAnd_m8]; omega
    have e8 : Builtin.bitAnd ((x : Int) / 2 ^ (8 : Int).toNat) 255 = ((x / 256 % 256 : Nat) : Int) := by
      have : ((x : Int) / 2 ^ (8 : Int).toNat) = ((x / 256 : Nat) : Int) := by simp
      rw [this, bitAnd_m8]; omega
    have e16 : Builtin.bitAnd ((x : Int) / 2 ^ (16 : Int).toNat) 255 = ((x / 65536 % 256 : Nat) : Int) := by
      have : ((x : Int) / 2 ^ (16 : Int).toNat) = ((x / 65536 : Nat) : Int) := by simp
      rw [this, bitAnd_m8]; omega
    have e24 : ((x : Int) / 2 ^ (24 : Int).toNat) = ((x / 16777216 : Nat) : Int) := by simp
    generalize upd H a.td (.dK (tdL (if p / 4 ∈ Td then Td else Td ++ [p / 4]))) = H1 at *
    rcases hn with rfl | rfl | rfl
    · refine ite_t (by decide) ?_
      refine ⟨_, rfl, _, _, rfl, rfl, _, rfl, _, rfl, a.me, _, _, p, rfl, rfl, hme, ixN_nat (by rw [mem_len]; omega), ?_⟩
      show Q .non (upd H1 a.me (.lst ((memOf M).set p (V.int (Builtin.bitAnd (x : Int) 255)))))
      rw [e255, mem_set M _ (by omega), put1]
      exact kk
    · refine ite_f (by decide) ?_
      refine ⟨_, rfl, rfl, _, rfl, ite_t (by decide) ?_⟩
      refine ⟨_, rfl, _, _, rfl, rfl, (by show (0 : Int) ≤ 8; decide), _, _, rfl, rfl, _, rfl, _, rfl, a.me, _, _, p, rfl, rfl, hme, ixN_nat (by rw [mem_len]; omega), ?_⟩
      refine ⟨_, rfl, _, _, rfl, rfl, _, rfl, _, rfl, _, _, rfl, rfl, a.me, _, _, p + 1, rfl, rfl, upd_same, ixN_add 1 (by rw [List.length_set, mem_len]; omega), ?_⟩
      show Q .non (upd (upd H1 a.me (.lst ((memOf M).set p (V.int (Builtin.bitAnd ((x : Int) / 2 ^ (8 : Int).toNat) 255))))) a.me (.lst (((memOf M).set p (V.int (Builtin.bitAnd ((x : Int) / 2 ^ (8 : Int).toNat) 255))).set (p + 1) (V.int (Builtin.bitAnd (x : Int) 255)))))
      rw [upd_upd, e255, e8, mem_set M _ (by omega), mem_set _ _ (by omega), put2]
      exact kk
    · refine ite_f (by decide) ?_
      refine ⟨_, rfl, rfl, _, rfl, ite_f (by decide) ?_⟩
      refine ⟨_, rfl, _, _, rfl, rfl, (by show (0 : Int) ≤ 24; decide), _, rfl, _, rfl, a.me, _, _, p, rfl, rfl, hme, ixN_nat (by rw [mem_len]; omega), ?_⟩
      refine ⟨_, rfl, _, _, rfl, rfl, (by show (0 : Int) ≤ 16; decide), _, _, rfl, rfl, _, rfl, _, rfl, _, _, rfl, rfl, a.me, _, _, p + 1, rfl, rfl, upd_same, ixN_add 1 (by rw [List.length_set, mem_len]; omega), ?_⟩
      refine ⟨_, rfl, _, _, rfl, rfl, (by show (0 : Int) ≤ 8; decide), _, _, rfl, rfl, _, rfl, _, rfl, _, _, rfl, rfl, a.me, _, _, p + 2, rfl, rfl, upd_same, ixN_add 2 (by rw [List.length_set, List.length_set, mem_len]; omega), ?_⟩
      refine ⟨_, rfl, _, _, rfl, rfl, _, rfl, _, rfl, _, _, rfl, rfl, a.me, _, _, p + 3, rfl, rfl, upd_same, ixN_add 3 (by rw [List.length_set, List.length_set, List.length_set, mem_len]; omega), ?_⟩
      show Q .non (upd (upd (upd (upd H1 a.me _) a.me _) a.me _) a.me (.lst (((((memOf M).set p (V.int ((x : Int) / 2 ^ (24 : Int).toNat))).set (p + 1) (V.int (Builtin.bitAnd ((x : Int) / 2 ^ (16 : Int).toNat) 255))).set (p + 2) (V.int (Builtin.bitAnd ((x : Int) / 2 ^ (8 : Int).toNat) 255))).set (p + 3) (V.int (Builtin.bitAnd (x : Int) 255)))))
      rw [upd_upd, upd_upd, upd_upd, e255, e8, e16, e24, mem_set M _ (by omega), mem_set _ _ (by omega), mem_set _ _ (by omega), mem_set _ _ (by omega), put4 M hx]
      exact kk
end
end Sh
namespace Sh
open PySem PyProof.Rows L2
theorem bit_test (x k : Nat) : ((x / 2 ^ k % 2 : Nat) : Int) = ((Ra28.bit (x.testBit k) : Nat) : Int) := by
  rw [Nat.testBit_eq_decide_div_mod_eq]
  unfold Ra28.bit
  by_cases h : x / 2 ^ k % 2 = 1
  · simp [h]
  · have : x / 2 ^ k % 2 = 0 := by omega
    simp [this]
theorem and1_test (x k : Nat) : Builtin.bitAnd ((x / 2 ^ k : Nat) : Int) 1 = ((Ra28.bit (x.testBit k) : Nat) : Int) := by
  rw [bitAnd_m1, ← bit_test]; omega
theorem sr_bits (M : Ra28.M) (hi : M.i < 16) : Builtin.bitOr (Builtin.bitOr (Builtin.bitOr (Builtin.bitOr ((Ra28.bit M.m : Int) * 2 ^ (9 : Int).toNat) ((Ra28.bit M.q : Int) * 2 ^ (8 : Int).toNat)) ((M.i : Int) * 2 ^ (4 : Int).toNat)) ((Ra28.bit M.s : Int) * 2 ^ (1 : Int).toNat)) (Ra28.bit M.t : Int) = ((Ra28.sr M : Nat) : Int) := by
  have a1 := bit_lt M.m; have a2 := bit_lt M.q; have a3 := bit_lt M.s; have a4 := bit_lt M.t
  unfold Ra28.sr
  generalize Ra28.bit M.m = m at *
  generalize Ra28.bit M.q = q at *
  generalize Ra28.bit M.s = s at *
  generalize Ra28.bit M.t = t at *
  generalize M.i = i at *
  have e1 : (m : Int) * 2 ^ (9 : Int).toNat = ((m * 512 : Nat) : Int) := by simp
  have e2 : (q : Int) * 2 ^ (8 : Int).toNat = ((q * 256 : Nat) : Int) := by simp
  have e3 : (i : Int) * 2 ^ (4 : Int).toNat = ((i * 16 : Nat) : Int) := by simp
  have e4 : (s : Int) * 2 ^ (1 : Int).toNat = ((s * 2 : Nat) : Int) := by simp
  rw [e1, e2, e3, e4]
  clear e1 e2 e3 e4
  have f1 : m * 512 + q * 256 = (m * 2 + q) * 256 := by omega
  have f2 : (m * 2 + q) * 256 + i * 16 = ((m * 2 + q) * 16 + i) * 16 := by omega
  have f3 : ((m * 2 + q) * 16 + i) * 16 + s * 2 = (((m * 2 + q) * 16 + i) * 8 + s) * 2 := by omega
  rw [or_nn, show m * 512 ||| q * 256 = m * 512 + q * 256 from or_add _ _ 9 (by omega), f1, or_nn, show (m * 2 + q) * 256 ||| i * 16 = (m * 2 + q) * 256 + i * 16 from or_add _ _ 8 (by omega), f2, or_nn,
    show ((m * 2 + q) * 16 + i) * 16 ||| s * 2 = ((m * 2 + q) * 16 + i) * 16 + s * 2 from or_add _ _ 4 (by omega), f3, or_nn, show (((m * 2 + q) * 16 + i) * 8 + s) * 2 ||| t = (((m * 2 + q) * 16 + i) * 8 + s) * 2 + t from or_add _ _ 1 (by omega)]
  omega
def spRead (C : Addr) : Sp := fun vs H Q _ => ∃ (a : Ad) (M : Ra28.M) (w k : Nat), vs = [.ref a.p, .int k] ∧ RepC C a M w H ∧ k ≤ 22 ∧ Q (.int (rdV M k)) H
def spWS (C : Addr) : Sp := fun vs H Q _ => ∃ (a : Ad) (M : Ra28.M) (w x : Nat), vs = [.ref a.p, .int x] ∧ RepC C a M w H ∧ ∀ H', RepC C a (Ra28.setSr M x) w H' → Chg a H H' → Q .non H'
def spWrite (C : Addr) : Sp := fun vs H Q _ => ∃ (a : Ad) (M : Ra28.M) (w k x : Nat), vs = [.ref a.p, .int k, .int x] ∧ RepC C a M w H ∧ k ≤ 22 ∧ x < 4294967296 ∧ ∀ H', RepC C a (wrV M k x) w H' → Chg a H H' → Q .non H'
section
variable {P : Program} {w : World} {K : PySem.W.Frag} {mg : Str → Option Value} {base : Heap} {f C : Addr} {xs : Xs} {fd : FuncData}
theorem sc_read : FnScope ["self", "which"] ["self", "which"] (defScope (mth 1)) := ⟨rfl, rfl, rfl, by decide +kernel, rfl, by decide +kernel, by decide +kernel⟩
theorem ok_read (F : Fun K "read" "Machine.read" (mth 1) f fd) (T : Tx K mg C) : FnOk P w K mg base (CXE P w) 1 f fd ["self", "which"] (spRead C) := by
  have sc := sc_read
  refine F.okE sc (fun vs H Q E h => ?_) (fun cdv A outer s H vs Q E hr h => ?_)
  · obtain ⟨a, M, w, k, rfl, _⟩ := h; rfl
  · obtain ⟨a, M, w', k, rfl, R, hk, kk⟩ := h
    refine ⟨_, pss_cons (ps_if (pt_cmpR op_eq (pv 1) (pe_num T.STATUS) (nomark _)) (pss_one (ps_ret (pe_op op_or (pe_op op_or (pe_op op_or (pe_op op_or (pe_op op_shl (f_m T a (pv 0)) pe_int) (pe_op op_shl (f_q T a (pv 0)) pe_int)) (pe_op op_shl (f_mask T a (pv 0)) pe_int)) (pe_op op_shl (f_s T a (pv 0)) pe_int)) (f_t T a (pv 0))))) pss_nil)
      (pss_cons (ps_if (pt_cmpR op_eq (pv 1) (pe_num T.PLACE) (nomark _)) (pss_one (ps_ret (f_place T a (pv 0)))) pss_nil) (pss_one (ps_ret (pe_ix (ix_reg (C := C) (a := a)) (f_regs T a (pv 0)) (pv 1) (fun _ _ => rfl))))), ?_⟩
    have hb : ∀ b : Bool, Ra28.bit b < 18446744073709551616 := fun b => by have := bit_lt b; omega
    refine ⟨_, rfl, rfl, _, rfl, ?_⟩
    by_cases h1 : k = 16
    · subst h1
      refine ite_t (by decide) ?_
      refine ⟨_, rfl, M, w', rfl, R, _, _, rfl, rfl, cpow (hb _) (by decide) (by decide), _, rfl, M, w', rfl, R, _, _, rfl, rfl, cpow (hb _) (by decide) (by decide), _, _, rfl, rfl, _, rfl, M, w', rfl, R, _, _, rfl, rfl, cpow (by have := R.good.i; omega) (by decide) (by decide), _, _, rfl, rfl,
        _, rfl, M, w', rfl, R, _, _, rfl, rfl, cpow (hb _) (by decide) (by decide), _, _, rfl, rfl, _, rfl, M, w', rfl, R, _, _, rfl, rfl, ?_⟩
      have e := sr_bits M R.good.i
      show Q (V.int _) H
      rw [e]
      exact kk
    · refine ite_f (by rw [decide_eq_true_eq]; intro z; exact h1 (by have := V.int.inj z; omega)) ?_
      refine ⟨_, rfl, rfl, _, rfl, ?_⟩
      by_cases h2 : k = 22
      · subst h2
        refine ite_t (by decide) ?_
        exact ⟨_, rfl, M, w', rfl, R, kk⟩
      · refine ite_f (by rw [decide_eq_true_eq]; intro z; exact h2 (by have := V.int.inj z; omega)) ?_
        refine ⟨_, rfl, M, w', rfl, R, _, rfl, M, w', k, rfl, rfl, by omega, R, ?_⟩
        have e : rdV M k = regV M k := by unfold rdV; rw [if_neg h1, if_neg h2]
        rw [← e]
        exact kk
theorem sc_ws : FnScope ["self", "value"] ["self", "value"] (defScope (mth 3)) := ⟨rfl, rfl, rfl, by decide +kernel, rfl, by decide +kernel, by decide +kernel⟩
theorem ok_ws (F : Fun K "write_status" "Machine.write_status" (mth 3) f fd) (T : Tx K mg C) : FnOk P w K mg base (CXE P w) 1 f fd ["self", "value"] (spWS C) := by
  have sc := sc_ws
  refine F.okE sc (fun vs H Q E h => ?_) (fun cdv A outer s H vs Q E hr h => ?_)
  · obtain ⟨a, M, w, x, rfl, _⟩ := h; rfl
  · obtain ⟨a, M, w', x, rfl, R, kk⟩ := h
    refine ⟨_, pss_cons (ps_mf (a := a) fw_t T.cl T.nT (pv 0) (pe_op op_and (pv 1) pe_int))
      (pss_cons (ps_mf (a := a) fw_s T.cl T.nS (pv 0) (pe_op op_and (pe_op op_shr (pv 1) pe_int) pe_int))
      (pss_cons (ps_mf (a := a) fw_mask T.cl T.nMask (pv 0) (pe_op op_and (pe_op op_shr (pv 1) pe_int) pe_int))
      (pss_cons (ps_mf (a := a) fw_q T.cl T.nQ (pv 0) (pe_op op_and (pe_op op_shr (pv 1) pe_int) pe_int))
      (pss_one (ps_mf (a := a) fw_m T.cl T.nM (pv 0) (pe_op op_and (pe_op op_shr (pv 1) pe_int) pe_int)))))), ?_⟩
    have e0 : Builtin.bitAnd (x : Int) 1 = ((Ra28.bit (x.testBit 0) : Nat) : Int) := by have := and1_test x 0; simpa using this
    have e1 : Builtin.bitAnd ((x : Int) / 2 ^ (1 : Int).toNat) 1 = ((Ra28.bit (x.testBit 1) : Nat) : Int) := by have := and1_test x 1; simpa using this
    have e8 : Builtin.bitAnd ((x : Int) / 2 ^ (8 : Int).toNat) 1 = ((Ra28.bit (x.testBit 8) : Nat) : Int) := by have := and1_test x 8; simpa using this
    have e9 : Builtin.bitAnd ((x : Int) / 2 ^ (9 : Int).toNat) 1 = ((Ra28.bit (x.testBit 9) : Nat) : Int) := by have := and1_test x 9; simpa using this
    have e4 : Builtin.bitAnd ((x : Int) / 2 ^ (4 : Int).toNat) 15 = ((x / 16 % 16 : Nat) : Int) := by
      have : ((x : Int) / 2 ^ (4 : Int).toNat) = ((x / 16 : Nat) : Int) := by simp
      rw [this, bitAnd_m4]; omega
    refine ⟨_, rfl, _, _, rfl, rfl, _, rfl, M, w', x.testBit 0, rfl, congrArg V.int e0, trivial, R, fun H1 R1 c1 => ?_⟩
    refine ⟨_, rfl, _, _, rfl, rfl, (by show (0 : Int) ≤ 1; decide), _, _, rfl, rfl, _, rfl, _, _, x.testBit 1, rfl, congrArg V.int e1, trivial, R1, fun H2 R2 c2 => ?_⟩
    refine ⟨_, rfl, _, _, rfl, rfl, (by show (0 : Int) ≤ 4; decide), _, _, rfl, rfl, _, rfl, _, _, x / 16 % 16, rfl, congrArg V.int e4, Nat.mod_lt _ (by decide), R2, fun H3 R3 c3 => ?_⟩
    refine ⟨_, rfl, _, _, rfl, rfl, (by show (0 : Int) ≤ 8; decide), _, _, rfl, rfl, _, rfl, _, _, x.testBit 8, rfl, congrArg V.int e8, trivial, R3, fun H4 R4 c4 => ?_⟩
    refine ⟨_, rfl, _, _, rfl, rfl, (by show (0 : Int) ≤ 9; decide), _, _, rfl, rfl, _, rfl, _, _, x.testBit 9, rfl, congrArg V.int e9, trivial, R4, fun H5 R5 c5 => ?_⟩
    exact kk H5 R5 (c1.trans (c2.trans (c3.trans (c4.trans c5))))
theorem sc_write : FnScope ["self", "which", "value"] ["self", "which", "value"] (defScope (mth 2)) := ⟨rfl, rfl, rfl, by decide +kernel, rfl, by decide +kernel, by decide +kernel⟩
theorem ok_write (F : Fun K "write" "Machine.write" (mth 2) f fd) (T : Tx K mg C) (gw : Mth P w K mg base C "write_status" ["self", "value"] (spWS C) 1) : FnOk P w K mg base (CXE P w) 2 f fd ["self", "which", "value"] (spWrite C) := by
  have sc := sc_write
  refine F.okE sc (fun vs H Q E h => ?_) (fun cdv A outer s H vs Q E hr h => ?_)
  · obtain ⟨a, M, w, k, x, rfl, _⟩ := h; rfl
  · obtain ⟨a, M, w', k, x, rfl, R, hk, hx, kk⟩ := h
    refine ⟨_, pss_one (ps_if (pt_cmpR op_eq (pv 1) (pe_num T.STATUS) (nomark _)) (pss_one (ps_expr (pe_mm (a := a) T.cl gw hr passE (pv 0) (pa_cons (pv 2) pa_nil))))
      (pss_one (ps_if (pt_cmpR op_eq (pv 1) (pe_num T.PLACE) (nomark _)) (pss_cons (ps_mf (a := a) fw_place T.cl T.nPlace (pv 0) (pv 2)) (pss_cons (ps_mf (a := a) fw_follow T.cl T.nFollow (pv 0) (pe_op op_and (pe_op op_add (pv 2) pe_int) (pe_num T.MASK))) (pss_one (ps_mf (a := a) fw_waiting T.cl T.nWait (pv 0) pe_bl))))
        (pss_one (ps_asg (pv 2) (pg_sub (f_regs T a (pv 0)) (pv 1) (set_reg (C := C) (a := a)))))))), ?_⟩
    refine ⟨_, rfl, rfl, _, rfl, ?_⟩
    unfold wrV at kk
    by_cases h1 : k = 16
    · subst h1
      refine ite_t (by decide) ?_
      exact ⟨_, rfl, M, w', rfl, R, _, rfl, a, M, w', x, rfl, R, kk⟩
    · refine ite_f (by rw [decide_eq_true_eq]; intro z; exact h1 (by have := V.int.inj z; omega)) ?_
      refine ⟨_, rfl, rfl, _, rfl, ?_⟩
      rw [if_neg h1] at kk
      by_cases h2 : k = 22
      · subst h2
        rw [if_pos rfl] at kk
        refine ite_t (by decide) ?_
        have e : Builtin.bitAnd ((x : Int) + 2) 4294967295 = (((x + 2) % 4294967296 : Nat) : Int) := plus_eq x 2
        refine ⟨_, rfl, _, rfl, M, w', x, rfl, rfl, hx, R, fun H1 R1 c1 => ?_⟩
        refine ⟨_, rfl, _, _, rfl, rfl, _, _, rfl, rfl, _, rfl, _, _, (x + 2) % 4294967296, rfl, congrArg V.int e, Nat.mod_lt _ (by decide), R1, fun H2 R2 c2 => ?_⟩
        refine ⟨_, rfl, _, _, false, rfl, rfl, trivial, R2, fun H3 R3 c3 => ?_⟩
        exact kk H3 R3 (c1.trans (c2.trans c3))
      · rw [if_neg h2] at kk
        refine ite_f (by rw [decide_eq_true_eq]; intro z; exact h2 (by have := V.int.inj z; omega)) ?_
        exact ⟨_, rfl, _, rfl, M, w', rfl, R, _, rfl, M, w', k, x, rfl, rfl, rfl, by omega, h1, hx, R, kk⟩
end
end Sh
namespace Sh
open PySem PyProof.Rows L2
theorem vb {b b' : Bool} (h : b = b') : V.int (Ra28.bit b) = V.int (Ra28.bit b') := by rw [h]
theorem dec_nat (x y : Nat) : decide (V.int (x : Int) = V.int (y : Int)) = (x == y) := by
  rw [dec_int]
  by_cases h : x = y
  · subst h; simp
  · have h1 : ¬ ((x : Int) = y) := by omega
    rw [beq_eq_false_iff_ne.mpr h1, beq_eq_false_iff_ne.mpr h]
theorem dec_nat0 (x : Nat) : decide (V.int (x : Int) = V.int 0) = (x == 0) := dec_nat x 0
theorem dec_nat1 (x : Nat) : decide (V.int (x : Int) = V.int 1) = (x == 1) := dec_nat x 1
theorem shr_nat (x k : Nat) : (x : Int) / 2 ^ ((k : Int)).toNat = ((x / 2 ^ k : Nat) : Int) := by simp
theorem shl_nat (x k : Nat) : (x : Int) * 2 ^ ((k : Int)).toNat = ((x * 2 ^ k : Nat) : Int) := by simp
theorem shr31 {x : Nat} (h : x < 4294967296) : (x : Int) / 2 ^ (31 : Int).toNat = ((Ra28.bit (decide (2147483648 ≤ x)) : Nat) : Int) := by
  rw [show (x : Int) / 2 ^ (31 : Int).toNat = ((x / 2147483648 : Nat) : Int) from shr_nat x 31]
  by_cases q : 2147483648 ≤ x
  · rw [decide_eq_true q]
    have : x / 2147483648 = 1 := by omega
    rw [this]; rfl
  · rw [decide_eq_false q]
    have : x / 2147483648 = 0 := by omega
    rw [this]; rfl
theorem low1 (x : Nat) : Builtin.bitAnd (x : Int) 1 = ((Ra28.bit (x % 2 == 1) : Nat) : Int) := by
  rw [bitAnd_m1]
  have : x % 2 = 0 ∨ x % 2 = 1 := by omega
  rcases this with q | q
  · rw [q]; show (x : Int) % 2 = 0; omega
  · rw [q]; show (x : Int) % 2 = 1; omega
theorem mul_mask (x y : Nat) : Builtin.bitAnd ((x : Int) * (y : Int)) 4294967295 = ((x * y % 4294967296 : Nat) : Int) := by
  rw [show (x : Int) * (y : Int) = ((x * y : Nat) : Int) by simp, mod_eq]
theorem mask16 (x : Nat) : Builtin.bitAnd (x : Int) 65535 = ((x % 65536 : Nat) : Int) := by rw [bitAnd_m16]; omega
theorem mask8 (x : Nat) : Builtin.bitAnd (x : Int) 255 = ((x % 256 : Nat) : Int) := by rw [bitAnd_m8]; omega
theorem mask4 (x : Nat) : Builtin.bitAnd (x : Int) 15 = ((x % 16 : Nat) : Int) := by rw [bitAnd_m4]; omega
theorem mask2 (x : Nat) : Builtin.bitAnd (x : Int) 3 = ((x % 4 : Nat) : Int) := by rw [bitAnd_m2]; omega
theorem and_lt' {x y : Nat} (h : x < 4294967296) : x &&& y < 4294967296 := Nat.lt_of_le_of_lt Nat.and_le_left h
theorem or_lt' {x y : Nat} (h : x < 4294967296) (h' : y < 4294967296) : x ||| y < 4294967296 := Nat.or_lt_two_pow (n := 32) h h'
theorem xor_lt' {x y : Nat} (h : x < 4294967296) (h' : y < 4294967296) : x ^^^ y < 4294967296 := Nat.xor_lt_two_pow (n := 32) h h'
theorem join_eq {x y : Nat} (h : x < 4294967296) : Builtin.bitOr (Builtin.bitAnd (y : Int) 65535 * 2 ^ (16 : Int).toNat) ((x : Int) / 2 ^ (16 : Int).toNat) = ((y % 65536 * 65536 + x / 65536 : Nat) : Int) := by
  rw [mask16, show ((y % 65536 : Nat) : Int) * 2 ^ (16 : Int).toNat = ((y % 65536 * 65536 : Nat) : Int) from shl_nat _ 16, show (x : Int) / 2 ^ (16 : Int).toNat = ((x / 65536 : Nat) : Int) from shr_nat x 16, or_nn]
  rw [show y % 65536 * 65536 ||| x / 65536 = y % 65536 * 65536 + x / 65536 from or_add _ _ 16 (by omega)]
theorem exch_eq {x : Nat} (h : x < 4294967296) : Builtin.bitOr (Builtin.bitAnd (x : Int) 65535 * 2 ^ (16 : Int).toNat) ((x : Int) / 2 ^ (16 : Int).toNat) = ((x % 65536 * 65536 + x / 65536 : Nat) : Int) := join_eq h
theorem hi16 (x : Nat) (h : x < 4294967296) : x &&& 4294901760 = x / 65536 * 65536 := by
  have d : (x &&& 4294901760) / 65536 = x / 65536 := by
    have := Nat.and_div_two_pow (a := x) (b := 4294901760) (n := 16)
    rw [show (2 : Nat) ^ 16 = 65536 from rfl] at this
    rw [this, show (4294901760 : Nat) / 65536 = 2 ^ 16 - 1 from rfl, Nat.and_two_pow_sub_one_eq_mod, show (2 : Nat) ^ 16 = 65536 from rfl]
    omega
  have m : (x &&& 4294901760) % 65536 = 0 := by
    have := Nat.and_mod_two_pow (a := x) (b := 4294901760) (n := 16)
    rw [show (2 : Nat) ^ 16 = 65536 from rfl] at this
    rw [this, show (4294901760 : Nat) % 65536 = 0 from rfl, Nat.and_zero]
  omega
theorem swap_eq {x : Nat} (h : x < 4294967296) : Builtin.bitOr (Builtin.bitOr (Builtin.bitAnd (x : Int) 4294901760) (Builtin.bitAnd (x : Int) 255 * 2 ^ (8 : Int).toNat)) (Builtin.bitAnd ((x : Int) / 2 ^ (8 : Int).toNat) 255) = ((x / 65536 * 65536 + x % 256 * 256 + x / 256 % 256 : Nat) : Int) := by
  rw [show Builtin.bitAnd (x : Int) 4294901760 = ((x &&& 4294901760 : Nat) : Int) from and_nn x 4294901760, hi16 x h, mask8, show (x : Int) / 2 ^ (8 : Int).toNat = ((x / 256 : Nat) : Int) from shr_nat x 8, mask8,
    show ((x % 256 : Nat) : Int) * 2 ^ (8 : Int).toNat = ((x % 256 * 256 : Nat) : Int) from shl_nat _ 8, or_nn, show x / 65536 * 65536 ||| x % 256 * 256 = x / 65536 * 65536 + x % 256 * 256 from or_add _ _ 16 (by omega), or_nn]
  have f : x / 65536 * 65536 + x % 256 * 256 = (x / 65536 * 256 + x % 256) * 256 := by omega
  rw [f, show (x / 65536 * 256 + x % 256) * 256 ||| x / 256 % 256 = (x / 65536 * 256 + x % 256) * 256 + x / 256 % 256 from or_add _ _ 8 (by omega)]
theorem dbl_eq (x : Nat) : Builtin.bitAnd ((x : Int) * 2 ^ (1 : Int).toNat) 4294967295 = ((2 * x % 4294967296 : Nat) : Int) := by
  rw [show (x : Int) * 2 ^ (1 : Int).toNat = ((x * 2 : Nat) : Int) from shl_nat x 1, mod_eq, Nat.mul_comm]
theorem half_eq (x : Nat) : (x : Int) / 2 ^ (1 : Int).toNat = ((x / 2 : Nat) : Int) := shr_nat x 1
theorem signed_cases {x : Nat} (h : x < 4294967296) : Ra28.signed 32 x = if 2147483648 ≤ x then (x : Int) - 4294967296 else (x : Int) := by
  show (if x % 4294967296 < 2147483648 then ((x % 4294967296 : Nat) : Int) else ((x % 4294967296 : Nat) : Int) - 4294967296) = _
  rw [Nat.mod_eq_of_lt h]
  by_cases q : 2147483648 ≤ x
  · rw [if_pos q, if_neg (by omega)]
  · rw [if_neg q, if_pos (by omega)]
theorem sg32 (x : Nat) : sg 32 (x : Int) = Ra28.signed 32 x := sg_nat 32 x
theorem halfs_eq {x : Nat} (h : x < 4294967296) : Builtin.bitAnd (sg 32 (x : Int) / 2 ^ (1 : Int).toNat) 4294967295 = ((x / 2 + (if decide (2147483648 ≤ x) = true then 2147483648 else 0) : Nat) : Int) := by
  rw [sg32, signed_cases h, bitAnd_m32, show (2 : Int) ^ (1 : Int).toNat = 2 from rfl]
  by_cases q : 2147483648 ≤ x
  · rw [if_pos q, if_pos (decide_eq_true q)]; omega
  · rw [if_neg q, if_neg (by simp; omega)]; omega
theorem rol_eq {x : Nat} (h : x < 4294967296) (b : Bool) : Builtin.bitOr (Builtin.bitAnd ((x : Int) * 2 ^ (1 : Int).toNat) 4294967295) (Ra28.bit b : Int) = ((2 * x % 4294967296 + Ra28.bit b : Nat) : Int) := by
  rw [dbl_eq, or_nn]
  have e : 2 * x % 4294967296 = (2 * x % 4294967296 / 2) * 2 := by omega
  have := bit_lt b
  rw [e, show (2 * x % 4294967296 / 2) * 2 ||| Ra28.bit b = (2 * x % 4294967296 / 2) * 2 + Ra28.bit b from or_add _ _ 1 (by omega)]
theorem ror_eq {x : Nat} (h : x < 4294967296) (b : Bool) : Builtin.bitOr ((x : Int) / 2 ^ (1 : Int).toNat) ((Ra28.bit b : Int) * 2 ^ (31 : Int).toNat) = ((x / 2 + Ra28.bit b * 2147483648 : Nat) : Int) := by
  rw [half_eq, show (Ra28.bit b : Int) * 2 ^ (31 : Int).toNat = ((Ra28.bit b * 2147483648 : Nat) : Int) from shl_nat _ 31, or_nn, Nat.or_comm,
    show Ra28.bit b * 2147483648 ||| x / 2 = Ra28.bit b * 2147483648 + x / 2 from or_add _ _ 31 (by omega), Nat.add_comm]
theorem rcl_v (x : Nat) (b : Bool) : Builtin.bitOr ((x : Int) * 2 ^ (1 : Int).toNat) (Ra28.bit b : Int) = ((2 * x + Ra28.bit b : Nat) : Int) := by
  have := bit_lt b
  rw [show (x : Int) * 2 ^ (1 : Int).toNat = ((x * 2 : Nat) : Int) from shl_nat x 1, or_nn, show x * 2 ||| Ra28.bit b = x * 2 + Ra28.bit b from or_add _ _ 1 (by omega), Nat.mul_comm]
theorem rcl_eq (x : Nat) (b : Bool) : Builtin.bitAnd (Builtin.bitOr ((x : Int) * 2 ^ (1 : Int).toNat) (Ra28.bit b : Int)) 4294967295 = ((2 * x % 4294967296 + Ra28.bit b : Nat) : Int) := by
  have := bit_lt b
  rw [rcl_v, mod_eq]
  have : (2 * x + Ra28.bit b) % 4294967296 = 2 * x % 4294967296 + Ra28.bit b := by omega
  rw [this]
theorem rcl_t {x : Nat} (h : x < 4294967296) (b : Bool) : Builtin.bitOr ((x : Int) * 2 ^ (1 : Int).toNat) (Ra28.bit b : Int) / 2 ^ (32 : Int).toNat = ((Ra28.bit (decide (2147483648 ≤ x)) : Nat) : Int) := by
  have := bit_lt b
  rw [rcl_v, show ((2 * x + Ra28.bit b : Nat) : Int) / 2 ^ (32 : Int).toNat = (((2 * x + Ra28.bit b) / 4294967296 : Nat) : Int) from shr_nat _ 32]
  by_cases q : 2147483648 ≤ x
  · rw [decide_eq_true q]
    have : (2 * x + Ra28.bit b) / 4294967296 = 1 := by omega
    rw [this]; rfl
  · rw [decide_eq_false q]
    have : (2 * x + Ra28.bit b) / 4294967296 = 0 := by omega
    rw [this]; rfl
theorem rcr_v {x : Nat} (h : x < 4294967296) (b : Bool) : Builtin.bitOr ((Ra28.bit b : Int) * 2 ^ (32 : Int).toNat) (x : Int) = ((Ra28.bit b * 4294967296 + x : Nat) : Int) := by
  rw [show (Ra28.bit b : Int) * 2 ^ (32 : Int).toNat = ((Ra28.bit b * 4294967296 : Nat) : Int) from shl_nat _ 32, or_nn, show Ra28.bit b * 4294967296 ||| x = Ra28.bit b * 4294967296 + x from or_add _ _ 32 h]
theorem rcr_eq {x : Nat} (h : x < 4294967296) (b : Bool) : Builtin.bitOr ((Ra28.bit b : Int) * 2 ^ (32 : Int).toNat) (x : Int) / 2 ^ (1 : Int).toNat = ((x / 2 + Ra28.bit b * 2147483648 : Nat) : Int) := by
  rw [rcr_v h, half_eq]
  have : (Ra28.bit b * 4294967296 + x) / 2 = x / 2 + Ra28.bit b * 2147483648 := by omega
  rw [this]
theorem rcr_t {x : Nat} (h : x < 4294967296) (b : Bool) : Builtin.bitAnd (Builtin.bitOr ((Ra28.bit b : Int) * 2 ^ (32 : Int).toNat) (x : Int)) 1 = ((Ra28.bit (x % 2 == 1) : Nat) : Int) := by
  rw [rcr_v h, low1]
  have : (Ra28.bit b * 4294967296 + x) % 2 = x % 2 := by omega
  rw [this]
theorem subc_eq {x y : Nat} (hy : y < 4294967296) (b : Bool) : Builtin.bitAnd ((x : Int) - (y : Int) - (Ra28.bit b : Int)) 4294967295 = (((x + 8589934592 - y - Ra28.bit b) % 4294967296 : Nat) : Int) := by
  have := bit_lt b
  rw [bitAnd_m32]; omega
theorem subc_t (x y : Nat) (b : Bool) : decide ((x : Int) - (y : Int) - (Ra28.bit b : Int) < 0) = decide (x < y + Ra28.bit b) := by
  apply decide_eq_decide.mpr; omega
theorem addc_eq (x y : Nat) (b : Bool) : Builtin.bitAnd ((x : Int) + (y : Int) + (Ra28.bit b : Int)) 4294967295 = (((x + y + Ra28.bit b) % 4294967296 : Nat) : Int) := by
  rw [bitAnd_m32]; omega
theorem addc_t {x y : Nat} (hx : x < 4294967296) (hy : y < 4294967296) (b : Bool) : ((x : Int) + (y : Int) + (Ra28.bit b : Int)) / 2 ^ (32 : Int).toNat = ((Ra28.bit (decide (4294967296 ≤ x + y + Ra28.bit b)) : Nat) : Int) := by
  have := bit_lt b
  rw [show (x : Int) + (y : Int) + (Ra28.bit b : Int) = ((x + y + Ra28.bit b : Nat) : Int) by omega, show ((x + y + Ra28.bit b : Nat) : Int) / 2 ^ (32 : Int).toNat = (((x + y + Ra28.bit b) / 4294967296 : Nat) : Int) from shr_nat _ 32]
  by_cases q : 4294967296 ≤ x + y + Ra28.bit b
  · rw [decide_eq_true q]
    have : (x + y + Ra28.bit b) / 4294967296 = 1 := by omega
    rw [this]; rfl
  · rw [decide_eq_false q]
    have : (x + y + Ra28.bit b) / 4294967296 = 0 := by omega
    rw [this]; rfl
theorem dec_le (x y : Nat) : decide ((x : Int) ≤ (y : Int)) = decide (x ≤ y) := decide_eq_decide.mpr (by omega)
theorem dec_lt (x y : Nat) : decide ((x : Int) < (y : Int)) = decide (x < y) := decide_eq_decide.mpr (by omega)
theorem xor_bits (a b : Bool) : Builtin.bitXor (Ra28.bit a : Int) (Ra28.bit b : Int) = ((Ra28.bit (a != b) : Nat) : Int) := by cases a <;> cases b <;> decide
theorem neg_eq {x : Nat} (h : x < 4294967296) : Builtin.bitAnd (-(x : Int)) 4294967295 = ((Ra28.minus 0 x : Nat) : Int) := by
  rw [bitAnd_m32]
  show (-(x : Int)) % 4294967296 = (((0 + 4294967296 - x) % 4294967296 : Nat) : Int)
  omega
theorem negc_eq {x : Nat} (h : x < 4294967296) (b : Bool) : Builtin.bitAnd (-(x : Int) - (Ra28.bit b : Int)) 4294967295 = (((8589934592 - x - Ra28.bit b) % 4294967296 : Nat) : Int) := by
  have := bit_lt b
  rw [bitAnd_m32]; omega
theorem negc_t (x : Nat) (b : Bool) : decide (-(x : Int) - (Ra28.bit b : Int) < 0) = decide (0 < x + Ra28.bit b) := decide_eq_decide.mpr (by omega)
theorem not_eq {x : Nat} (h : x < 4294967296) : Builtin.bitXor (x : Int) 4294967295 = ((4294967295 - x : Nat) : Int) := by
  rw [bitXor_and, bitAnd_m32]; omega
theorem down_eq {x : Nat} : Builtin.bitAnd ((x : Int) - 1) 4294967295 = ((Ra28.minus x 1 : Nat) : Int) := minus_eq (y := 1) (by decide)
theorem sge0 {x : Nat} (h : x < 4294967296) : decide ((0 : Int) ≤ sg 32 (x : Int)) = !decide (2147483648 ≤ x) := by
  rw [sg32, signed_cases h]
  by_cases q : 2147483648 ≤ x
  · rw [if_pos q, decide_eq_true q, decide_eq_false (by omega)]; rfl
  · rw [if_neg q, decide_eq_false q, decide_eq_true (by omega)]; rfl
theorem sgt0 {x : Nat} (h : x < 4294967296) : decide ((0 : Int) < sg 32 (x : Int)) = (!decide (2147483648 ≤ x) && x != 0) := by
  rw [sg32, signed_cases h]
  by_cases q : 2147483648 ≤ x
  · rw [if_pos q, decide_eq_true q, decide_eq_false (by omega)]; rfl
  · rw [if_neg q, decide_eq_false q]
    by_cases z : x = 0
    · subst z; rfl
    · rw [decide_eq_true (by omega)]; simp [z]
theorem pc4 {pc : Nat} (h : pc < 65536) : Ra28.plus pc 4 = pc + 4 := by show (pc + 4) % 4294967296 = pc + 4; omega
theorem down4 (x : Nat) (h : x < 4294967296) : x &&& 4294967292 = x / 4 * 4 := by
  have d : (x &&& 4294967292) / 4 = x / 4 := by
    have := Nat.and_div_two_pow (a := x) (b := 4294967292) (n := 2)
    rw [show (2 : Nat) ^ 2 = 4 from rfl] at this
    rw [this, show (4294967292 : Nat) / 4 = 2 ^ 30 - 1 from rfl, Nat.and_two_pow_sub_one_eq_mod, show (2 : Nat) ^ 30 = 1073741824 from rfl]
    omega
  have m : (x &&& 4294967292) % 4 = 0 := by
    have := Nat.and_mod_two_pow (a := x) (b := 4294967292) (n := 2)
    rw [show (2 : Nat) ^ 2 = 4 from rfl] at this
    rw [this, show (4294967292 : Nat) % 4 = 0 from rfl, Nat.and_zero]
  omega
theorem there_eq {M : Ra28.M} (h : M.pc < 65536) (k i : Nat) : Builtin.bitAnd (((M.pc + 4 : Nat) : Int) + 2 * sg k (i : Int)) 4294967295 = ((there M k i : Nat) : Int) := by
  unfold there
  rw [pc4 h, sg_nat, bitAnd_m32]
  unfold Ra28.widened Ra28.wrap Ra28.plus Ra28.W
  generalize Ra28.signed k i = z
  rw [show (2 : Int) ^ 32 = 4294967296 from rfl, show (2 : Nat) ^ 32 = 4294967296 from rfl]
  omega
theorem there_lt (M : Ra28.M) (k i : Nat) : there M k i < 4294967296 := plus_lt _ _
theorem rdV_lt {M : Ra28.M} (g : Good M) (k : Nat) : rdV M k < 4294967296 := by
  unfold rdV
  have := g.pc; have := regV_lt g k
  split
  · unfold Ra28.sr
    have := bit_lt M.t; have := bit_lt M.s; have := bit_lt M.q; have := bit_lt M.m; have := g.i
    omega
  · split <;> assumption
end Sh
namespace Sh
open PySem PyProof.Rows L2
def tAt (σ : L2.St) (H : Hp) (v : V) : TE := fun σ' H' Q => σ' = σ ∧ H' = H ∧ Q v H
abbrev Ev (X : Cx) (σ : L2.St) (H : Hp) (e : Expr) (v : V) : Prop := PE X e (tAt σ H v)
def tTAt (σ : L2.St) (H : Hp) (b : Bool) : TT := fun σ' H' Q => σ' = σ ∧ H' = H ∧ Q b H
abbrev Tt (X : Cx) (σ : L2.St) (H : Hp) (e : Expr) (b : Bool) : Prop := PT X e (tTAt σ H b)
def tAAt (σ : L2.St) (H : Hp) (vs : List V) : TA := fun σ' H' Q => σ' = σ ∧ H' = H ∧ Q vs H
abbrev EvA (X : Cx) (σ : L2.St) (H : Hp) (es : List Expr) (vs : List V) : Prop := PA X es (tAAt σ H vs)
section
variable {X : Cx} {σ : L2.St} {H : Hp} {a b c e : Expr} {es : List Expr} {pos p : Pos} {v v' : V} {i j : Int}
theorem ev_of {t : TE} (h : PE X e t) (k : ∀ Q : VK, Q v H → t σ H Q) : Ev X σ H e v := by
  intro pins s σ' H' Q I q
  obtain ⟨rfl, rfl, q⟩ := q
  exact h pins s _ _ Q I (k Q q)
theorem Ev.eq (h : Ev X σ H e v) (q : v = v') : Ev X σ H e v' := q ▸ h
theorem Ev.int {i j : Int} (h : Ev X σ H e (.int i)) (q : i = j) : Ev X σ H e (.int j) := q ▸ h
theorem tt_of {t : TT} {d : Bool} (h : PT X e t) (k : ∀ Q : Bool → Hp → Prop, Q d H → t σ H Q) : Tt X σ H e d := by
  intro pins s σ' H' Q I q
  obtain ⟨rfl, rfl, q⟩ := q
  exact h pins s _ _ Q I (k Q q)
theorem Tt.eq {d d' : Bool} (h : Tt X σ H e d) (q : d = d') : Tt X σ H e d' := q ▸ h
theorem ev_v (i : Nat) {x : Str} (hσ : σ[i]? = some (some v) := by rfl) (hN : X.N[i]? = some x := by rfl) (hv : Vis X.env.scope x := by first | exact Or.inl rfl | exact Or.inr (Or.inl rfl) | exact Or.inr (Or.inr rfl)) (hd : (x == ("__debug__" : Str)) = false := by decide)
    (hcd : (x == ("__classdict__" : Str)) = false := by decide) : Ev X σ H (.Name x pos) v := ev_of (pe_var hN hv hd hcd) fun Q q => ⟨v, hσ, q⟩
theorem ev_int {k : Int} {l} : Ev X σ H (.Constant (.int k) l pos) (.int k) := ev_of pe_int fun _ q => q
theorem ev_bl {k : Bool} {l} : Ev X σ H (.Constant (.bool k) l pos) (.bl k) := ev_of pe_bl fun _ q => q
theorem ev_non {l} : Ev X σ H (.Constant .none l pos) .non := ev_of pe_non fun _ q => q
theorem ev_num {x : Str} {z : Int} (h : ∃ t, X.mg x = some (.int z t)) (hg : Gl X x := by rfl) (hd : (x == ("__debug__" : Str)) = false := by decide) : Ev X σ H (.Name x pos) (.int z) := ev_of (pe_num h hg hd) fun _ q => q
theorem ev_add (ha : Ev X σ H a (.int i)) (hb : Ev X σ H b (.int j)) : Ev X σ H (.BinOp a .Add b pos) (.int (i + j)) := ev_of (pe_op op_add ha hb) fun _ q => ⟨rfl, rfl, rfl, rfl, _, _, rfl, rfl, q⟩
theorem ev_sub (ha : Ev X σ H a (.int i)) (hb : Ev X σ H b (.int j)) : Ev X σ H (.BinOp a .Sub b pos) (.int (i - j)) := ev_of (pe_op op_sub ha hb) fun _ q => ⟨rfl, rfl, rfl, rfl, _, _, rfl, rfl, q⟩
theorem ev_mul (ha : Ev X σ H a (.int i)) (hb : Ev X σ H b (.int j)) (h : CMul i j) : Ev X σ H (.BinOp a .Mult b pos) (.int (i * j)) := ev_of (pe_op op_mul ha hb) fun _ q => ⟨rfl, rfl, rfl, rfl, _, _, rfl, rfl, h, q⟩
theorem ev_and (ha : Ev X σ H a (.int i)) (hb : Ev X σ H b (.int j)) : Ev X σ H (.BinOp a .BitAnd b pos) (.int (Builtin.bitAnd i j)) := ev_of (pe_op op_and ha hb) fun _ q => ⟨rfl, rfl, rfl, rfl, _, _, rfl, rfl, q⟩
theorem ev_or (ha : Ev X σ H a (.int i)) (hb : Ev X σ H b (.int j)) : Ev X σ H (.BinOp a .BitOr b pos) (.int (Builtin.bitOr i j)) := ev_of (pe_op op_or ha hb) fun _ q => ⟨rfl, rfl, rfl, rfl, _, _, rfl, rfl, q⟩
theorem ev_xor (ha : Ev X σ H a (.int i)) (hb : Ev X σ H b (.int j)) : Ev X σ H (.BinOp a .BitXor b pos) (.int (Builtin.bitXor i j)) := ev_of (pe_op op_xor ha hb) fun _ q => ⟨rfl, rfl, rfl, rfl, _, _, rfl, rfl, q⟩
theorem ev_shl (ha : Ev X σ H a (.int i)) (hb : Ev X σ H b (.int j)) (h : CPow i j) : Ev X σ H (.BinOp a .LShift b pos) (.int (i * 2 ^ j.toNat)) := ev_of (pe_op op_shl ha hb) fun _ q => ⟨rfl, rfl, rfl, rfl, _, _, rfl, rfl, h, q⟩
theorem ev_shr (ha : Ev X σ H a (.int i)) (hb : Ev X σ H b (.int j)) (h : 0 ≤ j) : Ev X σ H (.BinOp a .RShift b pos) (.int (i / 2 ^ j.toNat)) := ev_of (pe_op op_shr ha hb) fun _ q => ⟨rfl, rfl, rfl, rfl, _, _, rfl, rfl, h, q⟩
theorem ev_pow (ha : Ev X σ H a (.int i)) (hb : Ev X σ H b (.int j)) (h : CPow i j) : Ev X σ H (.BinOp a .Pow b pos) (.int (i ^ j.toNat)) := ev_of (pe_op op_pow ha hb) fun _ q => ⟨rfl, rfl, rfl, rfl, _, _, rfl, rfl, h, q⟩
theorem ev_neg (ha : Ev X σ H a (.int i)) : Ev X σ H (.UnaryOp .USub a pos) (.int (-i)) := ev_of (pe_un un_neg ha) fun _ q => ⟨rfl, rfl, _, rfl, q⟩
theorem tt_eq (ha : Ev X σ H a (.int i)) (hb : Ev X σ H b (.int j)) : Tt X σ H (.Compare a [.Eq] [b] pos) (decide (V.int i = V.int j)) := tt_of (pt_cmpR op_eq ha hb (nomark _)) fun _ q => ⟨rfl, rfl, rfl, rfl, rfl, _, rfl, q⟩
theorem tt_ne (ha : Ev X σ H a (.int i)) (hb : Ev X σ H b (.int j)) : Tt X σ H (.Compare a [.NotEq] [b] pos) (!decide (V.int i = V.int j)) := tt_of (pt_cmpR op_ne ha hb (nomark _)) fun _ q => ⟨rfl, rfl, rfl, rfl, rfl, _, rfl, q⟩
theorem tt_lt (ha : Ev X σ H a (.int i)) (hb : Ev X σ H b (.int j)) : Tt X σ H (.Compare a [.Lt] [b] pos) (decide (i < j)) := tt_of (pt_cmpR op_lt ha hb (nomark _)) fun _ q => ⟨rfl, rfl, rfl, rfl, _, _, rfl, rfl, _, rfl, q⟩
theorem tt_gt (ha : Ev X σ H a (.int i)) (hb : Ev X σ H b (.int j)) : Tt X σ H (.Compare a [.Gt] [b] pos) (decide (j < i)) := tt_of (pt_cmpR op_gt ha hb (nomark _)) fun _ q => ⟨rfl, rfl, rfl, rfl, _, _, rfl, rfl, _, rfl, q⟩
theorem tt_ge (ha : Ev X σ H a (.int i)) (hb : Ev X σ H b (.int j)) : Tt X σ H (.Compare a [.GtE] [b] pos) (decide (j ≤ i)) := tt_of (pt_cmpR op_ge ha hb (nomark _)) fun _ q => ⟨rfl, rfl, rfl, rfl, _, _, rfl, rfl, _, rfl, q⟩
theorem tt_isN (ha : Ev X σ H a v) {l pos'} : Tt X σ H (.Compare a [.Is] [.Constant .none l pos'] pos) (decide (v = .non)) := tt_of (pt_cmpR op_isN ha ev_non (nomark _)) fun _ q => ⟨rfl, rfl, rfl, rfl, rfl, _, rfl, q⟩
theorem tt_notN (ha : Ev X σ H a v) {l pos'} : Tt X σ H (.Compare a [.IsNot] [.Constant .none l pos'] pos) (!decide (v = .non)) := tt_of (pt_cmpR op_notN ha ev_non (nomark _)) fun _ q => ⟨rfl, rfl, rfl, rfl, rfl, _, rfl, q⟩
theorem tt_bl {d : Bool} (ha : Ev X σ H a (.bl d)) (he : ∀ whole, isTrue a X.env whole = (do let v ← whole; standAt a.pos; holding [v] (truthy v)) := by intro _; rfl) : Tt X σ H a d := tt_of (pt_truth ha he) fun _ q => ⟨rfl, rfl, d, rfl, q⟩
theorem tt_int (ha : Ev X σ H a (.int i)) (he : ∀ whole, isTrue a X.env whole = (do let v ← whole; standAt a.pos; holding [v] (truthy v)) := by intro _; rfl) : Tt X σ H a (i != 0) := tt_of (pt_truth ha he) fun _ q => ⟨rfl, rfl, _, rfl, q⟩
theorem tt_and {d d' : Bool} (ha : Tt X σ H a d) (hb : Tt X σ H b d') : Tt X σ H (.BoolOp .And [a, b] pos) (d && d') := tt_of (pw_and ha (pw_and1 hb)).pt fun _ q => ⟨rfl, rfl, by cases d with | true => exact ⟨rfl, rfl, q⟩ | false => exact q⟩
theorem tt_and3 {d d' d'' : Bool} (ha : Tt X σ H a d) (hb : Tt X σ H b d') (hc : Tt X σ H c d'') : Tt X σ H (.BoolOp .And [a, b, c] pos) (d && (d' && d'')) := tt_of (pw_and ha (pw_and hb (pw_and1 hc))).pt fun _ q => ⟨rfl, rfl, by
  cases d with
  | false => exact q
  | true =>
    refine ⟨rfl, rfl, ?_⟩
    cases d' with
    | false => exact q
    | true => exact ⟨rfl, rfl, q⟩⟩
theorem tt_or {d d' : Bool} (ha : Tt X σ H a d) (hb : Tt X σ H b d') : Tt X σ H (.BoolOp .Or [a, b] pos) (d || d') := tt_of (pw_or ha (pw_or1 hb)).pt fun _ q => ⟨rfl, rfl, by cases d with | false => exact ⟨rfl, rfl, q⟩ | true => exact q⟩
theorem pe_never : PE X e (fun _ _ _ => False) := fun _ _ _ _ _ _ h => h.elim
theorem ev_ifT (hc : Tt X σ H c true) (ha : Ev X σ H a v) : Ev X σ H (.IfExp c a b pos) v := ev_of (pe_ifExp hc ha pe_never) fun _ q => ⟨rfl, rfl, iteT ⟨rfl, rfl, q⟩⟩
theorem ev_ifF (hc : Tt X σ H c false) (hb : Ev X σ H b v) : Ev X σ H (.IfExp c a b pos) v := ev_of (pe_ifExp hc pe_never hb) fun _ q => ⟨rfl, rfl, iteF ⟨rfl, rfl, q⟩⟩
theorem ev_if01 {d : Bool} {j1 j2 p1 p2} (hc : Tt X σ H c d) : Ev X σ H (.IfExp c (.Constant (.int 1) j1 p1) (.Constant (.int 0) j2 p2) pos) (.int (Ra28.bit d)) := ev_of (pe_if01 hc) fun _ q => ⟨rfl, rfl, q⟩
theorem ev_if10 {d : Bool} {j1 j2 p1 p2} (hc : Tt X σ H c d) : Ev X σ H (.IfExp c (.Constant (.int 0) j1 p1) (.Constant (.int 1) j2 p2) pos) (.int (Ra28.bit (!d))) := ev_of (pe_if10 hc) fun _ q => ⟨rfl, rfl, q⟩
theorem ea_nil : EvA X σ H [] [] := by
  intro pos pins s σ' H' Q I q
  obtain ⟨rfl, rfl, q⟩ := q
  exact pa_nil pos pins s _ _ Q I q
theorem ea_cons {vs : List V} (he : Ev X σ H e v) (hr : EvA X σ H es vs) (hs : starEach (e :: es) X.env = (false, eval e X.env) :: starEach es X.env := by rfl) : EvA X σ H (e :: es) (v :: vs) := by
  intro pos pins s σ' H' Q I q
  obtain ⟨rfl, rfl, q⟩ := q
  exact pa_cons he hr hs pos pins s _ _ Q I ⟨rfl, rfl, rfl, rfl, q⟩
end
section
variable {X : Cx} {σ : L2.St} {H : Hp} {C : Addr} {a : Ad} {M : Ra28.M} {w : Nat} {e er ek o : Expr} {es : List Expr} {pos p apos : Pos} {v : V} {vs : List V} {x m : Str} {ps : List Str} {sp : Sp} {k : Nat} {E : XK}
theorem ev_regs (T : Tx X.K X.mg C) (R : RepC C a M w H) (he : Ev X σ H e (.ref a.p)) (hb : attributeBase e "regs" X.env (eval e X.env) = eval e X.env := by rfl) : Ev X σ H (.Attribute e "regs" pos) (.ref a.rg) := ev_of (f_regs T a he hb) fun _ q => ⟨rfl, rfl, M, w, rfl, R, q⟩
theorem ev_t (T : Tx X.K X.mg C) (R : RepC C a M w H) (he : Ev X σ H e (.ref a.p)) (hb : attributeBase e "t" X.env (eval e X.env) = eval e X.env := by rfl) : Ev X σ H (.Attribute e "t" pos) (.int (Ra28.bit M.t)) := ev_of (f_t T a he hb) fun _ q => ⟨rfl, rfl, M, w, rfl, R, q⟩
theorem ev_s (T : Tx X.K X.mg C) (R : RepC C a M w H) (he : Ev X σ H e (.ref a.p)) (hb : attributeBase e "s" X.env (eval e X.env) = eval e X.env := by rfl) : Ev X σ H (.Attribute e "s" pos) (.int (Ra28.bit M.s)) := ev_of (f_s T a he hb) fun _ q => ⟨rfl, rfl, M, w, rfl, R, q⟩
theorem ev_q (T : Tx X.K X.mg C) (R : RepC C a M w H) (he : Ev X σ H e (.ref a.p)) (hb : attributeBase e "q" X.env (eval e X.env) = eval e X.env := by rfl) : Ev X σ H (.Attribute e "q" pos) (.int (Ra28.bit M.q)) := ev_of (f_q T a he hb) fun _ q => ⟨rfl, rfl, M, w, rfl, R, q⟩
theorem ev_m (T : Tx X.K X.mg C) (R : RepC C a M w H) (he : Ev X σ H e (.ref a.p)) (hb : attributeBase e "m" X.env (eval e X.env) = eval e X.env := by rfl) : Ev X σ H (.Attribute e "m" pos) (.int (Ra28.bit M.m)) := ev_of (f_m T a he hb) fun _ q => ⟨rfl, rfl, M, w, rfl, R, q⟩
theorem ev_place (T : Tx X.K X.mg C) (R : RepC C a M w H) (he : Ev X σ H e (.ref a.p)) (hb : attributeBase e "place" X.env (eval e X.env) = eval e X.env := by rfl) : Ev X σ H (.Attribute e "place" pos) (.int M.pc) := ev_of (f_place T a he hb) fun _ q => ⟨rfl, rfl, M, w, rfl, R, q⟩
theorem ev_follow (T : Tx X.K X.mg C) (R : RepC C a M w H) (he : Ev X σ H e (.ref a.p)) (hb : attributeBase e "follow" X.env (eval e X.env) = eval e X.env := by rfl) : Ev X σ H (.Attribute e "follow" pos) (.int M.npc) := ev_of (f_follow T a he hb) fun _ q => ⟨rfl, rfl, M, w, rfl, R, q⟩
theorem ev_waiting (T : Tx X.K X.mg C) (R : RepC C a M w H) (he : Ev X σ H e (.ref a.p)) (hb : attributeBase e "waiting" X.env (eval e X.env) = eval e X.env := by rfl) : Ev X σ H (.Attribute e "waiting" pos) (.bl M.slot) := ev_of (f_waiting T a he hb) fun _ q => ⟨rfl, rfl, M, w, rfl, R, q⟩
theorem ev_memory (T : Tx X.K X.mg C) (R : RepC C a M w H) (he : Ev X σ H e (.ref a.p)) (hb : attributeBase e "memory" X.env (eval e X.env) = eval e X.env := by rfl) : Ev X σ H (.Attribute e "memory" pos) (.ref a.me) := ev_of (f_memory T a he hb) fun _ q => ⟨rfl, rfl, M, w, rfl, R, q⟩
theorem ev_r {n : Nat} (R : RepC C a M w H) (hr : Ev X σ H er (.ref a.rg)) (hk : Ev X σ H ek (.int (n : Nat))) (h : n < 16) (hs : NoSl ek := by exact fun _ _ => rfl) : Ev X σ H (.Subscript er ek pos) (.int (M.r n)) := ev_of (pe_ix (ix_r (C := C) (a := a)) hr hk hs) fun _ q => ⟨rfl, rfl, rfl, rfl, M, w, n, rfl, rfl, h, R, q⟩
theorem ev_reg {n : Nat} (R : RepC C a M w H) (hr : Ev X σ H er (.ref a.rg)) (hk : Ev X σ H ek (.int (n : Nat))) (h : n < 22) (hs : NoSl ek := by exact fun _ _ => rfl) : Ev X σ H (.Subscript er ek pos) (.int (regV M n)) := ev_of (pe_ix (ix_reg (C := C) (a := a)) hr hk hs) fun _ q => ⟨rfl, rfl, rfl, rfl, M, w, n, rfl, rfl, h, R, q⟩
theorem ev_mem {m0 : Nat → Nat} {n : Nat} (R : Rep C a m0 M w H) (hr : Ev X σ H er (.ref a.me)) (hk : Ev X σ H ek (.int (n : Nat))) (h : n < 65536) (hs : NoSl ek := by exact fun _ _ => rfl) : Ev X σ H (.Subscript er ek pos) (.int (M.mem n)) := ev_of (pe_ix (ix_mem (C := C) (a := a)) hr hk hs) fun _ q => ⟨rfl, rfl, rfl, rfl, m0, M, w, n, rfl, rfl, h, R, q⟩
theorem ev_c (G : Cal X.prog X.w X.K X.mg X.base x ps sp k) (hr : Room k X.A) (hx : Passes (CXE X.prog X.w) X E) (ha : EvA X σ H (e :: es) vs) (h : ∀ Q : VK, Q v H → sp vs H Q E) (hg : Gl X x := by rfl) (hdb : (x == ("__debug__" : Str)) = false := by decide)
    (he : starEach (e :: es) X.env = (false, eval e X.env) :: starEach es X.env := by rfl) (hpl : (backTo pos (starEach es X.env)).any (·.1) = false := by rfl) : Ev X σ H (.Call (.Name x p) (e :: es) [] pos) v :=
  ev_of (pe_c G hr hx ha hg hdb he hpl) fun Q q => ⟨rfl, rfl, by show sp (vs ++ []) H Q E; rw [List.append_nil]; exact h Q q⟩
theorem ev_mm {pl : Sem Bool} (cl : Cls X.K C) (G : Mth X.prog X.w X.K X.mg X.base C m ps sp k) (hr : Room k X.A) (hx : Passes (CXE X.prog X.w) X E) (R : RepC C a M w H) (ho : Ev X σ H o (.ref a.p)) (ha : EvA X σ H (e :: es) vs) (h : ∀ Q : VK, Q v H → sp (.ref a.p :: vs) H Q E) (hl : ∀ M w, (fsOf a M w).lookup m = none := by intros; rfl)
    (hst : starEach (e :: es) X.env = (false, eval e X.env) :: starEach es X.env := by rfl) (hpl : (backTo pos (starEach es X.env)).any (·.1) = false := by rfl)
    (ht : eval (.Call (.Attribute o m apos) (e :: es) [] pos) X.env = (do
      let ov ← eval o X.env
      standAt apos.atName
      let (f, first) ← holding [ov] (getMethod ov m pl)
      callWith pos f first (backTo pos (starEach (e :: es) X.env)) (backToKw pos (keywordEach [] X.env))) := by rfl) :
    Ev X σ H (.Call (.Attribute o m apos) (e :: es) [] pos) v := ev_of (pe_mm (pl := pl) cl G hr hx ho ha hl hst hpl ht) fun Q q => ⟨rfl, rfl, M, w, rfl, R, rfl, rfl, h Q q⟩
end
def Do (X : Cx) (ss : List Stmt) (D : Ends) (σ : L2.St) (H : Hp) : Prop := ∀ (pins : List (Addr × Obj)) (s : Shared), Inv X pins σ H s → wpAny (model X.prog X.w) X.A (execs ss X.env) (SP X pins D) X.xe s
abbrev Ends.thn (D : Ends) (X : Cx) (ss : List Stmt) : Ends := { D with nx := fun σ' H' => Do X ss D σ' H' }
section
variable {X : Cx} {σ : L2.St} {H : Hp} {D : Ends} {ss as bs : List Stmt} {st : Stmt} {e er ek c : Expr} {pos pos' : Pos} {v : V} {C : Addr} {a : Ad} {M : Ra28.M} {w : Nat}
theorem pss_do : PSs X ss (fun D σ H => Do X ss D σ H) := fun pins s σ H D I q => q pins s I
theorem do_of {t : TS} (h : PSs X ss t) (k : t D σ H) : Do X ss D σ H := fun pins s I => h pins s σ H D I k
theorem do_cons {t : TS} (h : PS X st t) (k : t (Ends.thn D X ss) σ H) : Do X (st :: ss) D σ H := do_of (pss_cons h pss_do) k
theorem do_one {t : TS} (h : PS X st t) (k : t D σ H) : Do X [st] D σ H := do_of (pss_one h) k
theorem do_nil (k : D.nx σ H) : Do X [] D σ H := do_of pss_nil k
theorem do_set (i : Nat) {x : Str} (nd : X.N.Nodup) (he : Ev X σ H e v) (k : Do X ss D (σ.set i (some v)) H) (hi : X.N[i]? = some x := by rfl) (hx : Loc X.env.scope x := by exact Or.inl rfl) (hs : swapsWith e (some (.Name x pos')) pos.line X.env = pure false := by rfl) (hf : X.fn x = true ∨ X.env.scope.names.lookup x = some .local := by first | exact .inl rfl | exact .inr rfl | assumption) :
    Do X (.Assign [.Name x pos'] e pos :: ss) D σ H := do_cons (ps_set (i := i) nd hi hx he hs hf) ⟨rfl, rfl, k⟩
theorem do_setr {n x : Nat} (R : RepC C a M w H) (he : Ev X σ H e (.int (x : Nat))) (hr : Ev X σ H er (.ref a.rg)) (hk : Ev X σ H ek (.int (n : Nat))) (h : n < 16) (hx : x < 4294967296) (k : ∀ H', RepC C a (Ra28.set M n x) w H' → Chg a H H' → Do X ss D σ H')
    (ha : ∀ v, assign (.Subscript er ek pos') X.env v = (do
      let ov ← holding [v] (eval er X.env)
      let iv ← holding [v, ov] (eval ek X.env)
      standAt pos'
      holding [v, ov, iv] (setItem ov iv v)
      release [v, ov, iv] []) := by intro _; rfl)
    (hs : swapsWithSole [.Subscript er ek pos'] e pos.line X.env = pure false := by rfl) (hw : swappedStores [.Subscript er ek pos'] e X.env = pure none := by rfl) (h1 : (assignEach [.Subscript er ek pos'] X.env).map (·.2) = [assign (.Subscript er ek pos') X.env] := by rfl) :
    Do X (.Assign [.Subscript er ek pos'] e pos :: ss) D σ H := do_cons (ps_asg he (pg_sub hr hk (set_r (C := C) (a := a)) ha) hs hw h1) ⟨rfl, rfl, rfl, rfl, rfl, rfl, M, w, n, x, rfl, rfl, rfl, h, hx, R, k⟩
theorem do_setreg {n x : Nat} (R : RepC C a M w H) (he : Ev X σ H e (.int (x : Nat))) (hr : Ev X σ H er (.ref a.rg)) (hk : Ev X σ H ek (.int (n : Nat))) (h : n < 22) (h' : n ≠ 16) (hx : x < 4294967296) (k : ∀ H', RepC C a (setR M n x) w H' → Chg a H H' → Do X ss D σ H')
    (ha : ∀ v, assign (.Subscript er ek pos') X.env v = (do
      let ov ← holding [v] (eval er X.env)
      let iv ← holding [v, ov] (eval ek X.env)
      standAt pos'
      holding [v, ov, iv] (setItem ov iv v)
      release [v, ov, iv] []) := by intro _; rfl)
    (hs : swapsWithSole [.Subscript er ek pos'] e pos.line X.env = pure false := by rfl) (hw : swappedStores [.Subscript er ek pos'] e X.env = pure none := by rfl) (h1 : (assignEach [.Subscript er ek pos'] X.env).map (·.2) = [assign (.Subscript er ek pos') X.env] := by rfl) :
    Do X (.Assign [.Subscript er ek pos'] e pos :: ss) D σ H := do_cons (ps_asg he (pg_sub hr hk (set_reg (C := C) (a := a)) ha) hs hw h1) ⟨rfl, rfl, rfl, rfl, rfl, rfl, M, w, n, x, rfl, rfl, rfl, h, h', hx, R, k⟩
theorem do_f {β : Type} {f : Str} {val : β → V} {up : β → Ra28.M → Ra28.M} {uw : β → Nat → Nat} {ok : β → Prop} (W : FW f val up uw ok) (b : β) (cl : Cls X.K C) (na : NoAttr X.K C f) (R : RepC C a M w H) (hv : Ev X σ H e (val b)) (ha : Ev X σ H er (.ref a.p)) (hb : ok b)
    (k : ∀ H', RepC C a (up b M) (uw b w) H' → Chg a H H' → Do X ss D σ H') (hs : swapsWith e (some (.Attribute er f pos')) pos.line X.env = pure false := by rfl) : Do X (.Assign [.Attribute er f pos'] e pos :: ss) D σ H :=
  do_cons (ps_mf (a := a) W cl na ha hv hs) ⟨rfl, rfl, rfl, rfl, M, w, b, rfl, rfl, hb, R, k⟩
theorem do_ret (he : Ev X σ H e v) (k : D.rt v H) : Do X (.Return (some e) pos :: ss) D σ H := do_cons (ps_ret he) ⟨rfl, rfl, k⟩
theorem do_expr {te : TE} (he : PE X e te) (k : te σ H fun _ H1 => Do X ss D σ H1) (hs : swapsWith e none pos.line X.env = pure false := by rfl) : Do X (.Expr e pos :: ss) D σ H := do_cons (ps_expr he hs) k
theorem do_if {d : Bool} (hc : Tt X σ H c d) (kt : d = true → Do X as (Ends.thn D X ss) σ H) (kf : d = false → Do X bs (Ends.thn D X ss) σ H) : Do X (.If c as bs pos :: ss) D σ H := do_cons (ps_if hc pss_do pss_do) ⟨rfl, rfl, by
  cases d with
  | true => exact kt rfl
  | false => exact kf rfl⟩
theorem do_pass (k : Do X ss D σ H) : Do X (.Pass pos :: ss) D σ H := do_cons ps_pass k
end
end Sh
namespace Sh
open PySem PyProof.Rows L2
section
variable {X : Cx} {σ : L2.St} {H : Hp} {D : Ends} {ss : List Stmt} {o er ek e e1 e2 e3 : Expr} {es : List Expr} {pos pos' pos'' apos p : Pos} {v : V} {vs : List V} {C : Addr} {xs : Xs} {a : Ad} {M : Ra28.M} {m0 : Nat → Nat} {w k : Nat} {E : XK} {x m : Str} {ps : List Str} {sp : Sp}
abbrev MLoad (X : Cx) (C : Addr) (xs : Xs) : Prop := Mth X.prog X.w X.K X.mg X.base C "load" ["self", "place", "size"] (spLoad C xs) 2
abbrev MStore (X : Cx) (C : Addr) (xs : Xs) : Prop := Mth X.prog X.w X.K X.mg X.base C "store" ["self", "place", "size", "value"] (spStore C xs) 2
theorem do_store {pl : Sem Bool} {pt n x : Nat} (cl : Cls X.K C) (G : MStore X C xs) (hr : Room 2 X.A) (hx : Passes (CXE X.prog X.w) X E) (R : Rep C a m0 M w H) (ho : Ev X σ H o (.ref a.p)) (h1 : Ev X σ H e1 (.int (pt : Nat))) (h2 : Ev X σ H e2 (.int (n : Nat))) (h3 : Ev X σ H e3 (.int (x : Nat)))
    (hn : SizeOk n) (hx' : x < 4294967296) (k : ldQ xs H E pt n (∀ H', Rep C a m0 (Ra28.put M pt n (x % 256 ^ n)) w H' → Fra a H H' → Do X ss D σ H'))
    (s1 : starEach [e1, e2, e3] X.env = (false, eval e1 X.env) :: starEach [e2, e3] X.env := by rfl) (s2 : starEach [e2, e3] X.env = (false, eval e2 X.env) :: starEach [e3] X.env := by rfl) (s3 : starEach [e3] X.env = (false, eval e3 X.env) :: starEach [] X.env := by rfl)
    (hpl : (backTo pos (starEach [e2, e3] X.env)).any (·.1) = false := by rfl)
    (ht : eval (.Call (.Attribute o "store" apos) [e1, e2, e3] [] pos) X.env = (do
      let ov ← eval o X.env
      standAt apos.atName
      let (f, first) ← holding [ov] (getMethod ov "store" pl)
      callWith pos f first (backTo pos (starEach [e1, e2, e3] X.env)) (backToKw pos (keywordEach [] X.env))) := by rfl)
    (hs : swapsWith (.Call (.Attribute o "store" apos) [e1, e2, e3] [] pos) none pos'.line X.env = pure false := by rfl) : Do X (.Expr (.Call (.Attribute o "store" apos) [e1, e2, e3] [] pos) pos' :: ss) D σ H :=
  do_expr (pe_mm (pl := pl) cl G hr hx ho (ea_cons h1 (ea_cons h2 (ea_cons h3 ea_nil s3) s2) s1) (by intros; rfl) s1 hpl ht) ⟨rfl, rfl, M, w, rfl, R.toRepC, rfl, rfl, a, m0, M, w, pt, n, x, rfl, R, hn, hx', k⟩ hs
theorem do_loadl (i : Nat) {pl : Sem Bool} {pt n : Nat} {x : Str} (nd : X.N.Nodup) (cl : Cls X.K C) (G : MLoad X C xs) (hr : Room 2 X.A) (hx : Passes (CXE X.prog X.w) X E) (R : Rep C a m0 M w H) (ho : Ev X σ H o (.ref a.p)) (h1 : Ev X σ H e1 (.int (pt : Nat))) (h2 : Ev X σ H e2 (.int (n : Nat)))
    (hn : SizeOk n) (k : ldQ xs H E pt n (Do X ss D (σ.set i (some (.int (wide n (Ra28.get M pt n))))) H))
    (hi : X.N[i]? = some x := by rfl) (hl : Loc X.env.scope x := by exact Or.inl rfl)
    (s1 : starEach [e1, e2] X.env = (false, eval e1 X.env) :: starEach [e2] X.env := by rfl) (s2 : starEach [e2] X.env = (false, eval e2 X.env) :: starEach [] X.env := by rfl)
    (hpl : (backTo pos (starEach [e2] X.env)).any (·.1) = false := by rfl)
    (ht : eval (.Call (.Attribute o "load" apos) [e1, e2] [] pos) X.env = (do
      let ov ← eval o X.env
      standAt apos.atName
      let (f, first) ← holding [ov] (getMethod ov "load" pl)
      callWith pos f first (backTo pos (starEach [e1, e2] X.env)) (backToKw pos (keywordEach [] X.env))) := by rfl)
    (hs : swapsWith (.Call (.Attribute o "load" apos) [e1, e2] [] pos) (some (.Name x pos'')) pos'.line X.env = pure false := by rfl) (hf : X.fn x = true ∨ X.env.scope.names.lookup x = some .local := by first | exact .inl rfl | exact .inr rfl | assumption) :
    Do X (.Assign [.Name x pos''] (.Call (.Attribute o "load" apos) [e1, e2] [] pos) pos' :: ss) D σ H :=
  do_cons (ps_set (i := i) nd hi hl (pe_mm (pl := pl) cl G hr hx ho (ea_cons h1 (ea_cons h2 ea_nil s2) s1) (by intros; rfl) s1 hpl ht) hs hf) ⟨rfl, rfl, M, w, rfl, R.toRepC, rfl, rfl, a, m0, M, w, pt, n, rfl, R, hn, k⟩
theorem do_loadr {pl : Sem Bool} {pt n r : Nat} (cl : Cls X.K C) (G : MLoad X C xs) (hr : Room 2 X.A) (hx : Passes (CXE X.prog X.w) X E) (R : Rep C a m0 M w H) (ho : Ev X σ H o (.ref a.p)) (h1 : Ev X σ H e1 (.int (pt : Nat))) (h2 : Ev X σ H e2 (.int (n : Nat)))
    (hn : SizeOk n) (her : Ev X σ H er (.ref a.rg)) (hek : Ev X σ H ek (.int (r : Nat))) (hr16 : r < 16) (k : ldQ xs H E pt n (∀ H', RepC C a (Ra28.set M r (wide n (Ra28.get M pt n))) w H' → Chg a H H' → Do X ss D σ H'))
    (ha : ∀ v, assign (.Subscript er ek pos'') X.env v = (do
      let ov ← holding [v] (eval er X.env)
      let iv ← holding [v, ov] (eval ek X.env)
      standAt pos''
      holding [v, ov, iv] (setItem ov iv v)
      release [v, ov, iv] []) := by intro _; rfl)
    (s1 : starEach [e1, e2] X.env = (false, eval e1 X.env) :: starEach [e2] X.env := by rfl) (s2 : starEach [e2] X.env = (false, eval e2 X.env) :: starEach [] X.env := by rfl)
    (hpl : (backTo pos (starEach [e2] X.env)).any (·.1) = false := by rfl)
    (ht : eval (.Call (.Attribute o "load" apos) [e1, e2] [] pos) X.env = (do
      let ov ← eval o X.env
      standAt apos.atName
      let (f, first) ← holding [ov] (getMethod ov "load" pl)
      callWith pos f first (backTo pos (starEach [e1, e2] X.env)) (backToKw pos (keywordEach [] X.env))) := by rfl)
    (hs : swapsWithSole [.Subscript er ek pos''] (.Call (.Attribute o "load" apos) [e1, e2] [] pos) pos'.line X.env = pure false := by rfl) (hw : swappedStores [.Subscript er ek pos''] (.Call (.Attribute o "load" apos) [e1, e2] [] pos) X.env = pure none := by rfl)
    (h1' : (assignEach [.Subscript er ek pos''] X.env).map (·.2) = [assign (.Subscript er ek pos'') X.env] := by rfl) :
    Do X (.Assign [.Subscript er ek pos''] (.Call (.Attribute o "load" apos) [e1, e2] [] pos) pos' :: ss) D σ H :=
  do_cons (ps_asg (pe_mm (pl := pl) cl G hr hx ho (ea_cons h1 (ea_cons h2 ea_nil s2) s1) (by intros; rfl) s1 hpl ht) (pg_sub her hek (set_r (C := C) (a := a)) ha) hs hw h1')
    ⟨rfl, rfl, M, w, rfl, R.toRepC, rfl, rfl, a, m0, M, w, pt, n, rfl, R, hn, ldQ_imp k fun _ _ k => ⟨rfl, rfl, rfl, rfl, M, w, r, _, rfl, rfl, rfl, hr16, wide_lt R.good hn, R.toRepC, k⟩⟩
theorem do_augr {op : Operator} {g : Int → Int → Int} {n y z : Nat} (hop : PIp X op (rI0 fun i j => .int (g i j))) (R : RepC C a M w H) (hr : Ev X σ H er (.ref a.rg)) (hk : Ev X σ H ek (.int (n : Nat))) (h : n < 16) (he : Ev X σ H e (.int (y : Nat))) (hz : g (M.r n) y = (z : Nat)) (hz' : z < 4294967296)
    (k : ∀ H', RepC C a (Ra28.set M n z) w H' → Chg a H H' → Do X ss D σ H')
    (ha : ∀ ov iv new, augStore ek ov iv new = (do holding [new, ov, iv] (setItem ov iv new); release [new, ov, iv] []; pure .next) := by intros; rfl) : Do X (.AugAssign (.Subscript er ek pos') op e pos :: ss) D σ H :=
  do_cons (ps_augS hr hk (get_r (C := C) (a := a)) he hop (set_r (C := C) (a := a)) ha) ⟨rfl, rfl, rfl, rfl, M, w, n, rfl, rfl, h, R, rfl, rfl, _, _, rfl, rfl, M, w, n, z, rfl, rfl, congrArg V.int hz, h, hz', R, k⟩
theorem do_call (G : Cal X.prog X.w X.K X.mg X.base x ps sp k) (hr : Room k X.A) (hx : Passes (CXE X.prog X.w) X E) (ha : EvA X σ H (e :: es) vs) (h : sp vs H (fun _ H' => Do X ss D σ H') E) (hg : Gl X x := by rfl) (hdb : (x == ("__debug__" : Str)) = false := by decide)
    (he : starEach (e :: es) X.env = (false, eval e X.env) :: starEach es X.env := by rfl) (hpl : (backTo pos (starEach es X.env)).any (·.1) = false := by rfl) (hs : swapsWith (.Call (.Name x p) (e :: es) [] pos) none pos'.line X.env = pure false := by rfl) : Do X (.Expr (.Call (.Name x p) (e :: es) [] pos) pos' :: ss) D σ H :=
  do_expr (pe_c G hr hx ha hg hdb he hpl) ⟨rfl, rfl, by show sp (vs ++ []) H _ E; rw [List.append_nil]; exact h⟩ hs
theorem do_retc (G : Cal X.prog X.w X.K X.mg X.base x ps sp k) (hr : Room k X.A) (hx : Passes (CXE X.prog X.w) X E) (ha : EvA X σ H (e :: es) vs) (h : sp vs H D.rt E) (hg : Gl X x := by rfl) (hdb : (x == ("__debug__" : Str)) = false := by decide)
    (he : starEach (e :: es) X.env = (false, eval e X.env) :: starEach es X.env := by rfl) (hpl : (backTo pos (starEach es X.env)).any (·.1) = false := by rfl) : Do X (.Return (some (.Call (.Name x p) (e :: es) [] pos)) pos' :: ss) D σ H :=
  do_cons (ps_ret (pe_c G hr hx ha hg hdb he hpl)) ⟨rfl, rfl, by show sp (vs ++ []) H _ E; rw [List.append_nil]; exact h⟩
theorem do_setc (i : Nat) {y : Str} (nd : X.N.Nodup) (G : Cal X.prog X.w X.K X.mg X.base x ps sp k) (hr : Room k X.A) (hx : Passes (CXE X.prog X.w) X E) (ha : EvA X σ H (e :: es) vs) (h : sp vs H (fun v H' => Do X ss D (σ.set i (some v)) H') E) (hi : X.N[i]? = some y := by rfl) (hl : Loc X.env.scope y := by exact Or.inl rfl) (hg : Gl X x := by rfl) (hdb : (x == ("__debug__" : Str)) = false := by decide)
    (he : starEach (e :: es) X.env = (false, eval e X.env) :: starEach es X.env := by rfl) (hpl : (backTo pos (starEach es X.env)).any (·.1) = false := by rfl) (hs : swapsWith (.Call (.Name x p) (e :: es) [] pos) (some (.Name y pos'')) pos'.line X.env = pure false := by rfl)
    (hf : X.fn y = true ∨ X.env.scope.names.lookup y = some .local := by first | exact .inl rfl | exact .inr rfl | assumption) : Do X (.Assign [.Name y pos''] (.Call (.Name x p) (e :: es) [] pos) pos' :: ss) D σ H :=
  do_cons (ps_set (i := i) nd hi hl (pe_c G hr hx ha hg hdb he hpl) hs hf) ⟨rfl, rfl, by show sp (vs ++ []) H _ E; rw [List.append_nil]; exact h⟩
theorem do_meth {pl : Sem Bool} (cl : Cls X.K C) (G : Mth X.prog X.w X.K X.mg X.base C m ps sp k) (hr : Room k X.A) (hx : Passes (CXE X.prog X.w) X E) (R : RepC C a M w H) (ho : Ev X σ H o (.ref a.p)) (ha : EvA X σ H (e :: es) vs) (h : sp (.ref a.p :: vs) H (fun _ H' => Do X ss D σ H') E) (hl : ∀ M w, (fsOf a M w).lookup m = none := by intros; rfl)
    (hst : starEach (e :: es) X.env = (false, eval e X.env) :: starEach es X.env := by rfl) (hpl : (backTo pos (starEach es X.env)).any (·.1) = false := by rfl)
    (ht : eval (.Call (.Attribute o m apos) (e :: es) [] pos) X.env = (do
      let ov ← eval o X.env
      standAt apos.atName
      let (f, first) ← holding [ov] (getMethod ov m pl)
      callWith pos f first (backTo pos (starEach (e :: es) X.env)) (backToKw pos (keywordEach [] X.env))) := by rfl)
    (hs : swapsWith (.Call (.Attribute o m apos) (e :: es) [] pos) none pos'.line X.env = pure false := by rfl) : Do X (.Expr (.Call (.Attribute o m apos) (e :: es) [] pos) pos' :: ss) D σ H :=
  do_expr (pe_mm (pl := pl) cl G hr hx ho ha hl hst hpl ht) ⟨rfl, rfl, M, w, rfl, R, rfl, rfl, h⟩ hs
end
section
variable {C : Addr} {xs : Xs} {a : Ad} {m0 : Nat → Nat} {M M' : Ra28.M} {w w' : Nat} {H H' : Hp} {Q : VK} {E : XK}
theorem fin_nx (kk : effQ C xs a m0 H Q E (.nx M' w')) (R : Rep C a m0 M w H) (R' : RepC C a M' w' H') (c : Chg a H H') (e : M'.mem = M.mem := by rfl) : Q .non H' := kk H' (R.chg R' c e) c.fra
theorem fin_st (kk : effQ C xs a m0 H Q E (.nx M' w')) (R' : Rep C a m0 M' w' H') (c : Fra a H H') : Q .non H' := kk H' R' c
theorem fin_jp {t : Nat} (kk : effQ C xs a m0 H Q E (.jp M' t)) (R : Rep C a m0 M w H) (R' : RepC C a M' 0 H') (c : Chg a H H') (e : M'.mem = M.mem := by rfl) : Q (.int t) H' := kk H' (R.chg R' c e) c.fra
abbrev spA (C : Addr) (xs : Xs) (c : Ac) : Sp := spAct C xs (okA c) (effA c)
section
variable {P : Program} {w : World} {K : PySem.W.Frag} {mg : Str → Option Value} {base : Heap}
theorem act_do {x : Str} {st : Stmt} {f C : Addr} {xs : Xs} {fd : FuncData} {N : List Str} {k : Nat} {c : Ac} (F : Fun K x x st f fd) (S : FnScope N P4 (defScope st))
    (h : ∀ (cdv : Value) (A : Around) (outer : List Env) (s : Shared) (H : Hp) (Q : VK) (E : XK) (a : Ad) (m0 : Nat → Nat) (M : Ra28.M) (n j i : Nat), Room k (A.deeper (envOfC x (defScope st) s.heap.objs.size f cdv)) → Rep C a m0 M 0 H →
      n < 16 → j < 16 → i < 256 → j = i / 16 → M.pc < 65536 → okA c n i → effQ C xs a m0 H Q E (effA c M n j i) →
      Do (cxE P w K mg base N x (defScope st) f cdv A outer s H E) (defBody st) { nx := fun _ H' => Q .non H', rt := Q } (start N [.ref a.p, .int n, .int j, .int i]) H) :
    FnOk P w K mg base (CXE P w) (k + 1) f fd P4 (spA C xs c) :=
  act_ok F S fun cdv A outer s H Q E a m0 M n j i hr R h1 h2 h3 h4 h5 h6 h7 => ⟨_, pss_do, h cdv A outer s H Q E a m0 M n j i hr R h1 h2 h3 h4 h5 h6 h7⟩
theorem fn_do {x qual : Str} {st : Stmt} {f : Addr} {fd : FuncData} {N ps : List Str} {k : Nat} {sp : Sp} (F : Fun K x qual st f fd) (S : FnScope N ps (defScope st)) (len : ∀ vs H Q E, sp vs H Q E → vs.length = ps.length)
    (h : ∀ (cdv : Value) (A : Around) (outer : List Env) (s : Shared) (H : Hp) (vs : List V) (Q : VK) (E : XK), Room k (A.deeper (envOfC qual (defScope st) s.heap.objs.size f cdv)) → sp vs H Q E →
      Do (cxE P w K mg base N qual (defScope st) f cdv A outer s H E) (defBody st) { nx := fun _ H' => Q .non H', rt := Q } (start N vs) H) : FnOk P w K mg base (CXE P w) (k + 1) f fd ps sp :=
  F.okE S len fun cdv A outer s H vs Q E hr hsp => ⟨_, pss_do, h cdv A outer s H vs Q E hr hsp⟩
end
end
end Sh
namespace Sh
open PySem PyProof.Rows L2
def spBase (C : Addr) : Sp := fun vs H Q _ => ∃ (a : Ad) (M : Ra28.M) (w : Nat), vs = [.ref a.p] ∧ RepC C a M w H ∧ Q (.int ((M.pc + 4 : Nat) : Int)) H
def spLong (C : Addr) : Sp := fun vs H Q _ => ∃ (a : Ad) (M : Ra28.M) (w : Nat), vs = [.ref a.p] ∧ RepC C a M w H ∧ M.pc < 65536 ∧ Q (.int (((M.pc + 4) / 4 * 4 : Nat) : Int)) H
def spShort (C : Addr) : Sp := fun vs H Q _ => ∃ (a : Ad) (M : Ra28.M) (w i : Nat), vs = [.ref a.p, .int i] ∧ RepC C a M w H ∧ M.pc < 65536 ∧ Q (.int ((there M 8 i : Nat) : Int)) H
def spRSum (C : Addr) : Sp := fun vs H Q _ => ∃ (a : Ad) (M : Ra28.M) (w : Nat), vs = [.ref a.p] ∧ RepC C a M w H ∧ Q (.int (Ra28.mac64 M)) H
def spWSum (C : Addr) : Sp := fun vs H Q _ => ∃ (a : Ad) (M : Ra28.M) (w : Nat) (z : Int), vs = [.ref a.p, .int z] ∧ RepC C a M w H ∧ ∀ H', RepC C a { M with mac := Ra28.wrap64 z } w H' → Chg a H H' → Q .non H'
def spKProd (C : Addr) : Sp := fun vs H Q _ => ∃ (a : Ad) (M : Ra28.M) (w : Nat) (z : Int), vs = [.ref a.p, .int z] ∧ RepC C a M w H ∧ ∀ H', RepC C a { M with mac := Ra28.wrap64 z } w H' → Chg a H H' → Q .non H'
def spKSign (C : Addr) : Sp := fun vs H Q _ => ∃ (a : Ad) (M : Ra28.M) (w n : Nat) (z : Int), vs = [.ref a.p, .int n, .int z] ∧ n < 16 ∧ RepC C a M w H ∧ ∀ H', RepC C a { Ra28.set M n (Ra28.wrap z) with t := !decide (-2147483648 ≤ z ∧ z < 2147483648) } w H' → Chg a H H' → Q .non H'
def spWhich : Sp := fun vs H Q _ => ∃ (j i : Nat), vs = [.int j, .int i] ∧ Q (.int ((whichOf j i : Nat) : Int)) H
def spNear (C : Addr) : Sp := fun vs H Q _ => ∃ (a : Ad) (M : Ra28.M) (w j i s : Nat), vs = [.ref a.p, .int j, .int i, .int s] ∧ j < 16 ∧ s ≤ 4 ∧ RepC C a M w H ∧ Q (.int ((Ra28.plus (M.r j) (s * (i % 16)) : Nat) : Int)) H
def spPBase (C : Addr) : Sp := fun vs H Q _ => ∃ (a : Ad) (M : Ra28.M) (w i s : Nat), vs = [.ref a.p, .int i, .int s] ∧ s ≤ 4 ∧ RepC C a M w H ∧ Q (.int ((Ra28.plus M.gbr (s * i) : Nat) : Int)) H
def spComb : Sp := fun vs H Q _ => ∃ (n x i : Nat), vs = [.int n, .int x, .int i] ∧ Q (.int ((combE n x i : Nat) : Int)) H
def spByte (C : Addr) : Sp := fun vs H Q _ => ∃ (a : Ad) (M : Ra28.M) (w : Nat), vs = [.ref a.p] ∧ RepC C a M w H ∧ Q (.int ((Ra28.plus (M.r 0) M.gbr : Nat) : Int)) H
section
variable {X : Cx} {σ : L2.St} {H : Hp} {e e1 e2 e3 e4 : Expr} {pos p : Pos} {C : Addr} {a : Ad} {M : Ra28.M} {w : Nat} {E : XK}
theorem ev_signed {z : Int} {n : Nat} (G : Cal X.prog X.w X.K X.mg X.base "signed" ["value", "width"] spSigned 1) (hr : Room 1 X.A) (hx : Passes (CXE X.prog X.w) X E) (h1 : Ev X σ H e1 (.int z)) (h2 : Ev X σ H e2 (.int (n : Nat))) (l1 : 1 ≤ n) (l2 : n ≤ 64) (hg : Gl X "signed" := by rfl)
    (s1 : starEach [e1, e2] X.env = (false, eval e1 X.env) :: starEach [e2] X.env := by rfl) (s2 : starEach [e2] X.env = (false, eval e2 X.env) :: starEach [] X.env := by rfl) (hpl : (backTo pos (starEach [e2] X.env)).any (·.1) = false := by rfl) : Ev X σ H (.Call (.Name "signed" p) [e1, e2] [] pos) (.int (sg n z)) :=
  ev_c G hr hx (ea_cons h1 (ea_cons h2 ea_nil s2) s1) (fun Q q => ⟨z, n, rfl, l1, l2, q⟩) hg (by decide) s1 hpl
theorem ev_clamped {z l m : Int} (G : Cal X.prog X.w X.K X.mg X.base "clamped" ["value", "least", "most"] spClamped 1) (hr : Room 1 X.A) (hx : Passes (CXE X.prog X.w) X E) (h1 : Ev X σ H e1 (.int z)) (h2 : Ev X σ H e2 (.int l)) (h3 : Ev X σ H e3 (.int m)) (hg : Gl X "clamped" := by rfl)
    (s1 : starEach [e1, e2, e3] X.env = (false, eval e1 X.env) :: starEach [e2, e3] X.env := by rfl) (s2 : starEach [e2, e3] X.env = (false, eval e2 X.env) :: starEach [e3] X.env := by rfl) (s3 : starEach [e3] X.env = (false, eval e3 X.env) :: starEach [] X.env := by rfl) (hpl : (backTo pos (starEach [e2, e3] X.env)).any (·.1) = false := by rfl) :
    Ev X σ H (.Call (.Name "clamped" p) [e1, e2, e3] [] pos) (.int (max l (min m z))) :=
  ev_c G hr hx (ea_cons h1 (ea_cons h2 (ea_cons h3 ea_nil s3) s2) s1) (fun Q q => ⟨z, l, m, rfl, q⟩) hg (by decide) s1 hpl
theorem ev_base (G : Cal X.prog X.w X.K X.mg X.base "base" ["machine"] (spBase C) 1) (hr : Room 1 X.A) (hx : Passes (CXE X.prog X.w) X E) (R : RepC C a M w H) (h1 : Ev X σ H e1 (.ref a.p)) (hg : Gl X "base" := by rfl)
    (s1 : starEach [e1] X.env = (false, eval e1 X.env) :: starEach [] X.env := by rfl) (hpl : (backTo pos (starEach [] X.env)).any (·.1) = false := by rfl) : Ev X σ H (.Call (.Name "base" p) [e1] [] pos) (.int ((M.pc + 4 : Nat) : Int)) :=
  ev_c G hr hx (ea_cons h1 ea_nil s1) (fun Q q => ⟨a, M, w, rfl, R, q⟩) hg (by decide) s1 hpl
theorem ev_long (G : Cal X.prog X.w X.K X.mg X.base "long_base" ["machine"] (spLong C) 2) (hr : Room 2 X.A) (hx : Passes (CXE X.prog X.w) X E) (R : RepC C a M w H) (h1 : Ev X σ H e1 (.ref a.p)) (hpc : M.pc < 65536) (hg : Gl X "long_base" := by rfl)
    (s1 : starEach [e1] X.env = (false, eval e1 X.env) :: starEach [] X.env := by rfl) (hpl : (backTo pos (starEach [] X.env)).any (·.1) = false := by rfl) : Ev X σ H (.Call (.Name "long_base" p) [e1] [] pos) (.int (((M.pc + 4) / 4 * 4 : Nat) : Int)) :=
  ev_c G hr hx (ea_cons h1 ea_nil s1) (fun Q q => ⟨a, M, w, rfl, R, hpc, q⟩) hg (by decide) s1 hpl
theorem ev_short {i : Nat} (G : Cal X.prog X.w X.K X.mg X.base "short_target" ["machine", "i"] (spShort C) 2) (hr : Room 2 X.A) (hx : Passes (CXE X.prog X.w) X E) (R : RepC C a M w H) (h1 : Ev X σ H e1 (.ref a.p)) (h2 : Ev X σ H e2 (.int (i : Nat))) (hpc : M.pc < 65536) (hg : Gl X "short_target" := by rfl)
    (s1 : starEach [e1, e2] X.env = (false, eval e1 X.env) :: starEach [e2] X.env := by rfl) (s2 : starEach [e2] X.env = (false, eval e2 X.env) :: starEach [] X.env := by rfl) (hpl : (backTo pos (starEach [e2] X.env)).any (·.1) = false := by rfl) : Ev X σ H (.Call (.Name "short_target" p) [e1, e2] [] pos) (.int ((there M 8 i : Nat) : Int)) :=
  ev_c G hr hx (ea_cons h1 (ea_cons h2 ea_nil s2) s1) (fun Q q => ⟨a, M, w, i, rfl, R, hpc, q⟩) hg (by decide) s1 hpl
theorem ev_rsum (G : Cal X.prog X.w X.K X.mg X.base "read_sum" ["machine"] (spRSum C) 2) (hr : Room 2 X.A) (hx : Passes (CXE X.prog X.w) X E) (R : RepC C a M w H) (h1 : Ev X σ H e1 (.ref a.p)) (hg : Gl X "read_sum" := by rfl)
    (s1 : starEach [e1] X.env = (false, eval e1 X.env) :: starEach [] X.env := by rfl) (hpl : (backTo pos (starEach [] X.env)).any (·.1) = false := by rfl) : Ev X σ H (.Call (.Name "read_sum" p) [e1] [] pos) (.int (Ra28.mac64 M)) :=
  ev_c G hr hx (ea_cons h1 ea_nil s1) (fun Q q => ⟨a, M, w, rfl, R, q⟩) hg (by decide) s1 hpl
theorem ev_which {j i : Nat} (G : Cal X.prog X.w X.K X.mg X.base "which_of" ["m", "i"] spWhich 1) (hr : Room 1 X.A) (hx : Passes (CXE X.prog X.w) X E) (h1 : Ev X σ H e1 (.int (j : Nat))) (h2 : Ev X σ H e2 (.int (i : Nat))) (hg : Gl X "which_of" := by rfl)
    (s1 : starEach [e1, e2] X.env = (false, eval e1 X.env) :: starEach [e2] X.env := by rfl) (s2 : starEach [e2] X.env = (false, eval e2 X.env) :: starEach [] X.env := by rfl) (hpl : (backTo pos (starEach [e2] X.env)).any (·.1) = false := by rfl) : Ev X σ H (.Call (.Name "which_of" p) [e1, e2] [] pos) (.int ((whichOf j i : Nat) : Int)) :=
  ev_c G hr hx (ea_cons h1 (ea_cons h2 ea_nil s2) s1) (fun Q q => ⟨j, i, rfl, q⟩) hg (by decide) s1 hpl
theorem ev_near {j i s : Nat} (G : Cal X.prog X.w X.K X.mg X.base "place_near" ["machine", "m", "i", "size"] (spNear C) 1) (hr : Room 1 X.A) (hx : Passes (CXE X.prog X.w) X E) (R : RepC C a M w H) (h1 : Ev X σ H e1 (.ref a.p)) (h2 : Ev X σ H e2 (.int (j : Nat))) (h3 : Ev X σ H e3 (.int (i : Nat))) (h4 : Ev X σ H e4 (.int (s : Nat))) (hj : j < 16) (hs : s ≤ 4) (hg : Gl X "place_near" := by rfl)
    (s1 : starEach [e1, e2, e3, e4] X.env = (false, eval e1 X.env) :: starEach [e2, e3, e4] X.env := by rfl) (s2 : starEach [e2, e3, e4] X.env = (false, eval e2 X.env) :: starEach [e3, e4] X.env := by rfl) (s3 : starEach [e3, e4] X.env = (false, eval e3 X.env) :: starEach [e4] X.env := by rfl)
    (s4 : starEach [e4] X.env = (false, eval e4 X.env) :: starEach [] X.env := by rfl) (hpl : (backTo pos (starEach [e2, e3, e4] X.env)).any (·.1) = false := by rfl) : Ev X σ H (.Call (.Name "place_near" p) [e1, e2, e3, e4] [] pos) (.int ((Ra28.plus (M.r j) (s * (i % 16)) : Nat) : Int)) :=
  ev_c G hr hx (ea_cons h1 (ea_cons h2 (ea_cons h3 (ea_cons h4 ea_nil s4) s3) s2) s1) (fun Q q => ⟨a, M, w, j, i, s, rfl, hj, hs, R, q⟩) hg (by decide) s1 hpl
theorem ev_pbase {i s : Nat} (G : Cal X.prog X.w X.K X.mg X.base "place_by_base" ["machine", "i", "size"] (spPBase C) 1) (hr : Room 1 X.A) (hx : Passes (CXE X.prog X.w) X E) (R : RepC C a M w H) (h1 : Ev X σ H e1 (.ref a.p)) (h2 : Ev X σ H e2 (.int (i : Nat))) (h3 : Ev X σ H e3 (.int (s : Nat))) (hs : s ≤ 4) (hg : Gl X "place_by_base" := by rfl)
    (s1 : starEach [e1, e2, e3] X.env = (false, eval e1 X.env) :: starEach [e2, e3] X.env := by rfl) (s2 : starEach [e2, e3] X.env = (false, eval e2 X.env) :: starEach [e3] X.env := by rfl) (s3 : starEach [e3] X.env = (false, eval e3 X.env) :: starEach [] X.env := by rfl) (hpl : (backTo pos (starEach [e2, e3] X.env)).any (·.1) = false := by rfl) :
    Ev X σ H (.Call (.Name "place_by_base" p) [e1, e2, e3] [] pos) (.int ((Ra28.plus M.gbr (s * i) : Nat) : Int)) :=
  ev_c G hr hx (ea_cons h1 (ea_cons h2 (ea_cons h3 ea_nil s3) s2) s1) (fun Q q => ⟨a, M, w, i, s, rfl, hs, R, q⟩) hg (by decide) s1 hpl
theorem ev_comb {n x i : Nat} (G : Cal X.prog X.w X.K X.mg X.base "combined" ["n", "value", "i"] spComb 1) (hr : Room 1 X.A) (hx : Passes (CXE X.prog X.w) X E) (h1 : Ev X σ H e1 (.int (n : Nat))) (h2 : Ev X σ H e2 (.int (x : Nat))) (h3 : Ev X σ H e3 (.int (i : Nat))) (hg : Gl X "combined" := by rfl)
    (s1 : starEach [e1, e2, e3] X.env = (false, eval e1 X.env) :: starEach [e2, e3] X.env := by rfl) (s2 : starEach [e2, e3] X.env = (false, eval e2 X.env) :: starEach [e3] X.env := by rfl) (s3 : starEach [e3] X.env = (false, eval e3 X.env) :: starEach [] X.env := by rfl) (hpl : (backTo pos (starEach [e2, e3] X.env)).any (·.1) = false := by rfl) :
    Ev X σ H (.Call (.Name "combined" p) [e1, e2, e3] [] pos) (.int ((combE n x i : Nat) : Int)) :=
  ev_c G hr hx (ea_cons h1 (ea_cons h2 (ea_cons h3 ea_nil s3) s2) s1) (fun Q q => ⟨n, x, i, rfl, q⟩) hg (by decide) s1 hpl
theorem ev_byte (G : Cal X.prog X.w X.K X.mg X.base "byte_place" ["machine"] (spByte C) 1) (hr : Room 1 X.A) (hx : Passes (CXE X.prog X.w) X E) (R : RepC C a M w H) (h1 : Ev X σ H e1 (.ref a.p)) (hg : Gl X "byte_place" := by rfl)
    (s1 : starEach [e1] X.env = (false, eval e1 X.env) :: starEach [] X.env := by rfl) (hpl : (backTo pos (starEach [] X.env)).any (·.1) = false := by rfl) : Ev X σ H (.Call (.Name "byte_place" p) [e1] [] pos) (.int ((Ra28.plus (M.r 0) M.gbr : Nat) : Int)) :=
  ev_c G hr hx (ea_cons h1 ea_nil s1) (fun Q q => ⟨a, M, w, rfl, R, q⟩) hg (by decide) s1 hpl
theorem ev_read {pl : Sem Bool} {k : Nat} {o : Expr} {apos : Pos} (cl : Cls X.K C) (G : Mth X.prog X.w X.K X.mg X.base C "read" ["self", "which"] (spRead C) 1) (hr : Room 1 X.A) (hx : Passes (CXE X.prog X.w) X E) (R : RepC C a M w H) (ho : Ev X σ H o (.ref a.p)) (h1 : Ev X σ H e1 (.int (k : Nat))) (hk : k ≤ 22)
    (s1 : starEach [e1] X.env = (false, eval e1 X.env) :: starEach [] X.env := by rfl) (hpl : (backTo pos (starEach [] X.env)).any (·.1) = false := by rfl)
    (ht : eval (.Call (.Attribute o "read" apos) [e1] [] pos) X.env = (do
      let ov ← eval o X.env
      standAt apos.atName
      let (f, first) ← holding [ov] (getMethod ov "read" pl)
      callWith pos f first (backTo pos (starEach [e1] X.env)) (backToKw pos (keywordEach [] X.env))) := by rfl) :
    Ev X σ H (.Call (.Attribute o "read" apos) [e1] [] pos) (.int ((rdV M k : Nat) : Int)) :=
  ev_mm (pl := pl) cl G hr hx R ho (ea_cons h1 ea_nil s1) (fun Q q => ⟨a, M, w, k, rfl, R, hk, q⟩) (by intros; rfl) s1 hpl ht
end
end Sh
namespace Sh
open PySem PyProof.Rows L2
theorem size_ok {i : Nat} (h : i % 4 < 3) : SizeOk (2 ^ (i % 4)) := by
  have : i % 4 = 0 ∨ i % 4 = 1 ∨ i % 4 = 2 := by omega
  rcases this with e | e | e <;> rw [e]
  · exact .inl rfl
  · exact .inr (.inl rfl)
  · exact .inr (.inr rfl)
theorem size_le {i : Nat} (h : i % 4 < 3) : 2 ^ (i % 4) ≤ 4 := by
  have : i % 4 = 0 ∨ i % 4 = 1 ∨ i % 4 = 2 := by omega
  rcases this with e | e | e <;> rw [e] <;> decide
theorem ev_size {X : Cx} {σ : L2.St} {H : Hp} {e : Expr} {n : Nat} {l1 l2 p1 p2 p3 p4} (h : Ev X σ H e (.int (n : Nat))) : Ev X σ H (.BinOp (.Constant (.int 1) l1 p1) .LShift (.BinOp e .BitAnd (.Constant (.int 3) l2 p2) p3) p4) (.int ((2 ^ (n % 4) : Nat) : Int)) := by
  have e1 := mask2 n
  refine (ev_shl ev_int ((ev_and h ev_int).int e1) ⟨by omega, by omega, by decide⟩).int ?_
  rw [Int.toNat_natCast, Int.one_mul]
  simp
theorem mac_hi {M : Ra28.M} {hi lo : Nat} (h : lo < 4294967296) : setR (setR M 19 hi) 20 lo = { M with mac := hi * 4294967296 + lo } := by
  have e : (hi * 4294967296 + M.mac % 4294967296) / 4294967296 * 4294967296 + lo = hi * 4294967296 + lo := by omega
  show ({ M with mac := (hi * 4294967296 + M.mac % 4294967296) / 4294967296 * 4294967296 + lo } : Ra28.M) = _
  rw [e]
theorem and64 (z : Int) : Builtin.bitAnd z 18446744073709551615 = ((Ra28.wrap64 z : Nat) : Int) := by
  have := and_mask z 64
  rw [show (2 : Int) ^ 64 - 1 = 18446744073709551615 from rfl] at this
  rw [this]
  unfold Ra28.wrap64
  have := Int.emod_nonneg z (b := (2 : Int) ^ 64) (by decide)
  omega
theorem wrap64_lt (z : Int) : Ra28.wrap64 z < 18446744073709551616 := by
  unfold Ra28.wrap64
  have := Int.emod_lt_of_pos z (b := (2 : Int) ^ 64) (by decide)
  have e : (2 : Int) ^ 64 = 18446744073709551616 := rfl
  omega
theorem wrap64_lo (z : Int) : Builtin.bitAnd z 4294967295 = ((Ra28.wrap64 z % 4294967296 : Nat) : Int) := by
  rw [bitAnd_m32]
  unfold Ra28.wrap64
  have := Int.emod_nonneg z (b := (2 : Int) ^ 64) (by decide)
  have e : (2 : Int) ^ 64 = 18446744073709551616 := rfl
  rw [e] at *
  omega
theorem wrap64_hi (z : Int) : Builtin.bitAnd (z / 2 ^ (32 : Int).toNat) 4294967295 = ((Ra28.wrap64 z / 4294967296 : Nat) : Int) := by
  rw [bitAnd_m32]
  unfold Ra28.wrap64
  have := Int.emod_nonneg z (b := (2 : Int) ^ 64) (by decide)
  have e : (2 : Int) ^ 64 = 18446744073709551616 := rfl
  have e1 : (2 : Int) ^ (32 : Int).toNat = 4294967296 := rfl
  rw [e] at *
  rw [e1]
  omega
structure Blt (mg : Str → Option Value) : Prop where
  len : mg "len" = none
  max : mg "max" = none
  min : mg "min" = none
  any : mg "any" = none
  sorted : mg "sorted" = none
  range : mg "range" = none
section
variable {P : Program} {w : World} {K : PySem.W.Frag} {mg : Str → Option Value} {base : Heap} {f C : Addr} {xs : Xs} {fd : FuncData}
theorem sc_clamped : FnScope ["value", "least", "most"] ["value", "least", "most"] (defScope (top 4)) := ⟨rfl, rfl, rfl, by decide +kernel, rfl, by decide +kernel, by decide +kernel⟩
theorem ok_clamped (F : Fun K "clamped" "clamped" (top 4) f fd) (B : Blt mg) : FnOk P w K mg base (CXE P w) 1 f fd ["value", "least", "most"] spClamped := by
  refine fn_do F sc_clamped (fun vs H Q E h => ?_) (fun cdv A outer s H vs Q E hr h => ?_)
  · obtain ⟨v, l, m, rfl, _⟩ := h; rfl
  · obtain ⟨v, l, m, rfl, k⟩ := h
    refine do_one (ps_ret (pe_callB (call_max2 rfl) rfl B.max boot_max (pa_cons (pv 1) (pa_cons (pe_callB (call_min2 rfl) rfl B.min boot_min (pa_cons (pv 2) (pa_cons (pv 0) pa_nil))) pa_nil)))) ?_
    refine ⟨_, rfl, _, rfl, _, rfl, _, _, rfl, _, _, rfl, ?_⟩
    have e : (if (if v < m then v else m) > l then (if v < m then v else m) else l) = max l (min m v) := by omega
    show Q (.int (if (if v < m then v else m) > l then (if v < m then v else m) else l)) H
    rw [e]
    exact k
theorem sc_base : FnScope ["machine"] ["machine"] (defScope (top 19)) := ⟨rfl, rfl, rfl, by decide +kernel, rfl, by decide +kernel, by decide +kernel⟩
theorem ok_base (F : Fun K "base" "base" (top 19) f fd) (T : Tx K mg C) : FnOk P w K mg base (CXE P w) 1 f fd ["machine"] (spBase C) := by
  refine fn_do F sc_base (fun vs H Q E h => ?_) (fun cdv A outer s H vs Q E hr h => ?_)
  · obtain ⟨a, M, w, rfl, _⟩ := h; rfl
  · obtain ⟨a, M, w', rfl, R, k⟩ := h
    exact do_ret ((ev_add (ev_place T R (ev_v 0)) ev_int).int (by omega)) k
theorem sc_long : FnScope ["machine"] ["machine"] (defScope (top 20)) := ⟨rfl, rfl, rfl, by decide +kernel, rfl, by decide +kernel, by decide +kernel⟩
theorem ok_long (F : Fun K "long_base" "long_base" (top 20) f fd) (T : Tx K mg C) (gb : Cal P w K mg base "base" ["machine"] (spBase C) 1) : FnOk P w K mg base (CXE P w) 2 f fd ["machine"] (spLong C) := by
  refine fn_do F sc_long (fun vs H Q E h => ?_) (fun cdv A outer s H vs Q E hr h => ?_)
  · obtain ⟨a, M, w, rfl, _⟩ := h; rfl
  · obtain ⟨a, M, w', rfl, R, hpc, k⟩ := h
    refine do_ret ((ev_and (ev_base gb hr passE R (ev_v 0)) ev_int).int ?_) k
    rw [show Builtin.bitAnd ((M.pc + 4 : Nat) : Int) 4294967292 = (((M.pc + 4) &&& 4294967292 : Nat) : Int) from and_nn _ 4294967292, down4 _ (by omega)]
theorem sc_short : FnScope ["machine", "i"] ["machine", "i"] (defScope (top 27)) := ⟨rfl, rfl, rfl, by decide +kernel, rfl, by decide +kernel, by decide +kernel⟩
theorem ok_short (F : Fun K "short_target" "short_target" (top 27) f fd) (T : Tx K mg C) (gb : Cal P w K mg base "base" ["machine"] (spBase C) 1) (gs : Cal P w K mg base "signed" ["value", "width"] spSigned 1) : FnOk P w K mg base (CXE P w) 2 f fd ["machine", "i"] (spShort C) := by
  refine fn_do F sc_short (fun vs H Q E h => ?_) (fun cdv A outer s H vs Q E hr h => ?_)
  · obtain ⟨a, M, w, i, rfl, _⟩ := h; rfl
  · obtain ⟨a, M, w', i, rfl, R, hpc, k⟩ := h
    exact do_ret ((ev_and (ev_add (ev_base gb hr passE R (ev_v 0)) (ev_mul ev_int (ev_signed (n := 8) gs hr passE (ev_v 1) ev_int (by decide) (by decide)) (.inl ⟨by decide, by decide⟩))) (ev_num T.MASK)).int (there_eq hpc 8 i)) k
theorem sc_rsum : FnScope ["machine"] ["machine"] (defScope (top 47)) := ⟨rfl, rfl, rfl, by decide +kernel, rfl, by decide +kernel, by decide +kernel⟩
theorem ok_rsum (F : Fun K "read_sum" "read_sum" (top 47) f fd) (T : Tx K mg C) (gs : Cal P w K mg base "signed" ["value", "width"] spSigned 1) : FnOk P w K mg base (CXE P w) 2 f fd ["machine"] (spRSum C) := by
  refine fn_do F sc_rsum (fun vs H Q E h => ?_) (fun cdv A outer s H vs Q E hr h => ?_)
  · obtain ⟨a, M, w, rfl, _⟩ := h; rfl
  · obtain ⟨a, M, w', rfl, R, k⟩ := h
    have g := R.good.mac
    have e : Builtin.bitOr (((M.mac / 4294967296 : Nat) : Int) * 2 ^ (32 : Int).toNat) ((M.mac % 4294967296 : Nat) : Int) = ((M.mac : Nat) : Int) := by
      rw [show ((M.mac / 4294967296 : Nat) : Int) * 2 ^ (32 : Int).toNat = ((M.mac / 4294967296 * 4294967296 : Nat) : Int) from shl_nat _ 32, or_nn, show M.mac / 4294967296 * 4294967296 ||| M.mac % 4294967296 = M.mac / 4294967296 * 4294967296 + M.mac % 4294967296 from or_add _ _ 32 (by omega)]
      omega
    refine do_ret ((ev_signed (n := 64) gs hr passE ((ev_or (ev_shl (ev_reg (n := 19) R (ev_regs T R (ev_v 0)) (ev_num T.MACH) (by decide)) ev_int (cpow (by show M.mac / 4294967296 < _; omega) (by decide) (by decide))) (ev_reg (n := 20) R (ev_regs T R (ev_v 0)) (ev_num T.MACL) (by decide))).int e) ev_int (by decide) (by decide)).int ?_) k
    exact sg_nat 64 M.mac
theorem sc_wsum : FnScope ["machine", "value"] ["machine", "value"] (defScope (top 48)) := ⟨rfl, rfl, rfl, by decide +kernel, rfl, by decide +kernel, by decide +kernel⟩
theorem ok_wsum (F : Fun K "write_sum" "write_sum" (top 48) f fd) (T : Tx K mg C) : FnOk P w K mg base (CXE P w) 1 f fd ["machine", "value"] (spWSum C) := by
  refine fn_do F sc_wsum (fun vs H Q E h => ?_) (fun cdv A outer s H vs Q E hr h => ?_)
  · obtain ⟨a, M, w, z, rfl, _⟩ := h; rfl
  · obtain ⟨a, M, w', z, rfl, R, k⟩ := h
    have l := wrap64_lt z
    refine do_setreg (n := 19) (x := Ra28.wrap64 z / 4294967296) R ((ev_shr ((ev_and (ev_v 1) (ev_num T.MASK_64)).int (and64 z)) ev_int (by decide)).int (shr_nat _ 32)) (ev_regs T R (ev_v 0)) (ev_num T.MACH) (by decide) (by decide) (by omega) fun H1 R1 c1 => ?_
    refine do_setreg (n := 20) (x := Ra28.wrap64 z % 4294967296) R1 ((ev_and (ev_v 1) (ev_num T.MASK)).int (wrap64_lo z)) (ev_regs T R1 (ev_v 0)) (ev_num T.MACL) (by decide) (by decide) (by omega) fun H2 R2 c2 => ?_
    rw [mac_hi (by omega), show Ra28.wrap64 z / 4294967296 * 4294967296 + Ra28.wrap64 z % 4294967296 = Ra28.wrap64 z by omega] at R2
    exact do_nil (k H2 R2 (c1.trans c2))
theorem sc_kprod : FnScope ["machine", "product"] ["machine", "product"] (defScope (top 96)) := ⟨rfl, rfl, rfl, by decide +kernel, rfl, by decide +kernel, by decide +kernel⟩
theorem ok_kprod (F : Fun K "keep_product" "keep_product" (top 96) f fd) (T : Tx K mg C) : FnOk P w K mg base (CXE P w) 1 f fd ["machine", "product"] (spKProd C) := by
  refine fn_do F sc_kprod (fun vs H Q E h => ?_) (fun cdv A outer s H vs Q E hr h => ?_)
  · obtain ⟨a, M, w, z, rfl, _⟩ := h; rfl
  · obtain ⟨a, M, w', z, rfl, R, k⟩ := h
    have l := wrap64_lt z
    refine do_setreg (n := 19) (x := Ra28.wrap64 z / 4294967296) R ((ev_and (ev_shr (ev_v 1) ev_int (by decide)) (ev_num T.MASK)).int (wrap64_hi z)) (ev_regs T R (ev_v 0)) (ev_num T.MACH) (by decide) (by decide) (by omega) fun H1 R1 c1 => ?_
    refine do_setreg (n := 20) (x := Ra28.wrap64 z % 4294967296) R1 ((ev_and (ev_v 1) (ev_num T.MASK)).int (wrap64_lo z)) (ev_regs T R1 (ev_v 0)) (ev_num T.MACL) (by decide) (by decide) (by omega) fun H2 R2 c2 => ?_
    rw [mac_hi (by omega), show Ra28.wrap64 z / 4294967296 * 4294967296 + Ra28.wrap64 z % 4294967296 = Ra28.wrap64 z by omega] at R2
    exact do_nil (k H2 R2 (c1.trans c2))
theorem sc_near : FnScope ["machine", "m", "i", "size"] ["machine", "m", "i", "size"] (defScope (top 139)) := ⟨rfl, rfl, rfl, by decide +kernel, rfl, by decide +kernel, by decide +kernel⟩
theorem ok_near (F : Fun K "place_near" "place_near" (top 139) f fd) (T : Tx K mg C) : FnOk P w K mg base (CXE P w) 1 f fd ["machine", "m", "i", "size"] (spNear C) := by
  refine fn_do F sc_near (fun vs H Q E h => ?_) (fun cdv A outer s H vs Q E hr h => ?_)
  · obtain ⟨a, M, w, j, i, z, rfl, _⟩ := h; rfl
  · obtain ⟨a, M, w', j, i, z, rfl, hj, hz, R, k⟩ := h
    refine do_ret ((ev_and (ev_add (ev_r (n := j) R (ev_regs T R (ev_v 0)) (ev_v 1) hj) (ev_mul (ev_v 3) ((ev_and (ev_v 2) ev_int).int (mask4 i)) (.inl ⟨by omega, by omega⟩))) (ev_num T.MASK)).int ?_) k
    rw [show (z : Int) * ((i % 16 : Nat) : Int) = ((z * (i % 16) : Nat) : Int) by simp, plus_eq]
theorem sc_pbase : FnScope ["machine", "i", "size"] ["machine", "i", "size"] (defScope (top 146)) := ⟨rfl, rfl, rfl, by decide +kernel, rfl, by decide +kernel, by decide +kernel⟩
theorem ok_pbase (F : Fun K "place_by_base" "place_by_base" (top 146) f fd) (T : Tx K mg C) : FnOk P w K mg base (CXE P w) 1 f fd ["machine", "i", "size"] (spPBase C) := by
  refine fn_do F sc_pbase (fun vs H Q E h => ?_) (fun cdv A outer s H vs Q E hr h => ?_)
  · obtain ⟨a, M, w, i, z, rfl, _⟩ := h; rfl
  · obtain ⟨a, M, w', i, z, rfl, hz, R, k⟩ := h
    refine do_ret ((ev_and (ev_add (ev_reg (n := 17) R (ev_regs T R (ev_v 0)) (ev_num T.GBR) (by decide)) (ev_mul (ev_v 2) (ev_v 1) (.inl ⟨by omega, by omega⟩))) (ev_num T.MASK)).int ?_) k
    rw [show (z : Int) * (i : Int) = ((z * i : Nat) : Int) by simp, plus_eq]
    rfl
theorem sc_byte : FnScope ["machine"] ["machine"] (defScope (top 152)) := ⟨rfl, rfl, rfl, by decide +kernel, rfl, by decide +kernel, by decide +kernel⟩
theorem ok_byte (F : Fun K "byte_place" "byte_place" (top 152) f fd) (T : Tx K mg C) : FnOk P w K mg base (CXE P w) 1 f fd ["machine"] (spByte C) := by
  refine fn_do F sc_byte (fun vs H Q E h => ?_) (fun cdv A outer s H vs Q E hr h => ?_)
  · obtain ⟨a, M, w, rfl, _⟩ := h; rfl
  · obtain ⟨a, M, w', rfl, R, k⟩ := h
    exact do_ret ((ev_and (ev_add (ev_r (n := 0) R (ev_regs T R (ev_v 0)) ev_int (by decide)) (ev_reg (n := 17) R (ev_regs T R (ev_v 0)) (ev_num T.GBR) (by decide))) (ev_num T.MASK)).int (plus_eq _ _)) k
theorem sc_comb : FnScope ["n", "value", "i"] ["n", "value", "i"] (defScope (top 149)) := ⟨rfl, rfl, rfl, by decide +kernel, rfl, by decide +kernel, by decide +kernel⟩
theorem ok_comb (F : Fun K "combined" "combined" (top 149) f fd) : FnOk P w K mg base (CXE P w) 1 f fd ["n", "value", "i"] spComb := by
  refine fn_do F sc_comb (fun vs H Q E h => ?_) (fun cdv A outer s H vs Q E hr h => ?_)
  · obtain ⟨n, x, i, rfl, _⟩ := h; rfl
  · obtain ⟨n, x, i, rfl, k⟩ := h
    unfold combE at k
    refine do_if ((tt_eq ((ev_and (ev_v 0) ev_int).int (mask2 n)) ev_int).eq (dec_nat1 (n % 4))) (fun h => ?_) (fun h => ?_)
    · rw [if_pos (by simpa using h)] at k
      exact do_ret ((ev_and (ev_v 1) (ev_v 2)).int (and_nn x i)) k
    · rw [if_neg (by simpa using h)] at k
      refine do_nil ?_
      refine do_if ((tt_eq ((ev_and (ev_v 0) ev_int).int (mask2 n)) ev_int).eq (dec_nat (n % 4) 2)) (fun h => ?_) (fun h => ?_)
      · rw [if_pos (by simpa using h)] at k
        exact do_ret ((ev_xor (ev_v 1) (ev_v 2)).int (xor_nn x i)) k
      · rw [if_neg (by simpa using h)] at k
        refine do_nil ?_
        exact do_ret ((ev_or (ev_v 1) (ev_v 2)).int (or_nn x i)) k
theorem sc_ksign : FnScope ["machine", "n", "value"] ["machine", "n", "value"] (defScope (top 93)) := ⟨rfl, rfl, rfl, by decide +kernel, rfl, by decide +kernel, by decide +kernel⟩
end
end Sh
namespace Sh
open PySem PyProof.Rows L2
section
variable {X : Cx} {σ : L2.St} {H : Hp} {a b c e : Expr} {pos p : Pos} {i j k : Int}
theorem tt_chain (ha : Ev X σ H a (.int i)) (hb : Ev X σ H b (.int j)) (hc : Ev X σ H c (.int k)) (hm : lastMarks [CmpOp.LtE, CmpOp.Lt] [b, c] = false := by with_unfolding_all rfl) : Tt X σ H (.Compare a [.LtE, .Lt] [b, c] pos) (decide (i ≤ j) && decide (j < k)) := by
  refine tt_of (pt_chain op_le op_lt ha hb hc hm) fun Q q => ⟨rfl, rfl, rfl, rfl, _, _, rfl, rfl, _, rfl, ?_⟩
  cases h : decide (i ≤ j) with
  | true =>
    rw [h] at q
    exact iteT ⟨rfl, rfl, _, _, rfl, rfl, _, rfl, q⟩
  | false =>
    rw [h] at q
    exact iteF ⟨_, rfl, q⟩
theorem tt_in3 {c1 c2 c3 : Int} {l1 l2 l3 p1 p2 p3 x1 p4} (ha : Ev X σ H a (.int i)) : Tt X σ H (.Compare a [.In] [.Tuple [.Constant (.int c1) l1 p1, .Constant (.int c2) l2 p2, .Constant (.int c3) l3 p3] x1 p4] pos) (inV (.int i) [.int c1, .int c2, .int c3]) := by
  intro pins s σ' H' Q I q
  obtain ⟨rfl, rfl, q⟩ := q
  refine wpAny_isTrue_Compare1 (thn (ha pins s _ _ (fun x H1 => x = .int i ∧ H1 = H') I ⟨rfl, rfl, rfl, rfl⟩) fun v s1 ⟨x, H1, I1, r1, e1, e2⟩ => ?_) rfl
  subst e1 e2
  have hA : EvA X σ' H1 [.Constant (.int c1) l1 p1, .Constant (.int c2) l2 p2, .Constant (.int c3) l3 p3] [.int c1, .int c2, .int c3] := ea_cons ev_int (ea_cons ev_int (ea_cons ev_int ea_nil))
  refine wpAny_Tuple_spliced (thn (hA _ pins s1 _ _ (fun vs H2 => vs = [.int c1, .int c2, .int c3] ∧ H2 = H1) I1 ⟨rfl, rfl, rfl, rfl⟩) fun us s2 ⟨vs, H2, I2, r2, e1, e2⟩ => ⟨by rw [← r2.length, e1]; exact Nat.le_of_lt (small1000 (by show 3 ≤ 1000; decide)), ?_⟩)
  subst e1 e2
  have I3 := I2.kept (h' := s2.heap.push { cls := .type "tuple", data := .seq us.toArray }) (t' := s2.toks) fun b o e => Heap.get?_push_of_some _ e
  refine SeqAt.in_tupleAt (eqU (.int i)) (IsTup.new s2.heap _) (fun w hw => mem_eqAt r1 rfl r2 rfl w (by simpa using hw)) ?_
  rw [show us.toArray.any (eqU (.int i)) = us.any (eqU (.int i)) by simp, any_eqU r2 rfl]
  exact wpAny_truthy_bool ⟨_, I3, q⟩
end
theorem sg_wide {k x : Nat} (hk : k = 2 ∨ k = 4) (hx : x < 256 ^ k) : Ra28.signed 32 (wide k x) = if k = 4 then Ra28.signed 32 x else Ra28.signed 16 x := by
  rcases hk with rfl | rfl
  · show Ra28.signed 32 (Ra28.widened 16 x) = Ra28.signed 16 x
    have hx : x < 65536 := hx
    unfold Ra28.widened Ra28.wrap Ra28.signed
    rw [show (2 : Nat) ^ 16 = 65536 from rfl, show (2 : Nat) ^ (16 - 1) = 32768 from rfl, show (2 : Nat) ^ 32 = 4294967296 from rfl, show (2 : Nat) ^ (32 - 1) = 2147483648 from rfl, show (2 : Int) ^ 16 = 65536 from rfl, show (2 : Int) ^ 32 = 4294967296 from rfl]
    rw [Nat.mod_eq_of_lt hx]
    by_cases q : x < 32768
    · rw [if_pos q, if_pos (by omega)]; omega
    · rw [if_neg q, if_neg (by omega)]; omega
  · rfl
theorem get_lt2 {M : Ra28.M} (g : Good M) (p : Nat) {k : Nat} (hk : k = 2 ∨ k = 4) : Ra28.get M p k < 256 ^ k := by
  rcases hk with rfl | rfl
  · rw [get2]
    have := g.mem p; have := g.mem (p + 1)
    show _ < 65536
    omega
  · exact get_lt g p
def prodOf (M : Ra28.M) (n j k : Nat) : Int := Ra28.signed 32 (wide k (Ra28.get M (M.r n) k)) * Ra28.signed 32 (wide k (Ra28.get M ((Ra28.set M n (Ra28.plus (M.r n) k)).r j) k))
def spProd (C : Addr) (xs : Xs) : Sp := fun vs H Q E => ∃ (a : Ad) (m0 : Nat → Nat) (M : Ra28.M) (w n j k : Nat), vs = [.ref a.p, .int n, .int j, .int k] ∧ Rep C a m0 M w H ∧ n < 16 ∧ j < 16 ∧ (k = 2 ∨ k = 4) ∧
  ldQ xs H E (M.r n) k (ldQ xs H E ((Ra28.set M n (Ra28.plus (M.r n) k)).r j) k (∀ H', RepC C a (Ra28.set (Ra28.set M n (Ra28.plus (M.r n) k)) j (Ra28.plus ((Ra28.set M n (Ra28.plus (M.r n) k)).r j) k)) w H' → Chg a H H' → Q (.int (prodOf M n j k)) H'))
def lowSum (M : Ra28.M) (z : Int) : Nat := (if Ra28.limited 31 (Ra28.signed 32 M.mac + z) = Ra28.signed 32 M.mac + z then M.mac / 4294967296 else M.mac / 4294967296 ||| 1) * 4294967296 + Ra28.wrap (Ra28.limited 31 (Ra28.signed 32 M.mac + z))
def spLow (C : Addr) : Sp := fun vs H Q _ => ∃ (a : Ad) (M : Ra28.M) (w : Nat) (z : Int), vs = [.ref a.p, .int z] ∧ RepC C a M w H ∧ ∀ H', RepC C a { M with mac := lowSum M z } w H' → Chg a H H' → Q .non H'
structure Hlp (P : Program) (w : World) (K : PySem.W.Frag) (mg : Str → Option Value) (base : Heap) (C : Addr) (xs : Xs) : Prop where
  sg : Cal P w K mg base "signed" ["value", "width"] spSigned 1
  cl : Cal P w K mg base "clamped" ["value", "least", "most"] spClamped 1
  bs : Cal P w K mg base "base" ["machine"] (spBase C) 1
  lb : Cal P w K mg base "long_base" ["machine"] (spLong C) 2
  st : Cal P w K mg base "short_target" ["machine", "i"] (spShort C) 2
  rs : Cal P w K mg base "read_sum" ["machine"] (spRSum C) 2
  ws : Cal P w K mg base "write_sum" ["machine", "value"] (spWSum C) 1
  kp : Cal P w K mg base "keep_product" ["machine", "product"] (spKProd C) 1
  ks : Cal P w K mg base "keep_signed" ["machine", "n", "value"] (spKSign C) 1
  wo : Cal P w K mg base "which_of" ["m", "i"] spWhich 1
  pn : Cal P w K mg base "place_near" ["machine", "m", "i", "size"] (spNear C) 1
  pb : Cal P w K mg base "place_by_base" ["machine", "i", "size"] (spPBase C) 1
  cb : Cal P w K mg base "combined" ["n", "value", "i"] spComb 1
  bp : Cal P w K mg base "byte_place" ["machine"] (spByte C) 1
  np : Cal P w K mg base "next_product" ["machine", "n", "m", "size"] (spProd C xs) 3
  al : Cal P w K mg base "add_to_lower_half" ["machine", "product"] (spLow C) 2
  rd : Mth P w K mg base C "read" ["self", "which"] (spRead C) 1
  wst : Mth P w K mg base C "write_status" ["self", "value"] (spWS C) 1
  wr : Mth P w K mg base C "write" ["self", "which", "value"] (spWrite C) 2
  ld : Mth P w K mg base C "load" ["self", "place", "size"] (spLoad C xs) 2
  sto : Mth P w K mg base C "store" ["self", "place", "size", "value"] (spStore C xs) 2
section
variable {P : Program} {w : World} {K : PySem.W.Frag} {mg : Str → Option Value} {base : Heap} {f C : Addr} {xs : Xs} {fd : FuncData}
theorem ok_ksign (F : Fun K "keep_signed" "keep_signed" (top 93) f fd) (T : Tx K mg C) : FnOk P w K mg base (CXE P w) 1 f fd ["machine", "n", "value"] (spKSign C) := by
  refine fn_do F sc_ksign (fun vs H Q E h => ?_) (fun cdv A outer s H vs Q E hr h => ?_)
  · obtain ⟨a, M, w, n, z, rfl, _⟩ := h; rfl
  · obtain ⟨a, M, w', n, z, rfl, hn, R, k⟩ := h
    refine do_setr (n := n) (x := Ra28.wrap z) R ((ev_and (ev_v 2) (ev_num T.MASK)).int (wrap_eq z)) (ev_regs T R (ev_v 0)) (ev_v 1) hn (wrap_lt z) fun H1 R1 c1 => ?_
    refine do_f fw_t (!decide (-2147483648 ≤ z ∧ z < 2147483648)) T.cl T.nT R1 ((ev_if10 (tt_chain (ev_neg (ev_pow ev_int ev_int ⟨by decide, by decide, by decide⟩)) (ev_v 2) (ev_pow ev_int ev_int ⟨by decide, by decide, by decide⟩))).eq (vb ?_)) (ev_v 0) trivial fun H2 R2 c2 => ?_
    · show (!(decide (-(2147483648 : Int) ≤ z) && decide (z < 2147483648))) = _
      by_cases h1 : -(2147483648 : Int) ≤ z <;> by_cases h2 : z < 2147483648 <;> simp [h1, h2]
    · exact do_nil (k H2 R2 (c1.trans c2))
theorem sc_which : FnScope ["m", "i"] ["m", "i"] (defScope (top 116)) := ⟨rfl, rfl, rfl, by decide +kernel, rfl, by decide +kernel, by decide +kernel⟩
theorem ok_which (F : Fun K "which_of" "which_of" (top 116) f fd) (T : Tx K mg C) : FnOk P w K mg base (CXE P w) 1 f fd ["m", "i"] spWhich := by
  refine fn_do F sc_which (fun vs H Q E h => ?_) (fun cdv A outer s H vs Q E hr h => ?_)
  · obtain ⟨j, i, rfl, _⟩ := h; rfl
  · obtain ⟨j, i, rfl, k⟩ := h
    unfold whichOf at k
    have e : inV (.int ((i % 16 : Nat) : Int)) [.int 2, .int 6, .int 10] = decide (i % 16 = 2 ∨ i % 16 = 6 ∨ i % 16 = 10) := by
      generalize i % 16 = r
      show ((2 == (r : Int)) || ((6 == (r : Int)) || ((10 == (r : Int)) || false))) = _
      by_cases h1 : r = 2
      · subst h1; rfl
      by_cases h2 : r = 6
      · subst h2; rfl
      by_cases h3 : r = 10
      · subst h3; rfl
      have e1 : ((2 : Int) == (r : Int)) = false := by simp; omega
      have e2 : ((6 : Int) == (r : Int)) = false := by simp; omega
      have e3 : ((10 : Int) == (r : Int)) = false := by simp; omega
      rw [e1, e2, e3, decide_eq_false (by omega)]
      rfl
    by_cases h : i % 16 = 2 ∨ i % 16 = 6 ∨ i % 16 = 10
    · rw [if_pos h] at k
      exact do_ret ((ev_add (ev_v 0) (ev_ifT ((tt_in3 ((ev_and (ev_v 1) ev_int).int (mask4 i))).eq (e.trans (decide_eq_true h))) (ev_num T.MACH))).int (by omega)) k
    · rw [if_neg h] at k
      exact do_ret ((ev_add (ev_v 0) (ev_ifF ((tt_in3 ((ev_and (ev_v 1) ev_int).int (mask4 i))).eq (e.trans (decide_eq_false h))) (ev_num T.STATUS))).int (by omega)) k
theorem sc_prod : FnScope ["machine", "n", "m", "size", "regs", "first", "ahead", "second"] ["machine", "n", "m", "size"] (defScope (top 46)) := ⟨rfl, rfl, rfl, by decide +kernel, rfl, by decide +kernel, by decide +kernel⟩
theorem set_r_eq (M : Ra28.M) (n x j : Nat) : (Ra28.set M n x).r j = if j = n then x else M.r j := rfl
theorem ok_prod (F : Fun K "next_product" "next_product" (top 46) f fd) (T : Tx K mg C) (gs : Cal P w K mg base "signed" ["value", "width"] spSigned 1) (gl : Mth P w K mg base C "load" ["self", "place", "size"] (spLoad C xs) 2) :
    FnOk P w K mg base (CXE P w) 3 f fd ["machine", "n", "m", "size"] (spProd C xs) := by
  refine fn_do F sc_prod (fun vs H Q E h => ?_) (fun cdv A outer s H vs Q E hr h => ?_)
  · obtain ⟨a, m0, M, w, n, j, z, rfl, _⟩ := h; rfl
  · obtain ⟨a, m0, M, w', n, j, z, rfl, R, hn, hj, hz, k⟩ := h
    have R0 := R.toRepC
    have g := R.good
    have nd := sc_prod.nd
    have hs : SizeOk z := by rcases hz with rfl | rfl; exact .inr (.inl rfl); exact .inr (.inr rfl)
    refine do_set 4 nd (ev_regs T R0 (ev_v 0)) ?_
    refine do_loadl 5 nd T.cl gl hr passE R (ev_v 0) (ev_r (n := n) R0 (ev_v 4) (ev_v 1) hn) (ev_v 3) hs (ldQ_imp k fun _ _ k => ?_)
    refine do_set (v := .int ((if j = n then z else 0 : Nat) : Int)) 6 nd ?_ ?_
    · have e := dec_nat n j
      by_cases q : j = n
      · subst q
        rw [if_pos rfl]
        exact ev_ifT ((tt_eq (ev_v 1) (ev_v 2)).eq (e.trans (by simp))) (ev_v 3)
      · rw [if_neg q]
        exact ev_ifF ((tt_eq (ev_v 1) (ev_v 2)).eq (e.trans (by simp; omega))) ev_int
    have eq : Builtin.bitAnd ((M.r j : Int) + ((if j = n then z else 0 : Nat) : Int)) 4294967295 = (((Ra28.set M n (Ra28.plus (M.r n) z)).r j : Nat) : Int) := by
      rw [plus_eq, set_r_eq]
      by_cases q : j = n
      · subst q; rw [if_pos rfl, if_pos rfl]
      · rw [if_neg q, if_neg q]
        have := g.r j
        show (((M.r j + 0) % 4294967296 : Nat) : Int) = _
        rw [Nat.add_zero, Nat.mod_eq_of_lt this]
    refine do_loadl 7 nd T.cl gl hr passE R (ev_v 0) ((ev_and (ev_add (ev_r (n := j) R0 (ev_v 4) (ev_v 2) hj) (ev_v 6)) (ev_num T.MASK)).int eq) (ev_v 3) hs (ldQ_imp k fun _ _ k => ?_)
    refine do_setr (n := n) (x := Ra28.plus (M.r n) z) R0 ((ev_and (ev_add (ev_r (n := n) R0 (ev_v 4) (ev_v 1) hn) (ev_v 3)) (ev_num T.MASK)).int (plus_eq _ _)) (ev_v 4) (ev_v 1) hn (plus_lt _ _) fun H1 R1 c1 => ?_
    refine do_setr (n := j) (x := Ra28.plus ((Ra28.set M n (Ra28.plus (M.r n) z)).r j) z) R1 ((ev_and (ev_add (ev_r (n := j) R1 (ev_v 4) (ev_v 2) hj) (ev_v 3)) (ev_num T.MASK)).int (plus_eq _ _)) (ev_v 4) (ev_v 2) hj (plus_lt _ _) fun H2 R2 c2 => ?_
    refine do_ret (ev_mul ((ev_signed (n := 32) gs (hr.mono (by decide)) passE (ev_v 5) ev_int (by decide) (by decide)).int (sg_nat 32 _)) ((ev_signed (n := 32) gs (hr.mono (by decide)) passE (ev_v 7) ev_int (by decide) (by decide)).int (sg_nat 32 _)) (.inl ?_)) (k H2 R2 (c1.trans c2))
    rw [signed_cases (wide_lt g hs)]
    have := wide_lt g (p := M.r n) hs
    split <;> omega
theorem sc_low : FnScope ["machine", "product", "regs", "value", "kept"] ["machine", "product"] (defScope (top 51)) := ⟨rfl, rfl, rfl, by decide +kernel, rfl, by decide +kernel, by decide +kernel⟩
end
end Sh
namespace Sh
open PySem PyProof.Rows L2
theorem do_augreg {X : Cx} {σ : L2.St} {H : Hp} {D : Ends} {ss : List Stmt} {er ek e : Expr} {pos pos' : Pos} {C : Addr} {a : Ad} {M : Ra28.M} {w : Nat} {op : Operator} {g : Int → Int → Int} {n y z : Nat} (hop : PIp X op (rI0 fun i j => .int (g i j))) (R : RepC C a M w H) (hr : Ev X σ H er (.ref a.rg)) (hk : Ev X σ H ek (.int (n : Nat))) (h : n < 22) (h' : n ≠ 16) (he : Ev X σ H e (.int (y : Nat))) (hz : g (regV M n) y = (z : Nat)) (hz' : z < 4294967296)
    (k : ∀ H', RepC C a (setR M n z) w H' → Chg a H H' → Do X ss D σ H')
    (ha : ∀ ov iv new, augStore ek ov iv new = (do holding [new, ov, iv] (setItem ov iv new); release [new, ov, iv] []; pure .next) := by intros; rfl) : Do X (.AugAssign (.Subscript er ek pos') op e pos :: ss) D σ H :=
  do_cons (ps_augS hr hk (get_reg (C := C) (a := a)) he hop (set_reg (C := C) (a := a)) ha) ⟨rfl, rfl, rfl, rfl, M, w, n, rfl, rfl, h, R, rfl, rfl, _, _, rfl, rfl, M, w, n, z, rfl, rfl, congrArg V.int hz, h, h', hz', R, k⟩
section
variable {P : Program} {w : World} {K : PySem.W.Frag} {mg : Str → Option Value} {base : Heap} {f C : Addr} {xs : Xs} {fd : FuncData}
theorem ok_low (F : Fun K "add_to_lower_half" "add_to_lower_half" (top 51) f fd) (T : Tx K mg C) (gs : Cal P w K mg base "signed" ["value", "width"] spSigned 1) (gc : Cal P w K mg base "clamped" ["value", "least", "most"] spClamped 1) :
    FnOk P w K mg base (CXE P w) 2 f fd ["machine", "product"] (spLow C) := by
  refine fn_do F sc_low (fun vs H Q E h => ?_) (fun cdv A outer s H vs Q E hr h => ?_)
  · obtain ⟨a, M, w, z, rfl, _⟩ := h; rfl
  · obtain ⟨a, M, w', z, rfl, R, k⟩ := h
    have g := R.good.mac
    have nd := sc_low.nd
    have e1 : sg 32 ((M.mac % 4294967296 : Nat) : Int) = Ra28.signed 32 M.mac := by
      rw [sg32]
      show (if M.mac % 4294967296 % 4294967296 < 2147483648 then ((M.mac % 4294967296 % 4294967296 : Nat) : Int) else ((M.mac % 4294967296 % 4294967296 : Nat) : Int) - 4294967296) = if M.mac % 4294967296 < 2147483648 then ((M.mac % 4294967296 : Nat) : Int) else ((M.mac % 4294967296 : Nat) : Int) - 4294967296
      rw [Nat.mod_mod]
    refine do_set 2 nd (ev_regs T R (ev_v 0)) ?_
    refine do_set 3 nd (ev_add ((ev_signed (n := 32) gs (hr.mono (by decide)) passE (ev_reg (n := 20) R (ev_v 2) (ev_num T.MACL) (by decide)) ev_int (by decide) (by decide)).int e1) (ev_v 1)) ?_
    unfold lowSum at k
    generalize Ra28.signed 32 M.mac + z = v at *
    have e2 : max (-((2 : Int) ^ (31 : Int).toNat)) (min ((2 : Int) ^ (31 : Int).toNat - 1) v) = Ra28.limited 31 v := rfl
    refine do_set 4 nd ((ev_clamped gc (hr.mono (by decide)) passE (ev_v 3) (ev_neg (ev_pow ev_int ev_int ⟨by decide, by decide, by decide⟩)) (ev_sub (ev_pow ev_int ev_int ⟨by decide, by decide, by decide⟩) ev_int)).int e2) ?_
    generalize Ra28.limited 31 v = y at *
    have fin : ∀ (M1 : Ra28.M) (H1 : Hp) (σ : L2.St), RepC C a M1 w' H1 → Chg a H H1 → setR M1 20 (Ra28.wrap y) = { M with mac := (if y = v then M.mac / 4294967296 else M.mac / 4294967296 ||| 1) * 4294967296 + Ra28.wrap y } →
        Do (cxE P w K mg base ["machine", "product", "regs", "value", "kept"] "add_to_lower_half" (defScope (top 51)) f cdv A outer s H E) ((defBody (top 51)).drop 4) { nx := fun _ H' => Q .non H', rt := Q } [some (.ref a.p), some (.int z), some (.ref a.rg), some (.int v), some (.int y)] H1 := by
      intro M1 H1 σ R1 c1 em
      refine do_setreg (n := 20) (x := Ra28.wrap y) R1 ((ev_and (ev_v 4) (ev_num T.MASK)).int (wrap_eq y)) (ev_v 2) (ev_num T.MACL) (by decide) (by decide) (wrap_lt y) fun H2 R2 c2 => ?_
      rw [em] at R2
      exact do_nil (k H2 R2 (c1.trans c2))
    refine do_if ((tt_ne (ev_v 4) (ev_v 3)).eq (congrArg (!·) dec_int)) (fun h => ?_) (fun h => ?_)
    · have h' : ¬ y = v := by simpa using h
      have lt : M.mac / 4294967296 ||| 1 < 4294967296 := or_lt' (by omega) (by decide)
      refine do_augreg (n := 19) (y := 1) (z := M.mac / 4294967296 ||| 1) (g := fun i j => Builtin.bitOr i j) iop_or R (ev_v 2) (ev_num T.MACH) (by decide) (by decide) ev_int (or_nn _ 1) lt fun H1 R1 c1 => ?_
      refine do_nil (fin _ H1 [] R1 c1 ?_)
      rw [if_neg h', mac_hi (wrap_lt y)]
    · have h' : y = v := by simpa using h
      refine do_nil (fin M H [] R (Chg.refl _ _) ?_)
      rw [if_pos h']
      rfl
end
end Sh
namespace Sh
open PySem PyProof.Rows L2
theorem dec_bit1 (b : Bool) : decide (V.int ((Ra28.bit b : Nat) : Int) = V.int 1) = b := by cases b <;> decide
theorem dec_bit0 (b : Bool) : decide (V.int ((Ra28.bit b : Nat) : Int) = V.int 0) = !b := by cases b <;> decide
theorem cpow_m16 {c : Int} (y : Nat) (h0 : 0 ≤ c := by decide) (h1 : c ≤ 1000000 := by decide) : CPow (Builtin.bitAnd (y : Int) 65535) c := by rw [mask16]; exact cpow (by omega) h0 h1
theorem cpow_m8 {c : Int} (y : Nat) (h0 : 0 ≤ c := by decide) (h1 : c ≤ 1000000 := by decide) : CPow (Builtin.bitAnd (y : Int) 255) c := by rw [mask8]; exact cpow (by omega) h0 h1
theorem beq_dec (x y : Nat) : (x == y) = decide (x = y) := by by_cases h : x = y <;> simp [h]
theorem halves_lt (x y : Nat) : x % 65536 * (y % 65536) < 4294967296 := by
  have h1 : x % 65536 ≤ 65535 := by omega
  have h2 : y % 65536 ≤ 65535 := by omega
  have := Nat.mul_le_mul h1 h2
  omega
theorem signed16 (x : Nat) : Ra28.signed 16 x = if x % 65536 < 32768 then ((x % 65536 : Nat) : Int) else ((x % 65536 : Nat) : Int) - 65536 := rfl
theorem signed32 (x : Nat) : Ra28.signed 32 x = if x % 4294967296 < 2147483648 then ((x % 4294967296 : Nat) : Int) else ((x % 4294967296 : Nat) : Int) - 4294967296 := rfl
theorem s16_bd (x : Nat) : -(2 ^ 64) < Ra28.signed 16 x ∧ Ra28.signed 16 x < 2 ^ 64 := by
  rw [signed16]
  split <;> omega
theorem s32_bd {x : Nat} (h : x < 4294967296) : -(2 ^ 64) < Ra28.signed 32 x ∧ Ra28.signed 32 x < 2 ^ 64 := by
  rw [signed32]
  split <;> omega
theorem wrap_def (z : Int) : ((Ra28.wrap z : Nat) : Int) = z % 4294967296 := by
  have := Int.emod_nonneg z (b := 4294967296) (by decide)
  show (((z % 4294967296).toNat : Nat) : Int) = _
  omega
theorem wrap_sub {x y : Nat} (hx : x < 4294967296) (hy : y < 4294967296) : Ra28.wrap (Ra28.signed 32 x - Ra28.signed 32 y) = Ra28.minus x y := by
  have e := wrap_def (Ra28.signed 32 x - Ra28.signed 32 y)
  have : Ra28.minus x y = (x + 4294967296 - y) % 4294967296 := rfl
  rw [this]
  rw [signed_cases hx, signed_cases hy] at *
  split at e <;> split at e <;> (simp only [*, if_true, if_false]; omega)
theorem wrap_add {x y : Nat} (hx : x < 4294967296) (hy : y < 4294967296) : Ra28.wrap (Ra28.signed 32 x + Ra28.signed 32 y) = Ra28.plus x y := by
  have e := wrap_def (Ra28.signed 32 x + Ra28.signed 32 y)
  have : Ra28.plus x y = (x + y) % 4294967296 := rfl
  rw [this]
  rw [signed_cases hx, signed_cases hy] at *
  split at e <;> split at e <;> (simp only [*, if_true, if_false]; omega)
theorem fits (z : Int) (h1 : -8589934592 < z) (h2 : z < 8589934592) : (!decide (-2147483648 ≤ z ∧ z < 2147483648)) = (z != Ra28.signed 32 (Ra28.wrap z)) := by
  have e := wrap_def z
  have l := wrap_lt z
  rw [signed_cases l]
  by_cases q : -2147483648 ≤ z ∧ z < 2147483648
  · rw [decide_eq_true q]
    have : z = (if 2147483648 ≤ Ra28.wrap z then ((Ra28.wrap z : Nat) : Int) - 4294967296 else ((Ra28.wrap z : Nat) : Int)) := by split <;> omega
    rw [← this]; simp
  · rw [decide_eq_false q]
    have : ¬ z = (if 2147483648 ≤ Ra28.wrap z then ((Ra28.wrap z : Nat) : Int) - 4294967296 else ((Ra28.wrap z : Nat) : Int)) := by split <;> omega
    rw [bne, beq_eq_false_iff_ne.mpr this]
theorem fits_sub {x y : Nat} (hx : x < 4294967296) (hy : y < 4294967296) : (!decide (-2147483648 ≤ Ra28.signed 32 x - Ra28.signed 32 y ∧ Ra28.signed 32 x - Ra28.signed 32 y < 2147483648)) = (Ra28.signed 32 x - Ra28.signed 32 y != Ra28.signed 32 (Ra28.minus x y)) := by
  have e1 := signed_cases hx
  have e2 := signed_cases hy
  rw [← wrap_sub hx hy]
  exact fits _ (by rw [e1, e2]; split <;> split <;> omega) (by rw [e1, e2]; split <;> split <;> omega)
theorem fits_add {x y : Nat} (hx : x < 4294967296) (hy : y < 4294967296) : (!decide (-2147483648 ≤ Ra28.signed 32 x + Ra28.signed 32 y ∧ Ra28.signed 32 x + Ra28.signed 32 y < 2147483648)) = (Ra28.signed 32 x + Ra28.signed 32 y != Ra28.signed 32 (Ra28.plus x y)) := by
  have e1 := signed_cases hx
  have e2 := signed_cases hy
  rw [← wrap_add hx hy]
  exact fits _ (by rw [e1, e2]; split <;> split <;> omega) (by rw [e1, e2]; split <;> split <;> omega)
theorem wrap64_mul {x y : Nat} (hx : x < 4294967296) (hy : y < 4294967296) : Ra28.wrap64 ((x : Int) * (y : Int)) = x * y := by
  have h1 : x ≤ 4294967295 := by omega
  have h2 : y ≤ 4294967295 := by omega
  have h := Nat.mul_le_mul h1 h2
  rw [show (x : Int) * (y : Int) = ((x * y : Nat) : Int) by simp]
  generalize x * y = z at *
  show (((z : Int) % 18446744073709551616)).toNat = z
  omega
theorem rol_lt (x : Nat) (b : Bool) : 2 * x % 4294967296 + Ra28.bit b < 4294967296 := by have := bit_lt b; omega
theorem ror_lt {x : Nat} (h : x < 4294967296) (b : Bool) : x / 2 + Ra28.bit b * 2147483648 < 4294967296 := by have := bit_lt b; omega
theorem down0 {x : Nat} (h : x < 4294967296) {n : Nat} {M : Ra28.M} : decide (V.int (((Ra28.set M n (Ra28.minus x 1)).r n : Nat) : Int) = V.int 0) = (x == 1) := by
  rw [dec_nat0]
  have e : (Ra28.set M n (Ra28.minus x 1)).r n = (x + 4294967296 - 1) % 4294967296 := if_pos rfl
  rw [e]
  by_cases q : x = 1
  · subst q; rfl
  · rw [beq_eq_false_iff_ne.mpr q]
    exact beq_eq_false_iff_ne.mpr (by omega)
theorem which_le {j i : Nat} (hj : j = i / 16) (h : i / 16 < 3) : whichOf j i ≤ 22 := by
  unfold whichOf
  split <;> omega
theorem which_ge (j i : Nat) : 16 ≤ whichOf j i := by
  unfold whichOf
  split <;> omega
theorem wrV_mem (M : Ra28.M) (k x : Nat) : (wrV M k x).mem = M.mem := by
  unfold wrV setR
  repeat' split
  all_goals rfl
theorem wrV_set {k : Nat} (h : 16 ≤ k) {M : Ra28.M} {n x v : Nat} : Ra28.set (wrV M k x) n v = wrV (Ra28.set M n v) k x := by
  unfold wrV setR
  rw [if_neg (show ¬ k < 16 by omega), if_neg (show ¬ k < 16 by omega)]
  repeat' split
  all_goals rfl
theorem ldQ_load' {C : Addr} {xs : Xs} {a : Ad} {m0 : Nat → Nat} {H : Hp} {Q : VK} {E : XK} {M : Ra28.M} {p n : Nat} {g : Nat → Eff} {r : Prop} (k : effQ C xs a m0 H Q E (loadE M p n g)) (h : p % n = 0 → p + n ≤ 65536 → effQ C xs a m0 H Q E (g (Ra28.get M p n)) → r) : ldQ xs H E p n r := by
  unfold loadE at k
  unfold ldQ
  by_cases h1 : p % n ≠ 0
  · rw [if_pos h1] at k ⊢; exact k
  · rw [if_neg h1] at k ⊢
    by_cases h2 : 65536 < p + n
    · rw [if_pos h2] at k ⊢; exact k
    · rw [if_neg h2] at k ⊢; exact h (by omega) (by omega) k
theorem ldQ_ok {xs : Xs} {H : Hp} {E : XK} {p n : Nat} {r : Prop} (h1 : p % n = 0) (h2 : p + n ≤ 65536) (h : r) : ldQ xs H E p n r := by
  unfold ldQ
  rw [if_neg (by omega), if_neg (by omega)]
  exact h
theorem get1_lt {M : Ra28.M} (g : Good M) (p : Nat) : Ra28.get M p 1 < 256 := by rw [get1]; exact g.mem p
theorem wid_mod {x : Nat} (h : x < 256) : Ra28.widened 8 x % 256 = x := by
  have e := wrap_def (Ra28.signed 8 x)
  have s : Ra28.signed 8 x = if x % 256 < 128 then ((x % 256 : Nat) : Int) else ((x % 256 : Nat) : Int) - 256 := rfl
  show Ra28.wrap (Ra28.signed 8 x) % 256 = x
  generalize Ra28.wrap (Ra28.signed 8 x) = y at *
  rw [s] at e
  split at e <;> omega
theorem wid0 {x : Nat} (h : x < 256) : (wide 1 x == 0) = (x == 0) := by
  show (Ra28.wrap (Ra28.signed 8 x) == 0) = _
  have e := wrap_def (Ra28.signed 8 x)
  have s : Ra28.signed 8 x = if x % 256 < 128 then ((x % 256 : Nat) : Int) else ((x % 256 : Nat) : Int) - 256 := rfl
  have : Ra28.wrap (Ra28.signed 8 x) = 0 ↔ x = 0 := by
    generalize Ra28.wrap (Ra28.signed 8 x) = y at *
    rw [s] at e
    split at e <;> omega
  by_cases q : x = 0
  · rw [this.mpr q, q]
  · rw [beq_eq_false_iff_ne.mpr q, beq_eq_false_iff_ne.mpr (fun z => q (this.mp z))]
theorem and_mod256 (x y : Nat) : (x &&& y) % 256 = (x % 256) &&& (y % 256) := Nat.and_mod_two_pow (n := 8)
theorem or_mod256 (x y : Nat) : (x ||| y) % 256 = (x % 256) ||| (y % 256) := Nat.or_mod_two_pow (n := 8)
theorem xor_mod256 (x y : Nat) : (x ^^^ y) % 256 = (x % 256) ^^^ (y % 256) := Nat.xor_mod_two_pow (n := 8)
theorem low_or {x y : Nat} (h : x < 256) (hy : y < 256) : (Ra28.widened 8 x ||| y) % 256 ^ 1 = x ||| y := by
  rw [Nat.pow_one, or_mod256, wid_mod h, Nat.mod_eq_of_lt hy]
theorem and_low {x i : Nat} (hi : i < 256) : x &&& i = x % 256 &&& i := by
  have h1 : x &&& i < 256 := Nat.lt_of_le_of_lt Nat.and_le_right hi
  have := and_mod256 x i
  rw [Nat.mod_eq_of_lt h1, Nat.mod_eq_of_lt hi] at this
  exact this
theorem wid_and {x i : Nat} (h : x < 256) (hi : i < 256) : ((Ra28.widened 8 x &&& i) == 0) = (x &&& i == 0) := by rw [and_low hi, wid_mod h]
theorem comb_lt {n x i : Nat} (hx : x < 4294967296) (hi : i < 256) : combE n x i < 4294967296 := by
  unfold combE
  split
  · exact and_lt' hx
  · split
    · exact xor_lt' hx (by omega)
    · exact or_lt' hx (by omega)
theorem low_comb {n x i : Nat} (h : x < 256) (hi : i < 256) : combE n (Ra28.widened 8 x) i % 256 ^ 1 = combE n x i := by
  unfold combE
  rw [Nat.pow_one]
  split
  · rw [and_mod256, wid_mod h, Nat.mod_eq_of_lt hi]
  · split
    · rw [xor_mod256, wid_mod h, Nat.mod_eq_of_lt hi]
    · rw [or_mod256, wid_mod h, Nat.mod_eq_of_lt hi]
theorem plus_sg (x i : Nat) : Builtin.bitAnd ((x : Int) + sg 8 (i : Int)) 4294967295 = ((Ra28.plus x (Ra28.widened 8 i) : Nat) : Int) := by
  rw [sg_nat, bitAnd_m32]
  have e := wrap_def (Ra28.signed 8 i)
  show _ = (((x + Ra28.wrap (Ra28.signed 8 i)) % 4294967296 : Nat) : Int)
  generalize Ra28.signed 8 i = z at *
  omega
end Sh
namespace Sh
open PySem PyProof.Rows L2
section
variable {P : Program} {w : World} {K : PySem.W.Frag} {mg : Str → Option Value} {base : Heap} {f C : Addr} {xs : Xs} {fd : FuncData}
theorem sc_jump_by_register : FnScope ["machine", "n", "m", "i"] P4 (defScope (top 21)) := ⟨rfl, rfl, rfl, by decide +kernel, rfl, by decide +kernel, by decide +kernel⟩
theorem ok_jump_by_register (F : Fun K "jump_by_register" "jump_by_register" (top 21) f fd) (T : Tx K mg C) (G : Hlp P w K mg base C xs) : FnOk P w K mg base (CXE P w) 4 f fd P4 (spA C xs .jump_by_register) := by
  refine act_do F sc_jump_by_register fun cdv A outer s H Q E a m0 M n j i hr R hn hj hi hji hpc hok kk => ?_
  have g := R.good
  have R0 := R.toRepC
  have nd := sc_jump_by_register.nd
  dsimp only [effA] at kk
  exact do_ret ((ev_and (ev_add (ev_base G.bs (hr.mono (by decide)) passE R0 (ev_v 0)) (ev_r (n := n) R0 (ev_regs T R0 (ev_v 0)) (ev_v 1) hn)) (ev_num T.MASK)).int (by rw [pc4 hpc]; exact plus_eq _ _)) (fin_jp kk R R0 (Chg.refl _ _))
theorem sc_come_back : FnScope ["machine", "n", "m", "i"] P4 (defScope (top 23)) := ⟨rfl, rfl, rfl, by decide +kernel, rfl, by decide +kernel, by decide +kernel⟩
theorem ok_come_back (F : Fun K "come_back" "come_back" (top 23) f fd) (T : Tx K mg C) (G : Hlp P w K mg base C xs) : FnOk P w K mg base (CXE P w) 6 f fd P4 (spA C xs .come_back) := by
  refine act_do F sc_come_back fun cdv A outer s H Q E a m0 M n j i hr R hn hj hi hji hpc hok kk => ?_
  have g := R.good
  have R0 := R.toRepC
  have nd := sc_come_back.nd
  dsimp only [effA] at kk
  exact do_ret (ev_reg (n := 21) R0 (ev_regs T R0 (ev_v 0)) (ev_num T.PR) (by decide)) (fin_jp kk R R0 (Chg.refl _ _))
theorem sc_come_back_with_status : FnScope ["machine", "n", "m", "i", "regs", "target", "status"] P4 (defScope (top 24)) := ⟨rfl, rfl, rfl, by decide +kernel, rfl, by decide +kernel, by decide +kernel⟩
theorem ok_come_back_with_status (F : Fun K "come_back_with_status" "come_back_with_status" (top 24) f fd) (T : Tx K mg C) (G : Hlp P w K mg base C xs) : FnOk P w K mg base (CXE P w) 6 f fd P4 (spA C xs .come_back_with_status) := by
  refine act_do F sc_come_back_with_status fun cdv A outer s H Q E a m0 M n j i hr R hn hj hi hji hpc hok kk => ?_
  have g := R.good
  have R0 := R.toRepC
  have nd := sc_come_back_with_status.nd
  dsimp only [effA] at kk
  refine do_set 4 nd (ev_regs T R0 (ev_v 0)) ?_
  refine do_loadl 5 nd (pt := M.r 15) (n := 4) T.cl G.ld (hr.mono (by decide)) passE R (ev_v 0) (ev_r (n := 15) R0 (ev_v 4) ev_int (by decide)) ev_int (.inr (.inr rfl)) (ldQ_load kk fun kk => ?_)
  refine do_loadl 6 nd (pt := Ra28.plus (M.r 15) 4) (n := 4) T.cl G.ld (hr.mono (by decide)) passE R (ev_v 0) ((ev_and (ev_add (ev_r (n := 15) R0 (ev_v 4) ev_int (by decide)) ev_int) (ev_num T.MASK)).int (plus_eq _ 4)) ev_int (.inr (.inr rfl)) (ldQ_load kk fun kk => ?_)
  refine do_setr (n := 15) (x := Ra28.plus (M.r 15) 8) R0 ((ev_and (ev_add (ev_r (n := 15) R0 (ev_v 4) ev_int (by decide)) ev_int) (ev_num T.MASK)).int (plus_eq _ 8)) (ev_v 4) ev_int (by decide) (plus_lt _ _) fun H1 R1 c1 => ?_
  refine do_meth T.cl G.wst (hr.mono (by decide)) passE R1 (ev_v 0) (ea_cons (ev_v 6) ea_nil) ⟨a, _, 0, _, rfl, R1, fun H2 R2 c2 => ?_⟩
  exact do_ret (ev_v 5) (fin_jp kk R R2 (c1.trans c2))
theorem sc_jump_to_register : FnScope ["machine", "n", "m", "i"] P4 (defScope (top 25)) := ⟨rfl, rfl, rfl, by decide +kernel, rfl, by decide +kernel, by decide +kernel⟩
theorem ok_jump_to_register (F : Fun K "jump_to_register" "jump_to_register" (top 25) f fd) (T : Tx K mg C) (G : Hlp P w K mg base C xs) : FnOk P w K mg base (CXE P w) 6 f fd P4 (spA C xs .jump_to_register) := by
  refine act_do F sc_jump_to_register fun cdv A outer s H Q E a m0 M n j i hr R hn hj hi hji hpc hok kk => ?_
  have g := R.good
  have R0 := R.toRepC
  have nd := sc_jump_to_register.nd
  dsimp only [effA] at kk
  exact do_ret (ev_r (n := n) R0 (ev_regs T R0 (ev_v 0)) (ev_v 1) hn) (fin_jp kk R R0 (Chg.refl _ _))
theorem sc_call_to_register : FnScope ["machine", "n", "m", "i"] P4 (defScope (top 26)) := ⟨rfl, rfl, rfl, by decide +kernel, rfl, by decide +kernel, by decide +kernel⟩
theorem ok_call_to_register (F : Fun K "call_to_register" "call_to_register" (top 26) f fd) (T : Tx K mg C) (G : Hlp P w K mg base C xs) : FnOk P w K mg base (CXE P w) 6 f fd P4 (spA C xs .call_to_register) := by
  refine act_do F sc_call_to_register fun cdv A outer s H Q E a m0 M n j i hr R hn hj hi hji hpc hok kk => ?_
  have g := R.good
  have R0 := R.toRepC
  have nd := sc_call_to_register.nd
  dsimp only [effA] at kk
  refine do_setreg (n := 21) (x := M.pc + 4) R0 ((ev_base G.bs (hr.mono (by decide)) passE R0 (ev_v 0)).int (rfl)) (ev_regs T R0 (ev_v 0)) (ev_num T.PR) (by decide) (by decide) (by omega) fun H1 R1 c1 => ?_
  exact do_ret (ev_r (n := n) R1 (ev_regs T R1 (ev_v 0)) (ev_v 1) hn) (fin_jp kk R (by rw [pc4 hpc]; exact R1) c1)
theorem sc_leap_where_1 : FnScope ["machine", "n", "m", "i"] P4 (defScope (top 28)) := ⟨rfl, rfl, rfl, by decide +kernel, rfl, by decide +kernel, by decide +kernel⟩
theorem ok_leap_where_1 (F : Fun K "leap_where_1" "leap_where_1" (top 28) f fd) (T : Tx K mg C) (G : Hlp P w K mg base C xs) : FnOk P w K mg base (CXE P w) 6 f fd P4 (spA C xs .leap_where_1) := by
  refine act_do F sc_leap_where_1 fun cdv A outer s H Q E a m0 M n j i hr R hn hj hi hji hpc hok kk => ?_
  have g := R.good
  have R0 := R.toRepC
  have nd := sc_leap_where_1.nd
  dsimp only [effA] at kk
  refine do_if ((tt_eq (ev_t T R0 (ev_v 0)) ev_int).eq (dec_bit1 M.t)) (fun h => ?_) (fun h => ?_)
  · refine do_f fw_follow (there M 8 i) T.cl T.nFollow R0 (ev_short G.st (hr.mono (by decide)) passE R0 (ev_v 0) (ev_v 3) hpc) (ev_v 0) (there_lt _ _ _) fun H1 R1 c1 => ?_
    refine do_nil (do_nil ?_)
    have kk : effQ C xs a m0 H Q E (.nx (if M.t = true then { M with npc := there M 8 i } else M) 0) := kk
    rw [if_pos h] at kk
    exact fin_nx kk R R1 c1
  · refine do_nil (do_nil ?_)
    have kk : effQ C xs a m0 H Q E (.nx (if M.t = true then { M with npc := there M 8 i } else M) 0) := kk
    rw [if_neg (by rw [h]; decide)] at kk
    exact fin_nx kk R R0 (Chg.refl _ _)
theorem sc_leap_where_0 : FnScope ["machine", "n", "m", "i"] P4 (defScope (top 29)) := ⟨rfl, rfl, rfl, by decide +kernel, rfl, by decide +kernel, by decide +kernel⟩
theorem ok_leap_where_0 (F : Fun K "leap_where_0" "leap_where_0" (top 29) f fd) (T : Tx K mg C) (G : Hlp P w K mg base C xs) : FnOk P w K mg base (CXE P w) 6 f fd P4 (spA C xs .leap_where_0) := by
  refine act_do F sc_leap_where_0 fun cdv A outer s H Q E a m0 M n j i hr R hn hj hi hji hpc hok kk => ?_
  have g := R.good
  have R0 := R.toRepC
  have nd := sc_leap_where_0.nd
  dsimp only [effA] at kk
  refine do_if ((tt_eq (ev_t T R0 (ev_v 0)) ev_int).eq (dec_bit0 M.t)) (fun h => ?_) (fun h => ?_)
  · refine do_f fw_follow (there M 8 i) T.cl T.nFollow R0 (ev_short G.st (hr.mono (by decide)) passE R0 (ev_v 0) (ev_v 3) hpc) (ev_v 0) (there_lt _ _ _) fun H1 R1 c1 => ?_
    refine do_nil (do_nil ?_)
    have kk : effQ C xs a m0 H Q E (.nx (if M.t = true then M else { M with npc := there M 8 i }) 0) := kk
    rw [if_neg (by intro z; rw [z] at h; cases h)] at kk
    exact fin_nx kk R R1 c1
  · refine do_nil (do_nil ?_)
    have kk : effQ C xs a m0 H Q E (.nx (if M.t = true then M else { M with npc := there M 8 i }) 0) := kk
    rw [if_pos (by cases ht : M.t with | true => rfl | false => rw [ht] at h; cases h)] at kk
    exact fin_nx kk R R0 (Chg.refl _ _)
theorem sc_jump_where_1 : FnScope ["machine", "n", "m", "i"] P4 (defScope (top 30)) := ⟨rfl, rfl, rfl, by decide +kernel, rfl, by decide +kernel, by decide +kernel⟩
theorem ok_jump_where_1 (F : Fun K "jump_where_1" "jump_where_1" (top 30) f fd) (T : Tx K mg C) (G : Hlp P w K mg base C xs) : FnOk P w K mg base (CXE P w) 6 f fd P4 (spA C xs .jump_where_1) := by
  refine act_do F sc_jump_where_1 fun cdv A outer s H Q E a m0 M n j i hr R hn hj hi hji hpc hok kk => ?_
  have g := R.good
  have R0 := R.toRepC
  have nd := sc_jump_where_1.nd
  dsimp only [effA] at kk
  cases ht : M.t with
  | true =>
    have kk : effQ C xs a m0 H Q E (if M.t = true then .jp M (there M 8 i) else .nx M 0) := kk
    rw [if_pos ht] at kk
    exact do_ret (ev_ifT ((tt_eq (ev_t T R0 (ev_v 0)) ev_int).eq ((dec_bit1 M.t).trans (by simp [ht]))) (ev_short G.st (hr.mono (by decide)) passE R0 (ev_v 0) (ev_v 3) hpc)) (fin_jp kk R R0 (Chg.refl _ _))
  | false =>
    have kk : effQ C xs a m0 H Q E (if M.t = true then .jp M (there M 8 i) else .nx M 0) := kk
    rw [if_neg (by rw [ht]; decide)] at kk
    exact do_ret (ev_ifF ((tt_eq (ev_t T R0 (ev_v 0)) ev_int).eq ((dec_bit1 M.t).trans (by simp [ht]))) ev_non) (fin_nx kk R R0 (Chg.refl _ _))
theorem sc_jump_where_0 : FnScope ["machine", "n", "m", "i"] P4 (defScope (top 31)) := ⟨rfl, rfl, rfl, by decide +kernel, rfl, by decide +kernel, by decide +kernel⟩
theorem ok_jump_where_0 (F : Fun K "jump_where_0" "jump_where_0" (top 31) f fd) (T : Tx K mg C) (G : Hlp P w K mg base C xs) : FnOk P w K mg base (CXE P w) 6 f fd P4 (spA C xs .jump_where_0) := by
  refine act_do F sc_jump_where_0 fun cdv A outer s H Q E a m0 M n j i hr R hn hj hi hji hpc hok kk => ?_
  have g := R.good
  have R0 := R.toRepC
  have nd := sc_jump_where_0.nd
  dsimp only [effA] at kk
  cases ht : M.t with
  | true =>
    have kk : effQ C xs a m0 H Q E (if M.t = true then .nx M 0 else .jp M (there M 8 i)) := kk
    rw [if_pos ht] at kk
    exact do_ret (ev_ifF ((tt_eq (ev_t T R0 (ev_v 0)) ev_int).eq ((dec_bit0 M.t).trans (by simp [ht]))) ev_non) (fin_nx kk R R0 (Chg.refl _ _))
  | false =>
    have kk : effQ C xs a m0 H Q E (if M.t = true then .nx M 0 else .jp M (there M 8 i)) := kk
    rw [if_neg (by rw [ht]; decide)] at kk
    exact do_ret (ev_ifT ((tt_eq (ev_t T R0 (ev_v 0)) ev_int).eq ((dec_bit0 M.t).trans (by simp [ht]))) (ev_short G.st (hr.mono (by decide)) passE R0 (ev_v 0) (ev_v 3) hpc)) (fin_jp kk R R0 (Chg.refl _ _))
theorem sc_jump_by_number : FnScope ["machine", "n", "m", "i"] P4 (defScope (top 32)) := ⟨rfl, rfl, rfl, by decide +kernel, rfl, by decide +kernel, by decide +kernel⟩
theorem ok_jump_by_number (F : Fun K "jump_by_number" "jump_by_number" (top 32) f fd) (T : Tx K mg C) (G : Hlp P w K mg base C xs) : FnOk P w K mg base (CXE P w) 4 f fd P4 (spA C xs .jump_by_number) := by
  refine act_do F sc_jump_by_number fun cdv A outer s H Q E a m0 M n j i hr R hn hj hi hji hpc hok kk => ?_
  have g := R.good
  have R0 := R.toRepC
  have nd := sc_jump_by_number.nd
  dsimp only [effA] at kk
  exact do_ret ((ev_and (ev_add (ev_base G.bs (hr.mono (by decide)) passE R0 (ev_v 0)) (ev_mul ev_int (ev_signed (n := 12) G.sg (hr.mono (by decide)) passE (ev_or (ev_shl (ev_v 1) ev_int (cpow (by omega) (by decide) (by decide))) (ev_v 3)) ev_int (by decide) (by decide)) (.inl ⟨by decide, by decide⟩))) (ev_num T.MASK)).int (by rw [show (n : Int) * 2 ^ (8 : Int).toNat = ((n * 256 : Nat) : Int) from shl_nat n 8, or_nn, show n * 256 ||| i = n * 256 + i from or_add n i 8 (by omega)]; exact there_eq hpc 12 _)) (fin_jp kk R R0 (Chg.refl _ _))
theorem sc_load_word : FnScope ["machine", "n", "m", "i"] P4 (defScope (top 34)) := ⟨rfl, rfl, rfl, by decide +kernel, rfl, by decide +kernel, by decide +kernel⟩
theorem ok_load_word (F : Fun K "load_word" "load_word" (top 34) f fd) (T : Tx K mg C) (G : Hlp P w K mg base C xs) : FnOk P w K mg base (CXE P w) 6 f fd P4 (spA C xs .load_word) := by
  refine act_do F sc_load_word fun cdv A outer s H Q E a m0 M n j i hr R hn hj hi hji hpc hok kk => ?_
  have g := R.good
  have R0 := R.toRepC
  have nd := sc_load_word.nd
  dsimp only [effA] at kk
  refine do_loadr (pt := Ra28.plus (Ra28.plus M.pc 4) (2 * i)) (n := 2) (r := n) T.cl G.ld (hr.mono (by decide)) passE R (ev_v 0) ((ev_add (ev_base G.bs (hr.mono (by decide)) passE R0 (ev_v 0)) (ev_mul ev_int (ev_v 3) (.inl ⟨by decide, by decide⟩))).int (by rw [pc4 hpc]; show (((M.pc + 4 : Nat) : Int) + 2 * (i : Int)) = (((M.pc + 4 + 2 * i) % 4294967296 : Nat) : Int); omega)) ev_int (.inr (.inl rfl)) (ev_regs T R0 (ev_v 0)) (ev_v 1) hn (ldQ_load kk fun kk => fun H1 R1 c1 => ?_)
  exact do_nil (fin_nx kk R R1 c1)
theorem sc_load_long : FnScope ["machine", "n", "m", "i"] P4 (defScope (top 35)) := ⟨rfl, rfl, rfl, by decide +kernel, rfl, by decide +kernel, by decide +kernel⟩
theorem ok_load_long (F : Fun K "load_long" "load_long" (top 35) f fd) (T : Tx K mg C) (G : Hlp P w K mg base C xs) : FnOk P w K mg base (CXE P w) 6 f fd P4 (spA C xs .load_long) := by
  refine act_do F sc_load_long fun cdv A outer s H Q E a m0 M n j i hr R hn hj hi hji hpc hok kk => ?_
  have g := R.good
  have R0 := R.toRepC
  have nd := sc_load_long.nd
  dsimp only [effA] at kk
  refine do_loadr (pt := Ra28.plus (Ra28.plus M.pc 4 / 4 * 4) (4 * i)) (n := 4) (r := n) T.cl G.ld (hr.mono (by decide)) passE R (ev_v 0) ((ev_add (ev_long G.lb (hr.mono (by decide)) passE R0 (ev_v 0) hpc) (ev_mul ev_int (ev_v 3) (.inl ⟨by decide, by decide⟩))).int (by rw [pc4 hpc]; show ((((M.pc + 4) / 4 * 4 : Nat) : Int) + 4 * (i : Int)) = (((((M.pc + 4) / 4 * 4 + 4 * i) % 4294967296 : Nat)) : Int); omega)) ev_int (.inr (.inr rfl)) (ev_regs T R0 (ev_v 0)) (ev_v 1) hn (ldQ_load kk fun kk => fun H1 R1 c1 => ?_)
  exact do_nil (fin_nx kk R R1 c1)
theorem sc_call_system : FnScope ["machine", "n", "m", "i"] P4 (defScope (top 36)) := ⟨rfl, rfl, rfl, by decide +kernel, rfl, by decide +kernel, by decide +kernel⟩
theorem ok_call_system (F : Fun K "call_system" "call_system" (top 36) f fd) (T : Tx K mg C) (G : Hlp P w K mg base C xs) : FnOk P w K mg base (CXE P w) 6 f fd P4 (spA C xs .call_system) := by
  refine act_do F sc_call_system fun cdv A outer s H Q E a m0 M n j i hr R hn hj hi hji hpc hok kk => ?_
  have g := R.good
  have R0 := R.toRepC
  have nd := sc_call_system.nd
  dsimp only [effA] at kk
  refine do_f fw_why (5) T.cl T.nWhy R0 (ev_int.int ( rfl)) (ev_v 0) trivial fun H1 R1 c1 => ?_
  exact do_nil (fin_nx kk R R1 c1)
theorem sc_tell_place : FnScope ["machine", "n", "m", "i"] P4 (defScope (top 37)) := ⟨rfl, rfl, rfl, by decide +kernel, rfl, by decide +kernel, by decide +kernel⟩
theorem ok_tell_place (F : Fun K "tell_place" "tell_place" (top 37) f fd) (T : Tx K mg C) (G : Hlp P w K mg base C xs) : FnOk P w K mg base (CXE P w) 6 f fd P4 (spA C xs .tell_place) := by
  refine act_do F sc_tell_place fun cdv A outer s H Q E a m0 M n j i hr R hn hj hi hji hpc hok kk => ?_
  have g := R.good
  have R0 := R.toRepC
  have nd := sc_tell_place.nd
  dsimp only [effA] at kk
  refine do_setr (n := 0) (x := Ra28.plus (Ra28.plus M.pc 4 / 4 * 4) (4 * i)) R0 ((ev_add (ev_long G.lb (hr.mono (by decide)) passE R0 (ev_v 0) hpc) (ev_mul ev_int (ev_v 3) (.inl ⟨by decide, by decide⟩))).int (by rw [pc4 hpc]; show ((((M.pc + 4) / 4 * 4 : Nat) : Int) + 4 * (i : Int)) = (((((M.pc + 4) / 4 * 4 + 4 * i) % 4294967296 : Nat)) : Int); omega)) (ev_regs T R0 (ev_v 0)) ev_int (by decide) (plus_lt _ _) fun H1 R1 c1 => ?_
  exact do_nil (fin_nx kk R R1 c1)
end
end Sh
namespace Sh
open PySem PyProof.Rows L2
section
variable {P : Program} {w : World} {K : PySem.W.Frag} {mg : Str → Option Value} {base : Heap} {f C : Addr} {xs : Xs} {fd : FuncData}
theorem sc_store_indexed : FnScope ["machine", "n", "m", "i", "regs"] P4 (defScope (top 53)) := ⟨rfl, rfl, rfl, by decide +kernel, rfl, by decide +kernel, by decide +kernel⟩
theorem ok_store_indexed (F : Fun K "store_indexed" "store_indexed" (top 53) f fd) (T : Tx K mg C) (G : Hlp P w K mg base C xs) : FnOk P w K mg base (CXE P w) 6 f fd P4 (spA C xs .store_indexed) := by
  refine act_do F sc_store_indexed fun cdv A outer s H Q E a m0 M n j i hr R hn hj hi hji hpc hok kk => ?_
  have g := R.good
  have R0 := R.toRepC
  have nd := sc_store_indexed.nd
  dsimp only [effA] at kk
  refine do_set 4 nd (ev_regs T R0 (ev_v 0)) ?_
  refine do_store (pt := Ra28.plus (M.r 0) (M.r n)) (n := 2 ^ (i % 4)) (x := M.r j) T.cl G.sto (hr.mono (by decide)) passE R (ev_v 0) ((ev_and (ev_add (ev_r (n := 0) R0 (ev_v 4) ev_int (by decide)) (ev_r (n := n) R0 (ev_v 4) (ev_v 1) hn)) (ev_num T.MASK)).int (plus_eq _ _)) (ev_size (ev_v 3)) (ev_r (n := j) R0 (ev_v 4) (ev_v 2) hj) (size_ok hok) (g.r j) (ldQ_store kk fun kk => fun H1 R1 c1 => ?_)
  exact do_nil (fin_st kk R1 c1)
theorem sc_load_indexed : FnScope ["machine", "n", "m", "i", "regs"] P4 (defScope (top 54)) := ⟨rfl, rfl, rfl, by decide +kernel, rfl, by decide +kernel, by decide +kernel⟩
theorem ok_load_indexed (F : Fun K "load_indexed" "load_indexed" (top 54) f fd) (T : Tx K mg C) (G : Hlp P w K mg base C xs) : FnOk P w K mg base (CXE P w) 6 f fd P4 (spA C xs .load_indexed) := by
  refine act_do F sc_load_indexed fun cdv A outer s H Q E a m0 M n j i hr R hn hj hi hji hpc hok kk => ?_
  have g := R.good
  have R0 := R.toRepC
  have nd := sc_load_indexed.nd
  dsimp only [effA] at kk
  refine do_set 4 nd (ev_regs T R0 (ev_v 0)) ?_
  refine do_loadr (pt := Ra28.plus (M.r 0) (M.r j)) (n := 2 ^ (i % 4)) (r := n) T.cl G.ld (hr.mono (by decide)) passE R (ev_v 0) ((ev_and (ev_add (ev_r (n := 0) R0 (ev_v 4) ev_int (by decide)) (ev_r (n := j) R0 (ev_v 4) (ev_v 2) hj)) (ev_num T.MASK)).int (plus_eq _ _)) (ev_size (ev_v 3)) (size_ok hok) (ev_v 4) (ev_v 1) hn (ldQ_load kk fun kk => fun H1 R1 c1 => ?_)
  exact do_nil (fin_nx kk R R1 c1)
theorem sc_multiply : FnScope ["machine", "n", "m", "i", "regs"] P4 (defScope (top 55)) := ⟨rfl, rfl, rfl, by decide +kernel, rfl, by decide +kernel, by decide +kernel⟩
theorem ok_multiply (F : Fun K "multiply" "multiply" (top 55) f fd) (T : Tx K mg C) (G : Hlp P w K mg base C xs) : FnOk P w K mg base (CXE P w) 6 f fd P4 (spA C xs .multiply) := by
  refine act_do F sc_multiply fun cdv A outer s H Q E a m0 M n j i hr R hn hj hi hji hpc hok kk => ?_
  have g := R.good
  have R0 := R.toRepC
  have nd := sc_multiply.nd
  dsimp only [effA] at kk
  refine do_set 4 nd (ev_regs T R0 (ev_v 0)) ?_
  refine do_setreg (n := 20) (x := M.r n * M.r j % 4294967296) R0 ((ev_and (ev_mul (ev_r (n := n) R0 (ev_v 4) (ev_v 1) hn) (ev_r (n := j) R0 (ev_v 4) (ev_v 2) hj) (.inl ⟨by omega, by have := g.r n; omega⟩)) (ev_num T.MASK)).int (mul_mask _ _)) (ev_v 4) (ev_num T.MACL) (by decide) (by decide) (Nat.mod_lt _ (by decide)) fun H1 R1 c1 => ?_
  exact do_nil (fin_nx kk R R1 c1)
theorem sc_read_control : FnScope ["machine", "n", "m", "i"] P4 (defScope (top 56)) := ⟨rfl, rfl, rfl, by decide +kernel, rfl, by decide +kernel, by decide +kernel⟩
theorem ok_read_control (F : Fun K "read_control" "read_control" (top 56) f fd) (T : Tx K mg C) (G : Hlp P w K mg base C xs) : FnOk P w K mg base (CXE P w) 6 f fd P4 (spA C xs .read_control) := by
  refine act_do F sc_read_control fun cdv A outer s H Q E a m0 M n j i hr R hn hj hi hji hpc hok kk => ?_
  have g := R.good
  have R0 := R.toRepC
  have nd := sc_read_control.nd
  dsimp only [effA] at kk
  refine do_setr (n := n) (x := rdV M (16 + j)) R0 ((ev_read (k := 16 + j) T.cl G.rd (hr.mono (by decide)) passE R0 (ev_v 0) ((ev_add (ev_num T.STATUS) (ev_v 2)).eq (congrArg V.int (by omega))) (by have : i / 16 < 3 := hok; omega)).int (rfl)) (ev_regs T R0 (ev_v 0)) (ev_v 1) hn (rdV_lt g _) fun H1 R1 c1 => ?_
  exact do_nil (fin_nx kk R R1 c1)
theorem sc_read_system : FnScope ["machine", "n", "m", "i"] P4 (defScope (top 57)) := ⟨rfl, rfl, rfl, by decide +kernel, rfl, by decide +kernel, by decide +kernel⟩
theorem ok_read_system (F : Fun K "read_system" "read_system" (top 57) f fd) (T : Tx K mg C) (G : Hlp P w K mg base C xs) : FnOk P w K mg base (CXE P w) 6 f fd P4 (spA C xs .read_system) := by
  refine act_do F sc_read_system fun cdv A outer s H Q E a m0 M n j i hr R hn hj hi hji hpc hok kk => ?_
  have g := R.good
  have R0 := R.toRepC
  have nd := sc_read_system.nd
  dsimp only [effA] at kk
  refine do_setr (n := n) (x := rdV M (19 + j)) R0 ((ev_read (k := 19 + j) T.cl G.rd (hr.mono (by decide)) passE R0 (ev_v 0) ((ev_add (ev_num T.MACH) (ev_v 2)).eq (congrArg V.int (by omega))) (by have : i / 16 < 3 := hok; omega)).int (rfl)) (ev_regs T R0 (ev_v 0)) (ev_v 1) hn (rdV_lt g _) fun H1 R1 c1 => ?_
  exact do_nil (fin_nx kk R R1 c1)
theorem sc_read_t : FnScope ["machine", "n", "m", "i"] P4 (defScope (top 58)) := ⟨rfl, rfl, rfl, by decide +kernel, rfl, by decide +kernel, by decide +kernel⟩
theorem ok_read_t (F : Fun K "read_t" "read_t" (top 58) f fd) (T : Tx K mg C) (G : Hlp P w K mg base C xs) : FnOk P w K mg base (CXE P w) 6 f fd P4 (spA C xs .read_t) := by
  refine act_do F sc_read_t fun cdv A outer s H Q E a m0 M n j i hr R hn hj hi hji hpc hok kk => ?_
  have g := R.good
  have R0 := R.toRepC
  have nd := sc_read_t.nd
  dsimp only [effA] at kk
  refine do_setr (n := n) (x := Ra28.bit M.t) R0 ((ev_t T R0 (ev_v 0)).int (rfl)) (ev_regs T R0 (ev_v 0)) (ev_v 1) hn (by have := bit_lt M.t; omega) fun H1 R1 c1 => ?_
  exact do_nil (fin_nx kk R R1 c1)
theorem sc_clear_t : FnScope ["machine", "n", "m", "i"] P4 (defScope (top 59)) := ⟨rfl, rfl, rfl, by decide +kernel, rfl, by decide +kernel, by decide +kernel⟩
theorem ok_clear_t (F : Fun K "clear_t" "clear_t" (top 59) f fd) (T : Tx K mg C) (G : Hlp P w K mg base C xs) : FnOk P w K mg base (CXE P w) 6 f fd P4 (spA C xs .clear_t) := by
  refine act_do F sc_clear_t fun cdv A outer s H Q E a m0 M n j i hr R hn hj hi hji hpc hok kk => ?_
  have g := R.good
  have R0 := R.toRepC
  have nd := sc_clear_t.nd
  dsimp only [effA] at kk
  refine do_f fw_t (false) T.cl T.nT R0 (ev_int.int ( rfl)) (ev_v 0) trivial fun H1 R1 c1 => ?_
  exact do_nil (fin_nx kk R R1 c1)
theorem sc_raise_t : FnScope ["machine", "n", "m", "i"] P4 (defScope (top 60)) := ⟨rfl, rfl, rfl, by decide +kernel, rfl, by decide +kernel, by decide +kernel⟩
theorem ok_raise_t (F : Fun K "raise_t" "raise_t" (top 60) f fd) (T : Tx K mg C) (G : Hlp P w K mg base C xs) : FnOk P w K mg base (CXE P w) 6 f fd P4 (spA C xs .raise_t) := by
  refine act_do F sc_raise_t fun cdv A outer s H Q E a m0 M n j i hr R hn hj hi hji hpc hok kk => ?_
  have g := R.good
  have R0 := R.toRepC
  have nd := sc_raise_t.nd
  dsimp only [effA] at kk
  refine do_f fw_t (true) T.cl T.nT R0 (ev_int.int ( rfl)) (ev_v 0) trivial fun H1 R1 c1 => ?_
  exact do_nil (fin_nx kk R R1 c1)
theorem sc_clear_sum : FnScope ["machine", "n", "m", "i"] P4 (defScope (top 61)) := ⟨rfl, rfl, rfl, by decide +kernel, rfl, by decide +kernel, by decide +kernel⟩
theorem ok_clear_sum (F : Fun K "clear_sum" "clear_sum" (top 61) f fd) (T : Tx K mg C) (G : Hlp P w K mg base C xs) : FnOk P w K mg base (CXE P w) 6 f fd P4 (spA C xs .clear_sum) := by
  refine act_do F sc_clear_sum fun cdv A outer s H Q E a m0 M n j i hr R hn hj hi hji hpc hok kk => ?_
  have g := R.good
  have R0 := R.toRepC
  have nd := sc_clear_sum.nd
  dsimp only [effA] at kk
  refine do_setreg (n := 19) (x := 0) R0 (ev_int.int (rfl)) (ev_regs T R0 (ev_v 0)) (ev_num T.MACH) (by decide) (by decide) (by decide) fun H1 R1 c1 => ?_
  refine do_setreg (n := 20) (x := 0) R1 (ev_int.int (rfl)) (ev_regs T R1 (ev_v 0)) (ev_num T.MACL) (by decide) (by decide) (by decide) fun H2 R2 c2 => ?_
  exact do_nil (fin_nx kk R (by have z := R2; rw [mac_hi (by decide)] at z; exact z) (c1.trans c2))
theorem sc_do_nothing : FnScope ["machine", "n", "m", "i"] P4 (defScope (top 62)) := ⟨rfl, rfl, rfl, by decide +kernel, rfl, by decide +kernel, by decide +kernel⟩
theorem ok_do_nothing (F : Fun K "do_nothing" "do_nothing" (top 62) f fd) (T : Tx K mg C) (G : Hlp P w K mg base C xs) : FnOk P w K mg base (CXE P w) 6 f fd P4 (spA C xs .do_nothing) := by
  refine act_do F sc_do_nothing fun cdv A outer s H Q E a m0 M n j i hr R hn hj hi hji hpc hok kk => ?_
  have g := R.good
  have R0 := R.toRepC
  have nd := sc_do_nothing.nd
  dsimp only [effA] at kk
  refine do_pass ?_
  exact do_nil (fin_nx kk R R0 (Chg.refl _ _))
theorem sc_begin_unsigned_division : FnScope ["machine", "n", "m", "i"] P4 (defScope (top 63)) := ⟨rfl, rfl, rfl, by decide +kernel, rfl, by decide +kernel, by decide +kernel⟩
theorem ok_begin_unsigned_division (F : Fun K "begin_unsigned_division" "begin_unsigned_division" (top 63) f fd) (T : Tx K mg C) (G : Hlp P w K mg base C xs) : FnOk P w K mg base (CXE P w) 6 f fd P4 (spA C xs .begin_unsigned_division) := by
  refine act_do F sc_begin_unsigned_division fun cdv A outer s H Q E a m0 M n j i hr R hn hj hi hji hpc hok kk => ?_
  have g := R.good
  have R0 := R.toRepC
  have nd := sc_begin_unsigned_division.nd
  dsimp only [effA] at kk
  refine do_f fw_q (false) T.cl T.nQ R0 (ev_int.int ( rfl)) (ev_v 0) trivial fun H1 R1 c1 => ?_
  refine do_f fw_m (false) T.cl T.nM R1 (ev_int.int ( rfl)) (ev_v 0) trivial fun H2 R2 c2 => ?_
  refine do_f fw_t (false) T.cl T.nT R2 (ev_int.int ( rfl)) (ev_v 0) trivial fun H3 R3 c3 => ?_
  exact do_nil (fin_nx kk R R3 (c1.trans (c2.trans c3)))
theorem sc_sleep : FnScope ["machine", "n", "m", "i"] P4 (defScope (top 64)) := ⟨rfl, rfl, rfl, by decide +kernel, rfl, by decide +kernel, by decide +kernel⟩
theorem ok_sleep (F : Fun K "sleep" "sleep" (top 64) f fd) (T : Tx K mg C) (G : Hlp P w K mg base C xs) : FnOk P w K mg base (CXE P w) 6 f fd P4 (spA C xs .sleep) := by
  refine act_do F sc_sleep fun cdv A outer s H Q E a m0 M n j i hr R hn hj hi hji hpc hok kk => ?_
  have g := R.good
  have R0 := R.toRepC
  have nd := sc_sleep.nd
  dsimp only [effA] at kk
  refine do_f fw_why (6) T.cl T.nWhy R0 (ev_int.int ( rfl)) (ev_v 0) trivial fun H1 R1 c1 => ?_
  exact do_nil (fin_nx kk R R1 c1)
theorem sc_store_at : FnScope ["machine", "n", "m", "i", "regs"] P4 (defScope (top 70)) := ⟨rfl, rfl, rfl, by decide +kernel, rfl, by decide +kernel, by decide +kernel⟩
theorem ok_store_at (F : Fun K "store_at" "store_at" (top 70) f fd) (T : Tx K mg C) (G : Hlp P w K mg base C xs) : FnOk P w K mg base (CXE P w) 6 f fd P4 (spA C xs .store_at) := by
  refine act_do F sc_store_at fun cdv A outer s H Q E a m0 M n j i hr R hn hj hi hji hpc hok kk => ?_
  have g := R.good
  have R0 := R.toRepC
  have nd := sc_store_at.nd
  dsimp only [effA] at kk
  refine do_set 4 nd (ev_regs T R0 (ev_v 0)) ?_
  refine do_store (pt := M.r n) (n := 2 ^ (i % 4)) (x := M.r j) T.cl G.sto (hr.mono (by decide)) passE R (ev_v 0) (ev_r (n := n) R0 (ev_v 4) (ev_v 1) hn) (ev_size (ev_v 3)) (ev_r (n := j) R0 (ev_v 4) (ev_v 2) hj) (size_ok hok) (g.r j) (ldQ_store kk fun kk => fun H1 R1 c1 => ?_)
  exact do_nil (fin_st kk R1 c1)
theorem sc_store_below : FnScope ["machine", "n", "m", "i", "regs", "size", "place"] P4 (defScope (top 71)) := ⟨rfl, rfl, rfl, by decide +kernel, rfl, by decide +kernel, by decide +kernel⟩
theorem ok_store_below (F : Fun K "store_below" "store_below" (top 71) f fd) (T : Tx K mg C) (G : Hlp P w K mg base C xs) : FnOk P w K mg base (CXE P w) 6 f fd P4 (spA C xs .store_below) := by
  refine act_do F sc_store_below fun cdv A outer s H Q E a m0 M n j i hr R hn hj hi hji hpc hok kk => ?_
  have g := R.good
  have R0 := R.toRepC
  have nd := sc_store_below.nd
  dsimp only [effA] at kk
  refine do_set 4 nd (ev_regs T R0 (ev_v 0)) ?_
  refine do_set 5 nd (ev_size (ev_v 3)) ?_
  refine do_set 6 nd ((ev_and (ev_sub (ev_r (n := n) R0 (ev_v 4) (ev_v 1) hn) (ev_v 5)) (ev_num T.MASK)).int (minus_eq (by have := size_le hok; omega))) ?_
  refine do_store (pt := Ra28.minus (M.r n) (2 ^ (i % 4))) (n := 2 ^ (i % 4)) (x := M.r j) T.cl G.sto (hr.mono (by decide)) passE R (ev_v 0) (ev_v 6) (ev_v 5) (ev_r (n := j) R0 (ev_v 4) (ev_v 2) hj) (size_ok hok) (g.r j) (ldQ_store kk fun kk => fun H1 R1 c1 => ?_)
  refine do_setr (n := n) (x := Ra28.minus (M.r n) (2 ^ (i % 4))) R1.toRepC (ev_v 6) (ev_v 4) (ev_v 1) hn (minus_lt _ _) fun H2 R2 c2 => ?_
  exact do_nil (fin_st kk (R1.chg R2 c2 rfl) (c1.trans c2.fra))
theorem sc_begin_signed_division : FnScope ["machine", "n", "m", "i"] P4 (defScope (top 72)) := ⟨rfl, rfl, rfl, by decide +kernel, rfl, by decide +kernel, by decide +kernel⟩
theorem ok_begin_signed_division (F : Fun K "begin_signed_division" "begin_signed_division" (top 72) f fd) (T : Tx K mg C) (G : Hlp P w K mg base C xs) : FnOk P w K mg base (CXE P w) 6 f fd P4 (spA C xs .begin_signed_division) := by
  refine act_do F sc_begin_signed_division fun cdv A outer s H Q E a m0 M n j i hr R hn hj hi hji hpc hok kk => ?_
  have g := R.good
  have R0 := R.toRepC
  have nd := sc_begin_signed_division.nd
  dsimp only [effA] at kk
  refine do_f fw_q (decide (2147483648 ≤ M.r n)) T.cl T.nQ R0 ((ev_shr (ev_r (n := n) R0 (ev_regs T R0 (ev_v 0)) (ev_v 1) hn) ev_int (by decide)).int ( shr31 (g.r n))) (ev_v 0) trivial fun H1 R1 c1 => ?_
  refine do_f fw_m (decide (2147483648 ≤ M.r j)) T.cl T.nM R1 ((ev_shr (ev_r (n := j) R1 (ev_regs T R1 (ev_v 0)) (ev_v 2) hj) ev_int (by decide)).int ( shr31 (g.r j))) (ev_v 0) trivial fun H2 R2 c2 => ?_
  refine do_f fw_t (decide (2147483648 ≤ M.r n) != decide (2147483648 ≤ M.r j)) T.cl T.nT R2 ((ev_xor (ev_q T R2 (ev_v 0)) (ev_m T R2 (ev_v 0))).int ( xor_bits _ _)) (ev_v 0) trivial fun H3 R3 c3 => ?_
  exact do_nil (fin_nx kk R R3 (c1.trans (c2.trans c3)))
theorem sc_have_no_bit_in_common : FnScope ["machine", "n", "m", "i"] P4 (defScope (top 73)) := ⟨rfl, rfl, rfl, by decide +kernel, rfl, by decide +kernel, by decide +kernel⟩
theorem ok_have_no_bit_in_common (F : Fun K "have_no_bit_in_common" "have_no_bit_in_common" (top 73) f fd) (T : Tx K mg C) (G : Hlp P w K mg base C xs) : FnOk P w K mg base (CXE P w) 6 f fd P4 (spA C xs .have_no_bit_in_common) := by
  refine act_do F sc_have_no_bit_in_common fun cdv A outer s H Q E a m0 M n j i hr R hn hj hi hji hpc hok kk => ?_
  have g := R.good
  have R0 := R.toRepC
  have nd := sc_have_no_bit_in_common.nd
  dsimp only [effA] at kk
  refine do_f fw_t (M.r n &&& M.r j == 0) T.cl T.nT R0 ((ev_if01 (tt_eq (ev_and (ev_r (n := n) R0 (ev_regs T R0 (ev_v 0)) (ev_v 1) hn) (ev_r (n := j) R0 (ev_regs T R0 (ev_v 0)) (ev_v 2) hj)) ev_int)).eq (vb (by rw [and_nn]; exact dec_nat0 _))) (ev_v 0) trivial fun H1 R1 c1 => ?_
  exact do_nil (fin_nx kk R R1 c1)
theorem sc_bits_of_both : FnScope ["machine", "n", "m", "i"] P4 (defScope (top 74)) := ⟨rfl, rfl, rfl, by decide +kernel, rfl, by decide +kernel, by decide +kernel⟩
theorem ok_bits_of_both (F : Fun K "bits_of_both" "bits_of_both" (top 74) f fd) (T : Tx K mg C) (G : Hlp P w K mg base C xs) : FnOk P w K mg base (CXE P w) 6 f fd P4 (spA C xs .bits_of_both) := by
  refine act_do F sc_bits_of_both fun cdv A outer s H Q E a m0 M n j i hr R hn hj hi hji hpc hok kk => ?_
  have g := R.good
  have R0 := R.toRepC
  have nd := sc_bits_of_both.nd
  dsimp only [effA] at kk
  refine do_augr (n := n) (z := M.r n &&& M.r j) iop_and R0 (ev_regs T R0 (ev_v 0)) (ev_v 1) hn (ev_r (n := j) R0 (ev_regs T R0 (ev_v 0)) (ev_v 2) hj) (and_nn _ _) (and_lt' (g.r n)) fun H1 R1 c1 => ?_
  exact do_nil (fin_nx kk R R1 c1)
theorem sc_bits_of_one : FnScope ["machine", "n", "m", "i"] P4 (defScope (top 75)) := ⟨rfl, rfl, rfl, by decide +kernel, rfl, by decide +kernel, by decide +kernel⟩
theorem ok_bits_of_one (F : Fun K "bits_of_one" "bits_of_one" (top 75) f fd) (T : Tx K mg C) (G : Hlp P w K mg base C xs) : FnOk P w K mg base (CXE P w) 6 f fd P4 (spA C xs .bits_of_one) := by
  refine act_do F sc_bits_of_one fun cdv A outer s H Q E a m0 M n j i hr R hn hj hi hji hpc hok kk => ?_
  have g := R.good
  have R0 := R.toRepC
  have nd := sc_bits_of_one.nd
  dsimp only [effA] at kk
  refine do_augr (n := n) (z := M.r n ^^^ M.r j) iop_xor R0 (ev_regs T R0 (ev_v 0)) (ev_v 1) hn (ev_r (n := j) R0 (ev_regs T R0 (ev_v 0)) (ev_v 2) hj) (xor_nn _ _) (xor_lt' (g.r n) (g.r j)) fun H1 R1 c1 => ?_
  exact do_nil (fin_nx kk R R1 c1)
theorem sc_bits_of_either : FnScope ["machine", "n", "m", "i"] P4 (defScope (top 76)) := ⟨rfl, rfl, rfl, by decide +kernel, rfl, by decide +kernel, by decide +kernel⟩
theorem ok_bits_of_either (F : Fun K "bits_of_either" "bits_of_either" (top 76) f fd) (T : Tx K mg C) (G : Hlp P w K mg base C xs) : FnOk P w K mg base (CXE P w) 6 f fd P4 (spA C xs .bits_of_either) := by
  refine act_do F sc_bits_of_either fun cdv A outer s H Q E a m0 M n j i hr R hn hj hi hji hpc hok kk => ?_
  have g := R.good
  have R0 := R.toRepC
  have nd := sc_bits_of_either.nd
  dsimp only [effA] at kk
  refine do_augr (n := n) (z := M.r n ||| M.r j) iop_or R0 (ev_regs T R0 (ev_v 0)) (ev_v 1) hn (ev_r (n := j) R0 (ev_regs T R0 (ev_v 0)) (ev_v 2) hj) (or_nn _ _) (or_lt' (g.r n) (g.r j)) fun H1 R1 c1 => ?_
  exact do_nil (fin_nx kk R R1 c1)
theorem sc_join_halves : FnScope ["machine", "n", "m", "i", "regs"] P4 (defScope (top 78)) := ⟨rfl, rfl, rfl, by decide +kernel, rfl, by decide +kernel, by decide +kernel⟩
theorem ok_join_halves (F : Fun K "join_halves" "join_halves" (top 78) f fd) (T : Tx K mg C) (G : Hlp P w K mg base C xs) : FnOk P w K mg base (CXE P w) 6 f fd P4 (spA C xs .join_halves) := by
  refine act_do F sc_join_halves fun cdv A outer s H Q E a m0 M n j i hr R hn hj hi hji hpc hok kk => ?_
  have g := R.good
  have R0 := R.toRepC
  have nd := sc_join_halves.nd
  dsimp only [effA] at kk
  refine do_set 4 nd (ev_regs T R0 (ev_v 0)) ?_
  refine do_setr (n := n) (x := M.r j % 65536 * 65536 + M.r n / 65536) R0 ((ev_or (ev_shl (ev_and (ev_r (n := j) R0 (ev_v 4) (ev_v 2) hj) ev_int) ev_int (cpow_m16 _)) (ev_shr (ev_r (n := n) R0 (ev_v 4) (ev_v 1) hn) ev_int (by decide))).int (join_eq (g.r n))) (ev_v 4) (ev_v 1) hn (by have := g.r n; omega) fun H1 R1 c1 => ?_
  exact do_nil (fin_nx kk R R1 c1)
theorem sc_multiply_halves : FnScope ["machine", "n", "m", "i", "regs"] P4 (defScope (top 79)) := ⟨rfl, rfl, rfl, by decide +kernel, rfl, by decide +kernel, by decide +kernel⟩
theorem ok_multiply_halves (F : Fun K "multiply_halves" "multiply_halves" (top 79) f fd) (T : Tx K mg C) (G : Hlp P w K mg base C xs) : FnOk P w K mg base (CXE P w) 6 f fd P4 (spA C xs .multiply_halves) := by
  refine act_do F sc_multiply_halves fun cdv A outer s H Q E a m0 M n j i hr R hn hj hi hji hpc hok kk => ?_
  have g := R.good
  have R0 := R.toRepC
  have nd := sc_multiply_halves.nd
  dsimp only [effA] at kk
  refine do_set 4 nd (ev_regs T R0 (ev_v 0)) ?_
  refine do_setreg (n := 20) (x := M.r n % 65536 * (M.r j % 65536)) R0 ((ev_mul (ev_and (ev_r (n := n) R0 (ev_v 4) (ev_v 1) hn) ev_int) (ev_and (ev_r (n := j) R0 (ev_v 4) (ev_v 2) hj) ev_int) (.inl (by rw [mask16]; exact ⟨by omega, by omega⟩))).int (by rw [mask16, mask16]; simp)) (ev_v 4) (ev_num T.MACL) (by decide) (by decide) (halves_lt _ _) fun H1 R1 c1 => ?_
  exact do_nil (fin_nx kk R R1 c1)
theorem sc_multiply_signed_halves : FnScope ["machine", "n", "m", "i", "regs"] P4 (defScope (top 80)) := ⟨rfl, rfl, rfl, by decide +kernel, rfl, by decide +kernel, by decide +kernel⟩
theorem ok_multiply_signed_halves (F : Fun K "multiply_signed_halves" "multiply_signed_halves" (top 80) f fd) (T : Tx K mg C) (G : Hlp P w K mg base C xs) : FnOk P w K mg base (CXE P w) 6 f fd P4 (spA C xs .multiply_signed_halves) := by
  refine act_do F sc_multiply_signed_halves fun cdv A outer s H Q E a m0 M n j i hr R hn hj hi hji hpc hok kk => ?_
  have g := R.good
  have R0 := R.toRepC
  have nd := sc_multiply_signed_halves.nd
  dsimp only [effA] at kk
  refine do_set 4 nd (ev_regs T R0 (ev_v 0)) ?_
  refine do_setreg (n := 20) (x := Ra28.wrap (Ra28.signed 16 (M.r n) * Ra28.signed 16 (M.r j))) R0 ((ev_and (ev_mul (ev_signed (n := 16) G.sg (hr.mono (by decide)) passE (ev_r (n := n) R0 (ev_v 4) (ev_v 1) hn) ev_int (by decide) (by decide)) (ev_signed (n := 16) G.sg (hr.mono (by decide)) passE (ev_r (n := j) R0 (ev_v 4) (ev_v 2) hj) ev_int (by decide) (by decide)) (.inl (by rw [sg_nat]; exact s16_bd _))) (ev_num T.MASK)).int (by rw [sg_nat, sg_nat]; exact wrap_eq _)) (ev_v 4) (ev_num T.MACL) (by decide) (by decide) (wrap_lt _) fun H1 R1 c1 => ?_
  exact do_nil (fin_nx kk R R1 c1)
end
end Sh
namespace Sh
open PySem PyProof.Rows L2
section
variable {P : Program} {w : World} {K : PySem.W.Frag} {mg : Str → Option Value} {base : Heap} {f C : Addr} {xs : Xs} {fd : FuncData}
theorem sc_is_same : FnScope ["machine", "n", "m", "i"] P4 (defScope (top 84)) := ⟨rfl, rfl, rfl, by decide +kernel, rfl, by decide +kernel, by decide +kernel⟩
theorem ok_is_same (F : Fun K "is_same" "is_same" (top 84) f fd) (T : Tx K mg C) (G : Hlp P w K mg base C xs) : FnOk P w K mg base (CXE P w) 6 f fd P4 (spA C xs .is_same) := by
  refine act_do F sc_is_same fun cdv A outer s H Q E a m0 M n j i hr R hn hj hi hji hpc hok kk => ?_
  have g := R.good
  have R0 := R.toRepC
  have nd := sc_is_same.nd
  dsimp only [effA] at kk
  refine do_f fw_t (M.r n == M.r j) T.cl T.nT R0 ((ev_if01 (tt_eq (ev_r (n := n) R0 (ev_regs T R0 (ev_v 0)) (ev_v 1) hn) (ev_r (n := j) R0 (ev_regs T R0 (ev_v 0)) (ev_v 2) hj))).eq (vb (dec_nat _ _))) (ev_v 0) trivial fun H1 R1 c1 => ?_
  exact do_nil (fin_nx kk R R1 c1)
theorem sc_is_at_least : FnScope ["machine", "n", "m", "i"] P4 (defScope (top 85)) := ⟨rfl, rfl, rfl, by decide +kernel, rfl, by decide +kernel, by decide +kernel⟩
theorem ok_is_at_least (F : Fun K "is_at_least" "is_at_least" (top 85) f fd) (T : Tx K mg C) (G : Hlp P w K mg base C xs) : FnOk P w K mg base (CXE P w) 6 f fd P4 (spA C xs .is_at_least) := by
  refine act_do F sc_is_at_least fun cdv A outer s H Q E a m0 M n j i hr R hn hj hi hji hpc hok kk => ?_
  have g := R.good
  have R0 := R.toRepC
  have nd := sc_is_at_least.nd
  dsimp only [effA] at kk
  refine do_f fw_t (decide (M.r j ≤ M.r n)) T.cl T.nT R0 ((ev_if01 (tt_ge (ev_r (n := n) R0 (ev_regs T R0 (ev_v 0)) (ev_v 1) hn) (ev_r (n := j) R0 (ev_regs T R0 (ev_v 0)) (ev_v 2) hj))).eq (vb (dec_le _ _))) (ev_v 0) trivial fun H1 R1 c1 => ?_
  exact do_nil (fin_nx kk R R1 c1)
theorem sc_is_above : FnScope ["machine", "n", "m", "i"] P4 (defScope (top 86)) := ⟨rfl, rfl, rfl, by decide +kernel, rfl, by decide +kernel, by decide +kernel⟩
theorem ok_is_above (F : Fun K "is_above" "is_above" (top 86) f fd) (T : Tx K mg C) (G : Hlp P w K mg base C xs) : FnOk P w K mg base (CXE P w) 6 f fd P4 (spA C xs .is_above) := by
  refine act_do F sc_is_above fun cdv A outer s H Q E a m0 M n j i hr R hn hj hi hji hpc hok kk => ?_
  have g := R.good
  have R0 := R.toRepC
  have nd := sc_is_above.nd
  dsimp only [effA] at kk
  refine do_f fw_t (decide (M.r j < M.r n)) T.cl T.nT R0 ((ev_if01 (tt_gt (ev_r (n := n) R0 (ev_regs T R0 (ev_v 0)) (ev_v 1) hn) (ev_r (n := j) R0 (ev_regs T R0 (ev_v 0)) (ev_v 2) hj))).eq (vb (dec_lt _ _))) (ev_v 0) trivial fun H1 R1 c1 => ?_
  exact do_nil (fin_nx kk R R1 c1)
theorem sc_is_at_least_signed : FnScope ["machine", "n", "m", "i"] P4 (defScope (top 87)) := ⟨rfl, rfl, rfl, by decide +kernel, rfl, by decide +kernel, by decide +kernel⟩
theorem ok_is_at_least_signed (F : Fun K "is_at_least_signed" "is_at_least_signed" (top 87) f fd) (T : Tx K mg C) (G : Hlp P w K mg base C xs) : FnOk P w K mg base (CXE P w) 6 f fd P4 (spA C xs .is_at_least_signed) := by
  refine act_do F sc_is_at_least_signed fun cdv A outer s H Q E a m0 M n j i hr R hn hj hi hji hpc hok kk => ?_
  have g := R.good
  have R0 := R.toRepC
  have nd := sc_is_at_least_signed.nd
  dsimp only [effA] at kk
  refine do_f fw_t (decide (Ra28.signed 32 (M.r j) ≤ Ra28.signed 32 (M.r n))) T.cl T.nT R0 ((ev_if01 (tt_ge (ev_signed (n := 32) G.sg (hr.mono (by decide)) passE (ev_r (n := n) R0 (ev_regs T R0 (ev_v 0)) (ev_v 1) hn) ev_int (by decide) (by decide)) (ev_signed (n := 32) G.sg (hr.mono (by decide)) passE (ev_r (n := j) R0 (ev_regs T R0 (ev_v 0)) (ev_v 2) hj) ev_int (by decide) (by decide)))).eq (vb (by rw [sg32, sg32]))) (ev_v 0) trivial fun H1 R1 c1 => ?_
  exact do_nil (fin_nx kk R R1 c1)
theorem sc_is_above_signed : FnScope ["machine", "n", "m", "i"] P4 (defScope (top 88)) := ⟨rfl, rfl, rfl, by decide +kernel, rfl, by decide +kernel, by decide +kernel⟩
theorem ok_is_above_signed (F : Fun K "is_above_signed" "is_above_signed" (top 88) f fd) (T : Tx K mg C) (G : Hlp P w K mg base C xs) : FnOk P w K mg base (CXE P w) 6 f fd P4 (spA C xs .is_above_signed) := by
  refine act_do F sc_is_above_signed fun cdv A outer s H Q E a m0 M n j i hr R hn hj hi hji hpc hok kk => ?_
  have g := R.good
  have R0 := R.toRepC
  have nd := sc_is_above_signed.nd
  dsimp only [effA] at kk
  refine do_f fw_t (decide (Ra28.signed 32 (M.r j) < Ra28.signed 32 (M.r n))) T.cl T.nT R0 ((ev_if01 (tt_gt (ev_signed (n := 32) G.sg (hr.mono (by decide)) passE (ev_r (n := n) R0 (ev_regs T R0 (ev_v 0)) (ev_v 1) hn) ev_int (by decide) (by decide)) (ev_signed (n := 32) G.sg (hr.mono (by decide)) passE (ev_r (n := j) R0 (ev_regs T R0 (ev_v 0)) (ev_v 2) hj) ev_int (by decide) (by decide)))).eq (vb (by rw [sg32, sg32]))) (ev_v 0) trivial fun H1 R1 c1 => ?_
  exact do_nil (fin_nx kk R R1 c1)
theorem sc_subtract : FnScope ["machine", "n", "m", "i", "regs"] P4 (defScope (top 89)) := ⟨rfl, rfl, rfl, by decide +kernel, rfl, by decide +kernel, by decide +kernel⟩
theorem ok_subtract (F : Fun K "subtract" "subtract" (top 89) f fd) (T : Tx K mg C) (G : Hlp P w K mg base C xs) : FnOk P w K mg base (CXE P w) 6 f fd P4 (spA C xs .subtract) := by
  refine act_do F sc_subtract fun cdv A outer s H Q E a m0 M n j i hr R hn hj hi hji hpc hok kk => ?_
  have g := R.good
  have R0 := R.toRepC
  have nd := sc_subtract.nd
  dsimp only [effA] at kk
  refine do_set 4 nd (ev_regs T R0 (ev_v 0)) ?_
  refine do_setr (n := n) (x := Ra28.minus (M.r n) (M.r j)) R0 ((ev_and (ev_sub (ev_r (n := n) R0 (ev_v 4) (ev_v 1) hn) (ev_r (n := j) R0 (ev_v 4) (ev_v 2) hj)) (ev_num T.MASK)).int (minus_eq (g.r j))) (ev_v 4) (ev_v 1) hn (minus_lt _ _) fun H1 R1 c1 => ?_
  exact do_nil (fin_nx kk R R1 c1)
theorem sc_add : FnScope ["machine", "n", "m", "i", "regs"] P4 (defScope (top 90)) := ⟨rfl, rfl, rfl, by decide +kernel, rfl, by decide +kernel, by decide +kernel⟩
theorem ok_add (F : Fun K "add" "add" (top 90) f fd) (T : Tx K mg C) (G : Hlp P w K mg base C xs) : FnOk P w K mg base (CXE P w) 6 f fd P4 (spA C xs .add) := by
  refine act_do F sc_add fun cdv A outer s H Q E a m0 M n j i hr R hn hj hi hji hpc hok kk => ?_
  have g := R.good
  have R0 := R.toRepC
  have nd := sc_add.nd
  dsimp only [effA] at kk
  refine do_set 4 nd (ev_regs T R0 (ev_v 0)) ?_
  refine do_setr (n := n) (x := Ra28.plus (M.r n) (M.r j)) R0 ((ev_and (ev_add (ev_r (n := n) R0 (ev_v 4) (ev_v 1) hn) (ev_r (n := j) R0 (ev_v 4) (ev_v 2) hj)) (ev_num T.MASK)).int (plus_eq _ _)) (ev_v 4) (ev_v 1) hn (plus_lt _ _) fun H1 R1 c1 => ?_
  exact do_nil (fin_nx kk R R1 c1)
theorem sc_subtract_with_t : FnScope ["machine", "n", "m", "i", "regs", "value"] P4 (defScope (top 91)) := ⟨rfl, rfl, rfl, by decide +kernel, rfl, by decide +kernel, by decide +kernel⟩
theorem ok_subtract_with_t (F : Fun K "subtract_with_t" "subtract_with_t" (top 91) f fd) (T : Tx K mg C) (G : Hlp P w K mg base C xs) : FnOk P w K mg base (CXE P w) 6 f fd P4 (spA C xs .subtract_with_t) := by
  refine act_do F sc_subtract_with_t fun cdv A outer s H Q E a m0 M n j i hr R hn hj hi hji hpc hok kk => ?_
  have g := R.good
  have R0 := R.toRepC
  have nd := sc_subtract_with_t.nd
  dsimp only [effA] at kk
  refine do_set 4 nd (ev_regs T R0 (ev_v 0)) ?_
  refine do_set 5 nd (ev_sub (ev_sub (ev_r (n := n) R0 (ev_v 4) (ev_v 1) hn) (ev_r (n := j) R0 (ev_v 4) (ev_v 2) hj)) (ev_t T R0 (ev_v 0))) ?_
  refine do_setr (n := n) (x := (M.r n + 8589934592 - M.r j - Ra28.bit M.t) % 4294967296) R0 ((ev_and (ev_v 5) (ev_num T.MASK)).int (subc_eq (g.r j) _)) (ev_v 4) (ev_v 1) hn (Nat.mod_lt _ (by decide)) fun H1 R1 c1 => ?_
  refine do_f fw_t (decide (M.r n < M.r j + Ra28.bit M.t)) T.cl T.nT R1 ((ev_if01 (tt_lt (ev_v 5) ev_int)).eq (vb (subc_t _ _ _))) (ev_v 0) trivial fun H2 R2 c2 => ?_
  exact do_nil (fin_nx kk R R2 (c1.trans c2))
theorem sc_add_with_t : FnScope ["machine", "n", "m", "i", "regs", "value"] P4 (defScope (top 92)) := ⟨rfl, rfl, rfl, by decide +kernel, rfl, by decide +kernel, by decide +kernel⟩
theorem ok_add_with_t (F : Fun K "add_with_t" "add_with_t" (top 92) f fd) (T : Tx K mg C) (G : Hlp P w K mg base C xs) : FnOk P w K mg base (CXE P w) 6 f fd P4 (spA C xs .add_with_t) := by
  refine act_do F sc_add_with_t fun cdv A outer s H Q E a m0 M n j i hr R hn hj hi hji hpc hok kk => ?_
  have g := R.good
  have R0 := R.toRepC
  have nd := sc_add_with_t.nd
  dsimp only [effA] at kk
  refine do_set 4 nd (ev_regs T R0 (ev_v 0)) ?_
  refine do_set 5 nd (ev_add (ev_add (ev_r (n := n) R0 (ev_v 4) (ev_v 1) hn) (ev_r (n := j) R0 (ev_v 4) (ev_v 2) hj)) (ev_t T R0 (ev_v 0))) ?_
  refine do_setr (n := n) (x := (M.r n + M.r j + Ra28.bit M.t) % 4294967296) R0 ((ev_and (ev_v 5) (ev_num T.MASK)).int (addc_eq _ _ _)) (ev_v 4) (ev_v 1) hn (Nat.mod_lt _ (by decide)) fun H1 R1 c1 => ?_
  refine do_f fw_t (decide (4294967296 ≤ M.r n + M.r j + Ra28.bit M.t)) T.cl T.nT R1 ((ev_shr (ev_v 5) ev_int (by decide)).int ( addc_t (g.r n) (g.r j) _)) (ev_v 0) trivial fun H2 R2 c2 => ?_
  exact do_nil (fin_nx kk R R2 (c1.trans c2))
theorem sc_subtract_signed : FnScope ["machine", "n", "m", "i"] P4 (defScope (top 94)) := ⟨rfl, rfl, rfl, by decide +kernel, rfl, by decide +kernel, by decide +kernel⟩
theorem ok_subtract_signed (F : Fun K "subtract_signed" "subtract_signed" (top 94) f fd) (T : Tx K mg C) (G : Hlp P w K mg base C xs) : FnOk P w K mg base (CXE P w) 6 f fd P4 (spA C xs .subtract_signed) := by
  refine act_do F sc_subtract_signed fun cdv A outer s H Q E a m0 M n j i hr R hn hj hi hji hpc hok kk => ?_
  have g := R.good
  have R0 := R.toRepC
  have nd := sc_subtract_signed.nd
  dsimp only [effA] at kk
  refine do_call G.ks (hr.mono (by decide)) passE (ea_cons (ev_v 0) (ea_cons (ev_v 1) (ea_cons (ev_sub ((ev_signed (n := 32) G.sg (hr.mono (by decide)) passE (ev_r (n := n) R0 (ev_regs T R0 (ev_v 0)) (ev_v 1) hn) ev_int (by decide) (by decide)).int (sg32 _)) ((ev_signed (n := 32) G.sg (hr.mono (by decide)) passE (ev_r (n := j) R0 (ev_regs T R0 (ev_v 0)) (ev_v 2) hj) ev_int (by decide) (by decide)).int (sg32 _))) ea_nil))) ⟨a, M, 0, n, _, rfl, hn, R0, fun H1 R1 c1 => ?_⟩
  exact do_nil (fin_nx kk R (by rw [wrap_sub (g.r n) (g.r j), fits_sub (g.r n) (g.r j)] at R1; exact R1) c1)
theorem sc_add_signed : FnScope ["machine", "n", "m", "i"] P4 (defScope (top 95)) := ⟨rfl, rfl, rfl, by decide +kernel, rfl, by decide +kernel, by decide +kernel⟩
theorem ok_add_signed (F : Fun K "add_signed" "add_signed" (top 95) f fd) (T : Tx K mg C) (G : Hlp P w K mg base C xs) : FnOk P w K mg base (CXE P w) 6 f fd P4 (spA C xs .add_signed) := by
  refine act_do F sc_add_signed fun cdv A outer s H Q E a m0 M n j i hr R hn hj hi hji hpc hok kk => ?_
  have g := R.good
  have R0 := R.toRepC
  have nd := sc_add_signed.nd
  dsimp only [effA] at kk
  refine do_call G.ks (hr.mono (by decide)) passE (ea_cons (ev_v 0) (ea_cons (ev_v 1) (ea_cons (ev_add ((ev_signed (n := 32) G.sg (hr.mono (by decide)) passE (ev_r (n := n) R0 (ev_regs T R0 (ev_v 0)) (ev_v 1) hn) ev_int (by decide) (by decide)).int (sg32 _)) ((ev_signed (n := 32) G.sg (hr.mono (by decide)) passE (ev_r (n := j) R0 (ev_regs T R0 (ev_v 0)) (ev_v 2) hj) ev_int (by decide) (by decide)).int (sg32 _))) ea_nil))) ⟨a, M, 0, n, _, rfl, hn, R0, fun H1 R1 c1 => ?_⟩
  exact do_nil (fin_nx kk R (by rw [wrap_add (g.r n) (g.r j), fits_add (g.r n) (g.r j)] at R1; exact R1) c1)
theorem sc_multiply_whole : FnScope ["machine", "n", "m", "i"] P4 (defScope (top 97)) := ⟨rfl, rfl, rfl, by decide +kernel, rfl, by decide +kernel, by decide +kernel⟩
theorem ok_multiply_whole (F : Fun K "multiply_whole" "multiply_whole" (top 97) f fd) (T : Tx K mg C) (G : Hlp P w K mg base C xs) : FnOk P w K mg base (CXE P w) 6 f fd P4 (spA C xs .multiply_whole) := by
  refine act_do F sc_multiply_whole fun cdv A outer s H Q E a m0 M n j i hr R hn hj hi hji hpc hok kk => ?_
  have g := R.good
  have R0 := R.toRepC
  have nd := sc_multiply_whole.nd
  dsimp only [effA] at kk
  refine do_call G.kp (hr.mono (by decide)) passE (ea_cons (ev_v 0) (ea_cons (ev_mul (ev_r (n := n) R0 (ev_regs T R0 (ev_v 0)) (ev_v 1) hn) (ev_r (n := j) R0 (ev_regs T R0 (ev_v 0)) (ev_v 2) hj) (.inl ⟨by omega, by have := g.r n; omega⟩)) ea_nil)) ⟨a, M, 0, _, rfl, R0, fun H1 R1 c1 => ?_⟩
  exact do_nil (fin_nx kk R (by rw [wrap64_mul (g.r n) (g.r j)] at R1; exact R1) c1)
theorem sc_multiply_whole_signed : FnScope ["machine", "n", "m", "i"] P4 (defScope (top 98)) := ⟨rfl, rfl, rfl, by decide +kernel, rfl, by decide +kernel, by decide +kernel⟩
theorem ok_multiply_whole_signed (F : Fun K "multiply_whole_signed" "multiply_whole_signed" (top 98) f fd) (T : Tx K mg C) (G : Hlp P w K mg base C xs) : FnOk P w K mg base (CXE P w) 6 f fd P4 (spA C xs .multiply_whole_signed) := by
  refine act_do F sc_multiply_whole_signed fun cdv A outer s H Q E a m0 M n j i hr R hn hj hi hji hpc hok kk => ?_
  have g := R.good
  have R0 := R.toRepC
  have nd := sc_multiply_whole_signed.nd
  dsimp only [effA] at kk
  refine do_call G.kp (hr.mono (by decide)) passE (ea_cons (ev_v 0) (ea_cons (ev_mul ((ev_signed (n := 32) G.sg (hr.mono (by decide)) passE (ev_r (n := n) R0 (ev_regs T R0 (ev_v 0)) (ev_v 1) hn) ev_int (by decide) (by decide)).int (sg32 _)) ((ev_signed (n := 32) G.sg (hr.mono (by decide)) passE (ev_r (n := j) R0 (ev_regs T R0 (ev_v 0)) (ev_v 2) hj) ev_int (by decide) (by decide)).int (sg32 _)) (.inl (s32_bd (g.r n)))) ea_nil)) ⟨a, M, 0, _, rfl, R0, fun H1 R1 c1 => ?_⟩
  exact do_nil (fin_nx kk R R1 c1)
end
end Sh
namespace Sh
open PySem PyProof.Rows L2
section
variable {P : Program} {w : World} {K : PySem.W.Frag} {mg : Str → Option Value} {base : Heap} {f C : Addr} {xs : Xs} {fd : FuncData}
theorem sc_double : FnScope ["machine", "n", "m", "i", "regs"] P4 (defScope (top 104)) := ⟨rfl, rfl, rfl, by decide +kernel, rfl, by decide +kernel, by decide +kernel⟩
theorem ok_double (F : Fun K "double" "double" (top 104) f fd) (T : Tx K mg C) (G : Hlp P w K mg base C xs) : FnOk P w K mg base (CXE P w) 6 f fd P4 (spA C xs .double) := by
  refine act_do F sc_double fun cdv A outer s H Q E a m0 M n j i hr R hn hj hi hji hpc hok kk => ?_
  have g := R.good
  have R0 := R.toRepC
  have nd := sc_double.nd
  dsimp only [effA] at kk
  refine do_set 4 nd (ev_regs T R0 (ev_v 0)) ?_
  refine do_f fw_t (decide (2147483648 ≤ M.r n)) T.cl T.nT R0 ((ev_shr (ev_r (n := n) R0 (ev_v 4) (ev_v 1) hn) ev_int (by decide)).int ( shr31 (g.r n))) (ev_v 0) trivial fun H1 R1 c1 => ?_
  refine do_setr (n := n) (x := 2 * M.r n % 4294967296) R1 ((ev_and (ev_shl (ev_r (n := n) R1 (ev_v 4) (ev_v 1) hn) ev_int (cpow (by have := g.r n; show M.r n < _; omega) (by decide) (by decide))) (ev_num T.MASK)).int (dbl_eq _)) (ev_v 4) (ev_v 1) hn (Nat.mod_lt _ (by decide)) fun H2 R2 c2 => ?_
  exact do_nil (fin_nx kk R R2 (c1.trans c2))
theorem sc_halve : FnScope ["machine", "n", "m", "i", "regs"] P4 (defScope (top 105)) := ⟨rfl, rfl, rfl, by decide +kernel, rfl, by decide +kernel, by decide +kernel⟩
theorem ok_halve (F : Fun K "halve" "halve" (top 105) f fd) (T : Tx K mg C) (G : Hlp P w K mg base C xs) : FnOk P w K mg base (CXE P w) 6 f fd P4 (spA C xs .halve) := by
  refine act_do F sc_halve fun cdv A outer s H Q E a m0 M n j i hr R hn hj hi hji hpc hok kk => ?_
  have g := R.good
  have R0 := R.toRepC
  have nd := sc_halve.nd
  dsimp only [effA] at kk
  refine do_set 4 nd (ev_regs T R0 (ev_v 0)) ?_
  refine do_f fw_t (M.r n % 2 == 1) T.cl T.nT R0 ((ev_and (ev_r (n := n) R0 (ev_v 4) (ev_v 1) hn) ev_int).int ( low1 _)) (ev_v 0) trivial fun H1 R1 c1 => ?_
  refine do_setr (n := n) (x := M.r n / 2) R1 ((ev_shr (ev_r (n := n) R1 (ev_v 4) (ev_v 1) hn) ev_int (by decide)).int (half_eq _)) (ev_v 4) (ev_v 1) hn (by have := g.r n; show M.r n / 2 < _; omega) fun H2 R2 c2 => ?_
  exact do_nil (fin_nx kk R R2 (c1.trans c2))
theorem sc_halve_signed : FnScope ["machine", "n", "m", "i", "regs"] P4 (defScope (top 106)) := ⟨rfl, rfl, rfl, by decide +kernel, rfl, by decide +kernel, by decide +kernel⟩
theorem ok_halve_signed (F : Fun K "halve_signed" "halve_signed" (top 106) f fd) (T : Tx K mg C) (G : Hlp P w K mg base C xs) : FnOk P w K mg base (CXE P w) 6 f fd P4 (spA C xs .halve_signed) := by
  refine act_do F sc_halve_signed fun cdv A outer s H Q E a m0 M n j i hr R hn hj hi hji hpc hok kk => ?_
  have g := R.good
  have R0 := R.toRepC
  have nd := sc_halve_signed.nd
  dsimp only [effA] at kk
  refine do_set 4 nd (ev_regs T R0 (ev_v 0)) ?_
  refine do_f fw_t (M.r n % 2 == 1) T.cl T.nT R0 ((ev_and (ev_r (n := n) R0 (ev_v 4) (ev_v 1) hn) ev_int).int ( low1 _)) (ev_v 0) trivial fun H1 R1 c1 => ?_
  refine do_setr (n := n) (x := M.r n / 2 + (if decide (2147483648 ≤ M.r n) = true then 2147483648 else 0)) R1 ((ev_and (ev_shr (ev_signed (n := 32) G.sg (hr.mono (by decide)) passE (ev_r (n := n) R1 (ev_v 4) (ev_v 1) hn) ev_int (by decide) (by decide)) ev_int (by decide)) (ev_num T.MASK)).int (halfs_eq (g.r n))) (ev_v 4) (ev_v 1) hn (by have := g.r n; split <;> omega) fun H2 R2 c2 => ?_
  exact do_nil (fin_nx kk R R2 (c1.trans c2))
theorem sc_turn_left : FnScope ["machine", "n", "m", "i", "regs"] P4 (defScope (top 107)) := ⟨rfl, rfl, rfl, by decide +kernel, rfl, by decide +kernel, by decide +kernel⟩
theorem ok_turn_left (F : Fun K "turn_left" "turn_left" (top 107) f fd) (T : Tx K mg C) (G : Hlp P w K mg base C xs) : FnOk P w K mg base (CXE P w) 6 f fd P4 (spA C xs .turn_left) := by
  refine act_do F sc_turn_left fun cdv A outer s H Q E a m0 M n j i hr R hn hj hi hji hpc hok kk => ?_
  have g := R.good
  have R0 := R.toRepC
  have nd := sc_turn_left.nd
  dsimp only [effA] at kk
  refine do_set 4 nd (ev_regs T R0 (ev_v 0)) ?_
  refine do_f fw_t (decide (2147483648 ≤ M.r n)) T.cl T.nT R0 ((ev_shr (ev_r (n := n) R0 (ev_v 4) (ev_v 1) hn) ev_int (by decide)).int ( shr31 (g.r n))) (ev_v 0) trivial fun H1 R1 c1 => ?_
  refine do_setr (n := n) (x := 2 * M.r n % 4294967296 + Ra28.bit (decide (2147483648 ≤ M.r n))) R1 ((ev_or (ev_and (ev_shl (ev_r (n := n) R1 (ev_v 4) (ev_v 1) hn) ev_int (cpow (by have := g.r n; show M.r n < _; omega) (by decide) (by decide))) (ev_num T.MASK)) (ev_t T R1 (ev_v 0))).int (rol_eq (g.r n) _)) (ev_v 4) (ev_v 1) hn (rol_lt _ _) fun H2 R2 c2 => ?_
  exact do_nil (fin_nx kk R R2 (c1.trans c2))
theorem sc_turn_right : FnScope ["machine", "n", "m", "i", "regs"] P4 (defScope (top 108)) := ⟨rfl, rfl, rfl, by decide +kernel, rfl, by decide +kernel, by decide +kernel⟩
theorem ok_turn_right (F : Fun K "turn_right" "turn_right" (top 108) f fd) (T : Tx K mg C) (G : Hlp P w K mg base C xs) : FnOk P w K mg base (CXE P w) 6 f fd P4 (spA C xs .turn_right) := by
  refine act_do F sc_turn_right fun cdv A outer s H Q E a m0 M n j i hr R hn hj hi hji hpc hok kk => ?_
  have g := R.good
  have R0 := R.toRepC
  have nd := sc_turn_right.nd
  dsimp only [effA] at kk
  refine do_set 4 nd (ev_regs T R0 (ev_v 0)) ?_
  refine do_f fw_t (M.r n % 2 == 1) T.cl T.nT R0 ((ev_and (ev_r (n := n) R0 (ev_v 4) (ev_v 1) hn) ev_int).int ( low1 _)) (ev_v 0) trivial fun H1 R1 c1 => ?_
  refine do_setr (n := n) (x := M.r n / 2 + Ra28.bit (M.r n % 2 == 1) * 2147483648) R1 ((ev_or (ev_shr (ev_r (n := n) R1 (ev_v 4) (ev_v 1) hn) ev_int (by decide)) (ev_shl (ev_t T R1 (ev_v 0)) ev_int (cpow (by have := bit_lt (M.r n % 2 == 1); show Ra28.bit (M.r n % 2 == 1) < _; omega) (by decide) (by decide)))).int (ror_eq (g.r n) _)) (ev_v 4) (ev_v 1) hn (ror_lt (g.r n) _) fun H2 R2 c2 => ?_
  exact do_nil (fin_nx kk R R2 (c1.trans c2))
theorem sc_turn_left_through_t : FnScope ["machine", "n", "m", "i", "regs", "value"] P4 (defScope (top 109)) := ⟨rfl, rfl, rfl, by decide +kernel, rfl, by decide +kernel, by decide +kernel⟩
theorem ok_turn_left_through_t (F : Fun K "turn_left_through_t" "turn_left_through_t" (top 109) f fd) (T : Tx K mg C) (G : Hlp P w K mg base C xs) : FnOk P w K mg base (CXE P w) 6 f fd P4 (spA C xs .turn_left_through_t) := by
  refine act_do F sc_turn_left_through_t fun cdv A outer s H Q E a m0 M n j i hr R hn hj hi hji hpc hok kk => ?_
  have g := R.good
  have R0 := R.toRepC
  have nd := sc_turn_left_through_t.nd
  dsimp only [effA] at kk
  refine do_set 4 nd (ev_regs T R0 (ev_v 0)) ?_
  refine do_set 5 nd (ev_or (ev_shl (ev_r (n := n) R0 (ev_v 4) (ev_v 1) hn) ev_int (cpow (by have := g.r n; omega) (by decide) (by decide))) (ev_t T R0 (ev_v 0))) ?_
  refine do_setr (n := n) (x := 2 * M.r n % 4294967296 + Ra28.bit M.t) R0 ((ev_and (ev_v 5) (ev_num T.MASK)).int (rcl_eq _ _)) (ev_v 4) (ev_v 1) hn (rol_lt _ _) fun H1 R1 c1 => ?_
  refine do_f fw_t (decide (2147483648 ≤ M.r n)) T.cl T.nT R1 ((ev_shr (ev_v 5) ev_int (by decide)).int ( rcl_t (g.r n) _)) (ev_v 0) trivial fun H2 R2 c2 => ?_
  exact do_nil (fin_nx kk R R2 (c1.trans c2))
theorem sc_turn_right_through_t : FnScope ["machine", "n", "m", "i", "regs", "value"] P4 (defScope (top 110)) := ⟨rfl, rfl, rfl, by decide +kernel, rfl, by decide +kernel, by decide +kernel⟩
theorem ok_turn_right_through_t (F : Fun K "turn_right_through_t" "turn_right_through_t" (top 110) f fd) (T : Tx K mg C) (G : Hlp P w K mg base C xs) : FnOk P w K mg base (CXE P w) 6 f fd P4 (spA C xs .turn_right_through_t) := by
  refine act_do F sc_turn_right_through_t fun cdv A outer s H Q E a m0 M n j i hr R hn hj hi hji hpc hok kk => ?_
  have g := R.good
  have R0 := R.toRepC
  have nd := sc_turn_right_through_t.nd
  dsimp only [effA] at kk
  refine do_set 4 nd (ev_regs T R0 (ev_v 0)) ?_
  refine do_set 5 nd (ev_or (ev_shl (ev_t T R0 (ev_v 0)) ev_int (cpow (by have := bit_lt M.t; omega) (by decide) (by decide))) (ev_r (n := n) R0 (ev_v 4) (ev_v 1) hn)) ?_
  refine do_setr (n := n) (x := M.r n / 2 + Ra28.bit M.t * 2147483648) R0 ((ev_shr (ev_v 5) ev_int (by decide)).int (rcr_eq (g.r n) _)) (ev_v 4) (ev_v 1) hn (ror_lt (g.r n) _) fun H1 R1 c1 => ?_
  refine do_f fw_t (M.r n % 2 == 1) T.cl T.nT R1 ((ev_and (ev_v 5) ev_int).int ( rcr_t (g.r n) _)) (ev_v 0) trivial fun H2 R2 c2 => ?_
  exact do_nil (fin_nx kk R R2 (c1.trans c2))
theorem sc_count_down : FnScope ["machine", "n", "m", "i", "regs"] P4 (defScope (top 113)) := ⟨rfl, rfl, rfl, by decide +kernel, rfl, by decide +kernel, by decide +kernel⟩
theorem ok_count_down (F : Fun K "count_down" "count_down" (top 113) f fd) (T : Tx K mg C) (G : Hlp P w K mg base C xs) : FnOk P w K mg base (CXE P w) 6 f fd P4 (spA C xs .count_down) := by
  refine act_do F sc_count_down fun cdv A outer s H Q E a m0 M n j i hr R hn hj hi hji hpc hok kk => ?_
  have g := R.good
  have R0 := R.toRepC
  have nd := sc_count_down.nd
  dsimp only [effA] at kk
  refine do_set 4 nd (ev_regs T R0 (ev_v 0)) ?_
  refine do_setr (n := n) (x := Ra28.minus (M.r n) 1) R0 ((ev_and (ev_sub (ev_r (n := n) R0 (ev_v 4) (ev_v 1) hn) ev_int) (ev_num T.MASK)).int (down_eq)) (ev_v 4) (ev_v 1) hn (minus_lt _ _) fun H1 R1 c1 => ?_
  refine do_f fw_t (M.r n == 1) T.cl T.nT R1 ((ev_if01 (tt_eq (ev_r (n := n) R1 (ev_v 4) (ev_v 1) hn) ev_int)).eq (vb (down0 (g.r n)))) (ev_v 0) trivial fun H2 R2 c2 => ?_
  exact do_nil (fin_nx kk R R2 (c1.trans c2))
theorem sc_is_at_least_zero : FnScope ["machine", "n", "m", "i"] P4 (defScope (top 114)) := ⟨rfl, rfl, rfl, by decide +kernel, rfl, by decide +kernel, by decide +kernel⟩
theorem ok_is_at_least_zero (F : Fun K "is_at_least_zero" "is_at_least_zero" (top 114) f fd) (T : Tx K mg C) (G : Hlp P w K mg base C xs) : FnOk P w K mg base (CXE P w) 6 f fd P4 (spA C xs .is_at_least_zero) := by
  refine act_do F sc_is_at_least_zero fun cdv A outer s H Q E a m0 M n j i hr R hn hj hi hji hpc hok kk => ?_
  have g := R.good
  have R0 := R.toRepC
  have nd := sc_is_at_least_zero.nd
  dsimp only [effA] at kk
  refine do_f fw_t (!decide (2147483648 ≤ M.r n)) T.cl T.nT R0 ((ev_if01 (tt_ge (ev_signed (n := 32) G.sg (hr.mono (by decide)) passE (ev_r (n := n) R0 (ev_regs T R0 (ev_v 0)) (ev_v 1) hn) ev_int (by decide) (by decide)) ev_int)).eq (vb (sge0 (g.r n)))) (ev_v 0) trivial fun H1 R1 c1 => ?_
  exact do_nil (fin_nx kk R R1 c1)
theorem sc_is_above_zero : FnScope ["machine", "n", "m", "i"] P4 (defScope (top 115)) := ⟨rfl, rfl, rfl, by decide +kernel, rfl, by decide +kernel, by decide +kernel⟩
theorem ok_is_above_zero (F : Fun K "is_above_zero" "is_above_zero" (top 115) f fd) (T : Tx K mg C) (G : Hlp P w K mg base C xs) : FnOk P w K mg base (CXE P w) 6 f fd P4 (spA C xs .is_above_zero) := by
  refine act_do F sc_is_above_zero fun cdv A outer s H Q E a m0 M n j i hr R hn hj hi hji hpc hok kk => ?_
  have g := R.good
  have R0 := R.toRepC
  have nd := sc_is_above_zero.nd
  dsimp only [effA] at kk
  refine do_f fw_t (!decide (2147483648 ≤ M.r n) && M.r n != 0) T.cl T.nT R0 ((ev_if01 (tt_gt (ev_signed (n := 32) G.sg (hr.mono (by decide)) passE (ev_r (n := n) R0 (ev_regs T R0 (ev_v 0)) (ev_v 1) hn) ev_int (by decide) (by decide)) ev_int)).eq (vb (sgt0 (g.r n)))) (ev_v 0) trivial fun H1 R1 c1 => ?_
  exact do_nil (fin_nx kk R R1 c1)
theorem sc_store_which : FnScope ["machine", "n", "m", "i", "place"] P4 (defScope (top 117)) := ⟨rfl, rfl, rfl, by decide +kernel, rfl, by decide +kernel, by decide +kernel⟩
theorem ok_store_which (F : Fun K "store_which" "store_which" (top 117) f fd) (T : Tx K mg C) (G : Hlp P w K mg base C xs) : FnOk P w K mg base (CXE P w) 6 f fd P4 (spA C xs .store_which) := by
  refine act_do F sc_store_which fun cdv A outer s H Q E a m0 M n j i hr R hn hj hi hji hpc hok kk => ?_
  have g := R.good
  have R0 := R.toRepC
  have nd := sc_store_which.nd
  dsimp only [effA] at kk
  have lp := minus_lt (M.r n) 4
  have ep : Builtin.bitAnd ((M.r n : Int) - 4) 4294967295 = ((Ra28.minus (M.r n) 4 : Nat) : Int) := minus_eq (y := 4) (by decide)
  generalize Ra28.minus (M.r n) 4 = p at kk lp ep
  refine do_set 4 nd ((ev_and (ev_sub (ev_r (n := n) R0 (ev_regs T R0 (ev_v 0)) (ev_v 1) hn) ev_int) (ev_num T.MASK)).int (ep)) ?_
  refine do_store (pt := p) (n := 4) (x := rdV M (whichOf j i)) T.cl G.sto (hr.mono (by decide)) passE R (ev_v 0) (ev_v 4) ev_int (ev_read T.cl G.rd (hr.mono (by decide)) passE R0 (ev_v 0) (ev_which G.wo (hr.mono (by decide)) passE (ev_v 2) (ev_v 3)) (which_le hji hok)) (.inr (.inr rfl)) (rdV_lt g _) (ldQ_store kk fun kk => fun H1 R1 c1 => ?_)
  refine do_setr (n := n) (x := p) R1.toRepC (ev_v 4) (ev_regs T R1.toRepC (ev_v 0)) (ev_v 1) hn lp fun H2 R2 c2 => ?_
  exact do_nil (fin_st kk (R1.chg R2 c2 rfl) (c1.trans c2.fra))
theorem sc_load_which : FnScope ["machine", "n", "m", "i", "place"] P4 (defScope (top 118)) := ⟨rfl, rfl, rfl, by decide +kernel, rfl, by decide +kernel, by decide +kernel⟩
theorem ok_load_which (F : Fun K "load_which" "load_which" (top 118) f fd) (T : Tx K mg C) (G : Hlp P w K mg base C xs) : FnOk P w K mg base (CXE P w) 6 f fd P4 (spA C xs .load_which) := by
  refine act_do F sc_load_which fun cdv A outer s H Q E a m0 M n j i hr R hn hj hi hji hpc hok kk => ?_
  have g := R.good
  have R0 := R.toRepC
  have nd := sc_load_which.nd
  dsimp only [effA] at kk
  refine do_set 4 nd (ev_r (n := n) R0 (ev_regs T R0 (ev_v 0)) (ev_v 1) hn) ?_
  refine do_expr (pe_mm (a := a) T.cl G.wr (hr.mono (by decide)) passE (pv 0) (pa_cons (pe_c G.wo (hr.mono (by decide)) passE (pa_cons (pv 2) (pa_cons (pv 3) pa_nil))) (pa_cons (pe_mm (a := a) T.cl G.ld (hr.mono (by decide)) passE (pv 0) (pa_cons (pv 4) (pa_cons pe_int pa_nil))) pa_nil))) ?_
  refine ⟨_, rfl, M, 0, rfl, R0, _, rfl, _, rfl, j, i, rfl, _, rfl, M, 0, rfl, R0, _, rfl, a, m0, M, 0, M.r n, 4, rfl, R, .inr (.inr rfl), ldQ_load kk fun kk => ?_⟩
  refine ⟨a, M, 0, whichOf j i, Ra28.get M (M.r n) 4, rfl, R0, which_le hji hok, get_lt g _, fun H1 R1 c1 => ?_⟩
  refine do_setr (n := n) (x := Ra28.plus (M.r n) 4) R1 ((ev_and (ev_add (ev_v 4) ev_int) (ev_num T.MASK)).int (plus_eq _ 4)) (ev_regs T R1 (ev_v 0)) (ev_v 1) hn (plus_lt _ _) fun H2 R2 c2 => ?_
  exact do_nil (fin_nx kk R (by rw [← wrV_set (which_ge j i)]; exact R2) (c1.trans c2) (wrV_mem _ _ _))
theorem sc_take_which : FnScope ["machine", "n", "m", "i"] P4 (defScope (top 119)) := ⟨rfl, rfl, rfl, by decide +kernel, rfl, by decide +kernel, by decide +kernel⟩
theorem ok_take_which (F : Fun K "take_which" "take_which" (top 119) f fd) (T : Tx K mg C) (G : Hlp P w K mg base C xs) : FnOk P w K mg base (CXE P w) 6 f fd P4 (spA C xs .take_which) := by
  refine act_do F sc_take_which fun cdv A outer s H Q E a m0 M n j i hr R hn hj hi hji hpc hok kk => ?_
  have g := R.good
  have R0 := R.toRepC
  have nd := sc_take_which.nd
  dsimp only [effA] at kk
  refine do_meth T.cl G.wr (hr.mono (by decide)) passE R0 (ev_v 0) (ea_cons (ev_which G.wo (hr.mono (by decide)) passE (ev_v 2) (ev_v 3)) (ea_cons (ev_r (n := n) R0 (ev_regs T R0 (ev_v 0)) (ev_v 1) hn) ea_nil)) ⟨a, M, 0, _, _, rfl, R0, which_le hji hok, g.r n, fun H1 R1 c1 => ?_⟩
  exact do_nil (fin_nx kk R R1 c1 (wrV_mem _ _ _))
theorem sc_claim_byte : FnScope ["machine", "n", "m", "i", "place", "value"] P4 (defScope (top 120)) := ⟨rfl, rfl, rfl, by decide +kernel, rfl, by decide +kernel, by decide +kernel⟩
theorem ok_claim_byte (F : Fun K "claim_byte" "claim_byte" (top 120) f fd) (T : Tx K mg C) (G : Hlp P w K mg base C xs) : FnOk P w K mg base (CXE P w) 6 f fd P4 (spA C xs .claim_byte) := by
  refine act_do F sc_claim_byte fun cdv A outer s H Q E a m0 M n j i hr R hn hj hi hji hpc hok kk => ?_
  have g := R.good
  have R0 := R.toRepC
  have nd := sc_claim_byte.nd
  dsimp only [effA] at kk
  refine do_set 4 nd (ev_r (n := n) R0 (ev_regs T R0 (ev_v 0)) (ev_v 1) hn) ?_
  refine do_loadl 5 nd (pt := M.r n) (n := 1) T.cl G.ld (hr.mono (by decide)) passE R (ev_v 0) (ev_v 4) ev_int (.inl rfl) (ldQ_load' kk fun h1 h2 kk => ?_)
  refine do_store (pt := M.r n) (n := 1) (x := Ra28.widened 8 (Ra28.get M (M.r n) 1) ||| 128) T.cl G.sto (hr.mono (by decide)) passE R (ev_v 0) (ev_v 4) ev_int ((ev_or (ev_v 5) ev_int).int (or_nn _ 128)) (.inl rfl) (or_lt' (widened_lt _ _) (by decide)) (ldQ_ok h1 h2 fun H1 R1 c1 => ?_)
  rw [low_or (get1_lt g _) (by decide)] at R1
  refine do_f fw_t (Ra28.get M (M.r n) 1 == 0) T.cl T.nT R1.toRepC ((ev_if01 (tt_eq (ev_v 5) ev_int)).eq (vb ((dec_nat0 _).trans (wid0 (get1_lt g _))))) (ev_v 0) trivial fun H2 R2 c2 => ?_
  exact do_nil (fin_st kk (R1.chg R2 c2 rfl) (c1.trans c2.fra))
end
end Sh
namespace Sh
open PySem PyProof.Rows L2
section
variable {P : Program} {w : World} {K : PySem.W.Frag} {mg : Str → Option Value} {base : Heap} {f C : Addr} {xs : Xs} {fd : FuncData}
theorem sc_load_at : FnScope ["machine", "n", "m", "i", "regs"] P4 (defScope (top 124)) := ⟨rfl, rfl, rfl, by decide +kernel, rfl, by decide +kernel, by decide +kernel⟩
theorem ok_load_at (F : Fun K "load_at" "load_at" (top 124) f fd) (T : Tx K mg C) (G : Hlp P w K mg base C xs) : FnOk P w K mg base (CXE P w) 6 f fd P4 (spA C xs .load_at) := by
  refine act_do F sc_load_at fun cdv A outer s H Q E a m0 M n j i hr R hn hj hi hji hpc hok kk => ?_
  have g := R.good
  have R0 := R.toRepC
  have nd := sc_load_at.nd
  dsimp only [effA] at kk
  refine do_set 4 nd (ev_regs T R0 (ev_v 0)) ?_
  refine do_loadr (pt := M.r j) (n := 2 ^ (i % 4)) (r := n) T.cl G.ld (hr.mono (by decide)) passE R (ev_v 0) (ev_r (n := j) R0 (ev_v 4) (ev_v 2) hj) (ev_size (ev_v 3)) (size_ok hok) (ev_v 4) (ev_v 1) hn (ldQ_load kk fun kk => fun H1 R1 c1 => ?_)
  exact do_nil (fin_nx kk R R1 c1)
theorem sc_load_and_pass : FnScope ["machine", "n", "m", "i", "regs", "size", "value"] P4 (defScope (top 125)) := ⟨rfl, rfl, rfl, by decide +kernel, rfl, by decide +kernel, by decide +kernel⟩
theorem ok_load_and_pass (F : Fun K "load_and_pass" "load_and_pass" (top 125) f fd) (T : Tx K mg C) (G : Hlp P w K mg base C xs) : FnOk P w K mg base (CXE P w) 6 f fd P4 (spA C xs .load_and_pass) := by
  refine act_do F sc_load_and_pass fun cdv A outer s H Q E a m0 M n j i hr R hn hj hi hji hpc hok kk => ?_
  have g := R.good
  have R0 := R.toRepC
  have nd := sc_load_and_pass.nd
  dsimp only [effA] at kk
  refine do_set 4 nd (ev_regs T R0 (ev_v 0)) ?_
  refine do_set 5 nd (ev_size (ev_v 3)) ?_
  refine do_loadl 6 nd (pt := M.r j) (n := 2 ^ (i % 4)) T.cl G.ld (hr.mono (by decide)) passE R (ev_v 0) (ev_r (n := j) R0 (ev_v 4) (ev_v 2) hj) (ev_v 5) (size_ok hok) (ldQ_load kk fun kk => ?_)
  refine do_setr (n := j) (x := Ra28.plus (M.r j) (2 ^ (i % 4))) R0 ((ev_and (ev_add (ev_r (n := j) R0 (ev_v 4) (ev_v 2) hj) (ev_v 5)) (ev_num T.MASK)).int (plus_eq _ _)) (ev_v 4) (ev_v 2) hj (plus_lt _ _) fun H1 R1 c1 => ?_
  refine do_setr (n := n) (x := wide (2 ^ (i % 4)) (Ra28.get M (M.r j) (2 ^ (i % 4)))) R1 (ev_v 6) (ev_v 4) (ev_v 1) hn (wide_lt g (size_ok hok)) fun H2 R2 c2 => ?_
  exact do_nil (fin_nx kk R R2 (c1.trans c2))
theorem sc_move : FnScope ["machine", "n", "m", "i"] P4 (defScope (top 126)) := ⟨rfl, rfl, rfl, by decide +kernel, rfl, by decide +kernel, by decide +kernel⟩
theorem ok_move (F : Fun K "move" "move" (top 126) f fd) (T : Tx K mg C) (G : Hlp P w K mg base C xs) : FnOk P w K mg base (CXE P w) 6 f fd P4 (spA C xs .move) := by
  refine act_do F sc_move fun cdv A outer s H Q E a m0 M n j i hr R hn hj hi hji hpc hok kk => ?_
  have g := R.good
  have R0 := R.toRepC
  have nd := sc_move.nd
  dsimp only [effA] at kk
  refine do_setr (n := n) (x := M.r j) R0 ((ev_r (n := j) R0 (ev_regs T R0 (ev_v 0)) (ev_v 2) hj).int (rfl)) (ev_regs T R0 (ev_v 0)) (ev_v 1) hn (g.r j) fun H1 R1 c1 => ?_
  exact do_nil (fin_nx kk R R1 c1)
theorem sc_turn_bits : FnScope ["machine", "n", "m", "i"] P4 (defScope (top 127)) := ⟨rfl, rfl, rfl, by decide +kernel, rfl, by decide +kernel, by decide +kernel⟩
theorem ok_turn_bits (F : Fun K "turn_bits" "turn_bits" (top 127) f fd) (T : Tx K mg C) (G : Hlp P w K mg base C xs) : FnOk P w K mg base (CXE P w) 6 f fd P4 (spA C xs .turn_bits) := by
  refine act_do F sc_turn_bits fun cdv A outer s H Q E a m0 M n j i hr R hn hj hi hji hpc hok kk => ?_
  have g := R.good
  have R0 := R.toRepC
  have nd := sc_turn_bits.nd
  dsimp only [effA] at kk
  refine do_setr (n := n) (x := 4294967295 - M.r j) R0 ((ev_xor (ev_r (n := j) R0 (ev_regs T R0 (ev_v 0)) (ev_v 2) hj) (ev_num T.MASK)).int (not_eq (g.r j))) (ev_regs T R0 (ev_v 0)) (ev_v 1) hn (by omega) fun H1 R1 c1 => ?_
  exact do_nil (fin_nx kk R R1 c1)
theorem sc_exchange_bytes : FnScope ["machine", "n", "m", "i", "value"] P4 (defScope (top 128)) := ⟨rfl, rfl, rfl, by decide +kernel, rfl, by decide +kernel, by decide +kernel⟩
theorem ok_exchange_bytes (F : Fun K "exchange_bytes" "exchange_bytes" (top 128) f fd) (T : Tx K mg C) (G : Hlp P w K mg base C xs) : FnOk P w K mg base (CXE P w) 6 f fd P4 (spA C xs .exchange_bytes) := by
  refine act_do F sc_exchange_bytes fun cdv A outer s H Q E a m0 M n j i hr R hn hj hi hji hpc hok kk => ?_
  have g := R.good
  have R0 := R.toRepC
  have nd := sc_exchange_bytes.nd
  dsimp only [effA] at kk
  refine do_set 4 nd (ev_r (n := j) R0 (ev_regs T R0 (ev_v 0)) (ev_v 2) hj) ?_
  refine do_setr (n := n) (x := M.r j / 65536 * 65536 + M.r j % 256 * 256 + M.r j / 256 % 256) R0 ((ev_or (ev_or (ev_and (ev_v 4) ev_int) (ev_shl (ev_and (ev_v 4) ev_int) ev_int (cpow_m8 _))) (ev_and (ev_shr (ev_v 4) ev_int (by decide)) ev_int)).int (swap_eq (g.r j))) (ev_regs T R0 (ev_v 0)) (ev_v 1) hn (by have := g.r j; omega) fun H1 R1 c1 => ?_
  exact do_nil (fin_nx kk R R1 c1)
theorem sc_exchange_halves : FnScope ["machine", "n", "m", "i", "value"] P4 (defScope (top 129)) := ⟨rfl, rfl, rfl, by decide +kernel, rfl, by decide +kernel, by decide +kernel⟩
theorem ok_exchange_halves (F : Fun K "exchange_halves" "exchange_halves" (top 129) f fd) (T : Tx K mg C) (G : Hlp P w K mg base C xs) : FnOk P w K mg base (CXE P w) 6 f fd P4 (spA C xs .exchange_halves) := by
  refine act_do F sc_exchange_halves fun cdv A outer s H Q E a m0 M n j i hr R hn hj hi hji hpc hok kk => ?_
  have g := R.good
  have R0 := R.toRepC
  have nd := sc_exchange_halves.nd
  dsimp only [effA] at kk
  refine do_set 4 nd (ev_r (n := j) R0 (ev_regs T R0 (ev_v 0)) (ev_v 2) hj) ?_
  refine do_setr (n := n) (x := M.r j % 65536 * 65536 + M.r j / 65536) R0 ((ev_or (ev_shl (ev_and (ev_v 4) ev_int) ev_int (cpow_m16 _)) (ev_shr (ev_v 4) ev_int (by decide))).int (exch_eq (g.r j))) (ev_regs T R0 (ev_v 0)) (ev_v 1) hn (by have := g.r j; omega) fun H1 R1 c1 => ?_
  exact do_nil (fin_nx kk R R1 c1)
theorem sc_negate : FnScope ["machine", "n", "m", "i"] P4 (defScope (top 130)) := ⟨rfl, rfl, rfl, by decide +kernel, rfl, by decide +kernel, by decide +kernel⟩
theorem ok_negate (F : Fun K "negate" "negate" (top 130) f fd) (T : Tx K mg C) (G : Hlp P w K mg base C xs) : FnOk P w K mg base (CXE P w) 6 f fd P4 (spA C xs .negate) := by
  refine act_do F sc_negate fun cdv A outer s H Q E a m0 M n j i hr R hn hj hi hji hpc hok kk => ?_
  have g := R.good
  have R0 := R.toRepC
  have nd := sc_negate.nd
  dsimp only [effA] at kk
  refine do_setr (n := n) (x := Ra28.minus 0 (M.r j)) R0 ((ev_and (ev_neg (ev_r (n := j) R0 (ev_regs T R0 (ev_v 0)) (ev_v 2) hj)) (ev_num T.MASK)).int (neg_eq (g.r j))) (ev_regs T R0 (ev_v 0)) (ev_v 1) hn (minus_lt _ _) fun H1 R1 c1 => ?_
  exact do_nil (fin_nx kk R R1 c1)
theorem sc_negate_with_t : FnScope ["machine", "n", "m", "i", "value"] P4 (defScope (top 131)) := ⟨rfl, rfl, rfl, by decide +kernel, rfl, by decide +kernel, by decide +kernel⟩
theorem ok_negate_with_t (F : Fun K "negate_with_t" "negate_with_t" (top 131) f fd) (T : Tx K mg C) (G : Hlp P w K mg base C xs) : FnOk P w K mg base (CXE P w) 6 f fd P4 (spA C xs .negate_with_t) := by
  refine act_do F sc_negate_with_t fun cdv A outer s H Q E a m0 M n j i hr R hn hj hi hji hpc hok kk => ?_
  have g := R.good
  have R0 := R.toRepC
  have nd := sc_negate_with_t.nd
  dsimp only [effA] at kk
  refine do_set 4 nd (ev_sub (ev_neg (ev_r (n := j) R0 (ev_regs T R0 (ev_v 0)) (ev_v 2) hj)) (ev_t T R0 (ev_v 0))) ?_
  refine do_setr (n := n) (x := (8589934592 - M.r j - Ra28.bit M.t) % 4294967296) R0 ((ev_and (ev_v 4) (ev_num T.MASK)).int (negc_eq (g.r j) _)) (ev_regs T R0 (ev_v 0)) (ev_v 1) hn (Nat.mod_lt _ (by decide)) fun H1 R1 c1 => ?_
  refine do_f fw_t (decide (0 < M.r j + Ra28.bit M.t)) T.cl T.nT R1 ((ev_if01 (tt_lt (ev_v 4) ev_int)).eq (vb (negc_t _ _))) (ev_v 0) trivial fun H2 R2 c2 => ?_
  exact do_nil (fin_nx kk R R2 (c1.trans c2))
theorem sc_lowest_byte : FnScope ["machine", "n", "m", "i"] P4 (defScope (top 132)) := ⟨rfl, rfl, rfl, by decide +kernel, rfl, by decide +kernel, by decide +kernel⟩
theorem ok_lowest_byte (F : Fun K "lowest_byte" "lowest_byte" (top 132) f fd) (T : Tx K mg C) (G : Hlp P w K mg base C xs) : FnOk P w K mg base (CXE P w) 6 f fd P4 (spA C xs .lowest_byte) := by
  refine act_do F sc_lowest_byte fun cdv A outer s H Q E a m0 M n j i hr R hn hj hi hji hpc hok kk => ?_
  have g := R.good
  have R0 := R.toRepC
  have nd := sc_lowest_byte.nd
  dsimp only [effA] at kk
  refine do_setr (n := n) (x := M.r j % 256) R0 ((ev_and (ev_r (n := j) R0 (ev_regs T R0 (ev_v 0)) (ev_v 2) hj) ev_int).int (mask8 _)) (ev_regs T R0 (ev_v 0)) (ev_v 1) hn (by omega) fun H1 R1 c1 => ?_
  exact do_nil (fin_nx kk R R1 c1)
theorem sc_lower_half : FnScope ["machine", "n", "m", "i"] P4 (defScope (top 133)) := ⟨rfl, rfl, rfl, by decide +kernel, rfl, by decide +kernel, by decide +kernel⟩
theorem ok_lower_half (F : Fun K "lower_half" "lower_half" (top 133) f fd) (T : Tx K mg C) (G : Hlp P w K mg base C xs) : FnOk P w K mg base (CXE P w) 6 f fd P4 (spA C xs .lower_half) := by
  refine act_do F sc_lower_half fun cdv A outer s H Q E a m0 M n j i hr R hn hj hi hji hpc hok kk => ?_
  have g := R.good
  have R0 := R.toRepC
  have nd := sc_lower_half.nd
  dsimp only [effA] at kk
  refine do_setr (n := n) (x := M.r j % 65536) R0 ((ev_and (ev_r (n := j) R0 (ev_regs T R0 (ev_v 0)) (ev_v 2) hj) ev_int).int (mask16 _)) (ev_regs T R0 (ev_v 0)) (ev_v 1) hn (by omega) fun H1 R1 c1 => ?_
  exact do_nil (fin_nx kk R R1 c1)
theorem sc_lowest_byte_signed : FnScope ["machine", "n", "m", "i"] P4 (defScope (top 134)) := ⟨rfl, rfl, rfl, by decide +kernel, rfl, by decide +kernel, by decide +kernel⟩
theorem ok_lowest_byte_signed (F : Fun K "lowest_byte_signed" "lowest_byte_signed" (top 134) f fd) (T : Tx K mg C) (G : Hlp P w K mg base C xs) : FnOk P w K mg base (CXE P w) 6 f fd P4 (spA C xs .lowest_byte_signed) := by
  refine act_do F sc_lowest_byte_signed fun cdv A outer s H Q E a m0 M n j i hr R hn hj hi hji hpc hok kk => ?_
  have g := R.good
  have R0 := R.toRepC
  have nd := sc_lowest_byte_signed.nd
  dsimp only [effA] at kk
  refine do_setr (n := n) (x := Ra28.widened 8 (M.r j)) R0 ((ev_and (ev_signed (n := 8) G.sg (hr.mono (by decide)) passE (ev_r (n := j) R0 (ev_regs T R0 (ev_v 0)) (ev_v 2) hj) ev_int (by decide) (by decide)) (ev_num T.MASK)).int (signed_wrap 8 _)) (ev_regs T R0 (ev_v 0)) (ev_v 1) hn (widened_lt _ _) fun H1 R1 c1 => ?_
  exact do_nil (fin_nx kk R R1 c1)
theorem sc_lower_half_signed : FnScope ["machine", "n", "m", "i"] P4 (defScope (top 135)) := ⟨rfl, rfl, rfl, by decide +kernel, rfl, by decide +kernel, by decide +kernel⟩
theorem ok_lower_half_signed (F : Fun K "lower_half_signed" "lower_half_signed" (top 135) f fd) (T : Tx K mg C) (G : Hlp P w K mg base C xs) : FnOk P w K mg base (CXE P w) 6 f fd P4 (spA C xs .lower_half_signed) := by
  refine act_do F sc_lower_half_signed fun cdv A outer s H Q E a m0 M n j i hr R hn hj hi hji hpc hok kk => ?_
  have g := R.good
  have R0 := R.toRepC
  have nd := sc_lower_half_signed.nd
  dsimp only [effA] at kk
  refine do_setr (n := n) (x := Ra28.widened 16 (M.r j)) R0 ((ev_and (ev_signed (n := 16) G.sg (hr.mono (by decide)) passE (ev_r (n := j) R0 (ev_regs T R0 (ev_v 0)) (ev_v 2) hj) ev_int (by decide) (by decide)) (ev_num T.MASK)).int (signed_wrap 16 _)) (ev_regs T R0 (ev_v 0)) (ev_v 1) hn (widened_lt _ _) fun H1 R1 c1 => ?_
  exact do_nil (fin_nx kk R R1 c1)
theorem sc_store_near : FnScope ["machine", "n", "m", "i", "size"] P4 (defScope (top 140)) := ⟨rfl, rfl, rfl, by decide +kernel, rfl, by decide +kernel, by decide +kernel⟩
theorem ok_store_near (F : Fun K "store_near" "store_near" (top 140) f fd) (T : Tx K mg C) (G : Hlp P w K mg base C xs) : FnOk P w K mg base (CXE P w) 6 f fd P4 (spA C xs .store_near) := by
  refine act_do F sc_store_near fun cdv A outer s H Q E a m0 M n j i hr R hn hj hi hji hpc hok kk => ?_
  have g := R.good
  have R0 := R.toRepC
  have nd := sc_store_near.nd
  dsimp only [effA] at kk
  have hok' : n % 4 < 3 := by have : n % 4 < 2 := hok; omega
  refine do_set 4 nd (ev_size (ev_v 1)) ?_
  refine do_store (pt := Ra28.plus (M.r j) (2 ^ (n % 4) * (i % 16))) (n := 2 ^ (n % 4)) (x := M.r 0) T.cl G.sto (hr.mono (by decide)) passE R (ev_v 0) (ev_near G.pn (hr.mono (by decide)) passE R0 (ev_v 0) (ev_v 2) (ev_v 3) (ev_v 4) hj (size_le hok')) (ev_v 4) (ev_r (n := 0) R0 (ev_regs T R0 (ev_v 0)) ev_int (by decide)) (size_ok hok') (g.r 0) (ldQ_store kk fun kk => fun H1 R1 c1 => ?_)
  exact do_nil (fin_st kk R1 c1)
theorem sc_load_near : FnScope ["machine", "n", "m", "i", "size"] P4 (defScope (top 141)) := ⟨rfl, rfl, rfl, by decide +kernel, rfl, by decide +kernel, by decide +kernel⟩
theorem ok_load_near (F : Fun K "load_near" "load_near" (top 141) f fd) (T : Tx K mg C) (G : Hlp P w K mg base C xs) : FnOk P w K mg base (CXE P w) 6 f fd P4 (spA C xs .load_near) := by
  refine act_do F sc_load_near fun cdv A outer s H Q E a m0 M n j i hr R hn hj hi hji hpc hok kk => ?_
  have g := R.good
  have R0 := R.toRepC
  have nd := sc_load_near.nd
  dsimp only [effA] at kk
  have hok' : n % 4 < 3 := by have : n % 4 < 2 := hok; omega
  refine do_set 4 nd (ev_size (ev_v 1)) ?_
  refine do_loadr (pt := Ra28.plus (M.r j) (2 ^ (n % 4) * (i % 16))) (n := 2 ^ (n % 4)) (r := 0) T.cl G.ld (hr.mono (by decide)) passE R (ev_v 0) (ev_near G.pn (hr.mono (by decide)) passE R0 (ev_v 0) (ev_v 2) (ev_v 3) (ev_v 4) hj (size_le hok')) (ev_v 4) (size_ok hok') (ev_regs T R0 (ev_v 0)) ev_int (by decide) (ldQ_load kk fun kk => fun H1 R1 c1 => ?_)
  exact do_nil (fin_nx kk R R1 c1)
theorem sc_is_number : FnScope ["machine", "n", "m", "i"] P4 (defScope (top 142)) := ⟨rfl, rfl, rfl, by decide +kernel, rfl, by decide +kernel, by decide +kernel⟩
theorem ok_is_number (F : Fun K "is_number" "is_number" (top 142) f fd) (T : Tx K mg C) (G : Hlp P w K mg base C xs) : FnOk P w K mg base (CXE P w) 6 f fd P4 (spA C xs .is_number) := by
  refine act_do F sc_is_number fun cdv A outer s H Q E a m0 M n j i hr R hn hj hi hji hpc hok kk => ?_
  have g := R.good
  have R0 := R.toRepC
  have nd := sc_is_number.nd
  dsimp only [effA] at kk
  refine do_f fw_t (M.r 0 == Ra28.widened 8 i) T.cl T.nT R0 ((ev_if01 (tt_eq (ev_r (n := 0) R0 (ev_regs T R0 (ev_v 0)) ev_int (by decide)) (ev_and (ev_signed (n := 8) G.sg (hr.mono (by decide)) passE (ev_v 3) ev_int (by decide) (by decide)) (ev_num T.MASK)))).eq (vb (by rw [signed_wrap]; exact dec_nat _ _))) (ev_v 0) trivial fun H1 R1 c1 => ?_
  exact do_nil (fin_nx kk R R1 c1)
theorem sc_store_by_base : FnScope ["machine", "n", "m", "i", "size"] P4 (defScope (top 147)) := ⟨rfl, rfl, rfl, by decide +kernel, rfl, by decide +kernel, by decide +kernel⟩
theorem ok_store_by_base (F : Fun K "store_by_base" "store_by_base" (top 147) f fd) (T : Tx K mg C) (G : Hlp P w K mg base C xs) : FnOk P w K mg base (CXE P w) 6 f fd P4 (spA C xs .store_by_base) := by
  refine act_do F sc_store_by_base fun cdv A outer s H Q E a m0 M n j i hr R hn hj hi hji hpc hok kk => ?_
  have g := R.good
  have R0 := R.toRepC
  have nd := sc_store_by_base.nd
  dsimp only [effA] at kk
  refine do_set 4 nd (ev_size (ev_v 1)) ?_
  refine do_store (pt := Ra28.plus M.gbr (2 ^ (n % 4) * i)) (n := 2 ^ (n % 4)) (x := M.r 0) T.cl G.sto (hr.mono (by decide)) passE R (ev_v 0) (ev_pbase G.pb (hr.mono (by decide)) passE R0 (ev_v 0) (ev_v 3) (ev_v 4) (size_le hok)) (ev_v 4) (ev_r (n := 0) R0 (ev_regs T R0 (ev_v 0)) ev_int (by decide)) (size_ok hok) (g.r 0) (ldQ_store kk fun kk => fun H1 R1 c1 => ?_)
  exact do_nil (fin_st kk R1 c1)
theorem sc_load_by_base : FnScope ["machine", "n", "m", "i", "size"] P4 (defScope (top 148)) := ⟨rfl, rfl, rfl, by decide +kernel, rfl, by decide +kernel, by decide +kernel⟩
theorem ok_load_by_base (F : Fun K "load_by_base" "load_by_base" (top 148) f fd) (T : Tx K mg C) (G : Hlp P w K mg base C xs) : FnOk P w K mg base (CXE P w) 6 f fd P4 (spA C xs .load_by_base) := by
  refine act_do F sc_load_by_base fun cdv A outer s H Q E a m0 M n j i hr R hn hj hi hji hpc hok kk => ?_
  have g := R.good
  have R0 := R.toRepC
  have nd := sc_load_by_base.nd
  dsimp only [effA] at kk
  refine do_set 4 nd (ev_size (ev_v 1)) ?_
  refine do_loadr (pt := Ra28.plus M.gbr (2 ^ (n % 4) * i)) (n := 2 ^ (n % 4)) (r := 0) T.cl G.ld (hr.mono (by decide)) passE R (ev_v 0) (ev_pbase G.pb (hr.mono (by decide)) passE R0 (ev_v 0) (ev_v 3) (ev_v 4) (size_le hok)) (ev_v 4) (size_ok hok) (ev_regs T R0 (ev_v 0)) ev_int (by decide) (ldQ_load kk fun kk => fun H1 R1 c1 => ?_)
  exact do_nil (fin_nx kk R R1 c1)
theorem sc_has_no_bit_of : FnScope ["machine", "n", "m", "i"] P4 (defScope (top 150)) := ⟨rfl, rfl, rfl, by decide +kernel, rfl, by decide +kernel, by decide +kernel⟩
theorem ok_has_no_bit_of (F : Fun K "has_no_bit_of" "has_no_bit_of" (top 150) f fd) (T : Tx K mg C) (G : Hlp P w K mg base C xs) : FnOk P w K mg base (CXE P w) 6 f fd P4 (spA C xs .has_no_bit_of) := by
  refine act_do F sc_has_no_bit_of fun cdv A outer s H Q E a m0 M n j i hr R hn hj hi hji hpc hok kk => ?_
  have g := R.good
  have R0 := R.toRepC
  have nd := sc_has_no_bit_of.nd
  dsimp only [effA] at kk
  refine do_f fw_t (M.r 0 &&& i == 0) T.cl T.nT R0 ((ev_if01 (tt_eq (ev_and (ev_r (n := 0) R0 (ev_regs T R0 (ev_v 0)) ev_int (by decide)) (ev_v 3)) ev_int)).eq (vb (by rw [and_nn]; exact dec_nat0 _))) (ev_v 0) trivial fun H1 R1 c1 => ?_
  exact do_nil (fin_nx kk R R1 c1)
theorem sc_combine : FnScope ["machine", "n", "m", "i"] P4 (defScope (top 151)) := ⟨rfl, rfl, rfl, by decide +kernel, rfl, by decide +kernel, by decide +kernel⟩
theorem ok_combine (F : Fun K "combine" "combine" (top 151) f fd) (T : Tx K mg C) (G : Hlp P w K mg base C xs) : FnOk P w K mg base (CXE P w) 6 f fd P4 (spA C xs .combine) := by
  refine act_do F sc_combine fun cdv A outer s H Q E a m0 M n j i hr R hn hj hi hji hpc hok kk => ?_
  have g := R.good
  have R0 := R.toRepC
  have nd := sc_combine.nd
  dsimp only [effA] at kk
  refine do_setr (n := 0) (x := combE n (M.r 0) i) R0 ((ev_comb G.cb (hr.mono (by decide)) passE (ev_v 1) (ev_r (n := 0) R0 (ev_regs T R0 (ev_v 0)) ev_int (by decide)) (ev_v 3)).int (rfl)) (ev_regs T R0 (ev_v 0)) ev_int (by decide) (comb_lt (g.r 0) hi) fun H1 R1 c1 => ?_
  exact do_nil (fin_nx kk R R1 c1)
theorem sc_byte_has_no_bit_of : FnScope ["machine", "n", "m", "i"] P4 (defScope (top 153)) := ⟨rfl, rfl, rfl, by decide +kernel, rfl, by decide +kernel, by decide +kernel⟩
theorem ok_byte_has_no_bit_of (F : Fun K "byte_has_no_bit_of" "byte_has_no_bit_of" (top 153) f fd) (T : Tx K mg C) (G : Hlp P w K mg base C xs) : FnOk P w K mg base (CXE P w) 6 f fd P4 (spA C xs .byte_has_no_bit_of) := by
  refine act_do F sc_byte_has_no_bit_of fun cdv A outer s H Q E a m0 M n j i hr R hn hj hi hji hpc hok kk => ?_
  have g := R.good
  have R0 := R.toRepC
  have nd := sc_byte_has_no_bit_of.nd
  dsimp only [effA] at kk
  refine do_cons (ps_mf (a := a) fw_t T.cl T.nT (pv 0) (pe_if01 (pt_cmpR op_eq (pe_op op_and (pe_mm (a := a) T.cl G.ld (hr.mono (by decide)) passE (pv 0) (pa_cons (pe_c G.bp (hr.mono (by decide)) passE (pa_cons (pv 0) pa_nil)) (pa_cons pe_int pa_nil))) (pv 3)) pe_int (nomark _)))) ?_
  refine ⟨_, rfl, M, 0, rfl, R0, _, rfl, a, M, 0, rfl, R0, a, m0, M, 0, Ra28.plus (M.r 0) M.gbr, 1, rfl, R, .inl rfl, ldQ_load kk fun kk => ?_⟩
  refine ⟨_, rfl, _, _, rfl, rfl, rfl, _, rfl, _, rfl, M, 0, Ra28.get M (Ra28.plus (M.r 0) M.gbr) 1 &&& i == 0, rfl, vb ?_, trivial, R0, fun H1 R1 c1 => do_nil (fin_nx kk R R1 c1)⟩
  show decide (V.int (Builtin.bitAnd ((Ra28.widened 8 (Ra28.get M (Ra28.plus (M.r 0) M.gbr) 1) : Nat) : Int) (i : Int)) = V.int 0) = _
  rw [and_nn, dec_nat0, wid_and (get1_lt g _) hi]
theorem sc_combine_byte : FnScope ["machine", "n", "m", "i", "place"] P4 (defScope (top 154)) := ⟨rfl, rfl, rfl, by decide +kernel, rfl, by decide +kernel, by decide +kernel⟩
theorem ok_combine_byte (F : Fun K "combine_byte" "combine_byte" (top 154) f fd) (T : Tx K mg C) (G : Hlp P w K mg base C xs) : FnOk P w K mg base (CXE P w) 6 f fd P4 (spA C xs .combine_byte) := by
  refine act_do F sc_combine_byte fun cdv A outer s H Q E a m0 M n j i hr R hn hj hi hji hpc hok kk => ?_
  have g := R.good
  have R0 := R.toRepC
  have nd := sc_combine_byte.nd
  dsimp only [effA] at kk
  refine do_set 4 nd (ev_byte G.bp (hr.mono (by decide)) passE R0 (ev_v 0)) ?_
  refine do_expr (pe_mm (a := a) T.cl G.sto (hr.mono (by decide)) passE (pv 0) (pa_cons (pv 4) (pa_cons pe_int (pa_cons (pe_c G.cb (hr.mono (by decide)) passE (pa_cons (pv 1) (pa_cons (pe_mm (a := a) T.cl G.ld (hr.mono (by decide)) passE (pv 0) (pa_cons (pv 4) (pa_cons pe_int pa_nil))) (pa_cons (pv 3) pa_nil)))) pa_nil)))) ?_
  refine ⟨_, rfl, M, 0, rfl, R0, _, rfl, _, rfl, _, rfl, M, 0, rfl, R0, _, rfl, a, m0, M, 0, Ra28.plus (M.r 0) M.gbr, 1, rfl, R, .inl rfl, ldQ_load' kk fun h1 h2 kk => ?_⟩
  refine ⟨_, rfl, n, _, i, rfl, ?_⟩
  refine ⟨a, m0, M, 0, Ra28.plus (M.r 0) M.gbr, 1, combE n (Ra28.widened 8 (Ra28.get M (Ra28.plus (M.r 0) M.gbr) 1)) i, rfl, R, .inl rfl, comb_lt (widened_lt _ _) hi, ldQ_ok h1 h2 fun H1 R1 c1 => ?_⟩
  rw [low_comb (get1_lt g _) hi] at R1
  exact do_nil (fin_st kk R1 c1)
theorem sc_store_with_offset : FnScope ["machine", "n", "m", "i", "regs"] P4 (defScope (top 158)) := ⟨rfl, rfl, rfl, by decide +kernel, rfl, by decide +kernel, by decide +kernel⟩
theorem ok_store_with_offset (F : Fun K "store_with_offset" "store_with_offset" (top 158) f fd) (T : Tx K mg C) (G : Hlp P w K mg base C xs) : FnOk P w K mg base (CXE P w) 6 f fd P4 (spA C xs .store_with_offset) := by
  refine act_do F sc_store_with_offset fun cdv A outer s H Q E a m0 M n j i hr R hn hj hi hji hpc hok kk => ?_
  have g := R.good
  have R0 := R.toRepC
  have nd := sc_store_with_offset.nd
  dsimp only [effA] at kk
  refine do_set 4 nd (ev_regs T R0 (ev_v 0)) ?_
  refine do_store (pt := Ra28.plus (M.r n) (4 * (i % 16))) (n := 4) (x := M.r j) T.cl G.sto (hr.mono (by decide)) passE R (ev_v 0) ((ev_and (ev_add (ev_r (n := n) R0 (ev_v 4) (ev_v 1) hn) ((ev_mul ev_int ((ev_and (ev_v 3) ev_int).int (mask4 i)) (.inl ⟨by decide, by decide⟩)).int (show _ = ((4 * (i % 16) : Nat) : Int) by simp))) (ev_num T.MASK)).int (plus_eq _ _)) ev_int (ev_r (n := j) R0 (ev_v 4) (ev_v 2) hj) (.inr (.inr rfl)) (g.r j) (ldQ_store kk fun kk => fun H1 R1 c1 => ?_)
  exact do_nil (fin_st kk R1 c1)
theorem sc_load_with_offset : FnScope ["machine", "n", "m", "i", "regs"] P4 (defScope (top 159)) := ⟨rfl, rfl, rfl, by decide +kernel, rfl, by decide +kernel, by decide +kernel⟩
theorem ok_load_with_offset (F : Fun K "load_with_offset" "load_with_offset" (top 159) f fd) (T : Tx K mg C) (G : Hlp P w K mg base C xs) : FnOk P w K mg base (CXE P w) 6 f fd P4 (spA C xs .load_with_offset) := by
  refine act_do F sc_load_with_offset fun cdv A outer s H Q E a m0 M n j i hr R hn hj hi hji hpc hok kk => ?_
  have g := R.good
  have R0 := R.toRepC
  have nd := sc_load_with_offset.nd
  dsimp only [effA] at kk
  refine do_set 4 nd (ev_regs T R0 (ev_v 0)) ?_
  refine do_loadr (pt := Ra28.plus (M.r j) (4 * (i % 16))) (n := 4) (r := n) T.cl G.ld (hr.mono (by decide)) passE R (ev_v 0) ((ev_and (ev_add (ev_r (n := j) R0 (ev_v 4) (ev_v 2) hj) ((ev_mul ev_int ((ev_and (ev_v 3) ev_int).int (mask4 i)) (.inl ⟨by decide, by decide⟩)).int (show _ = ((4 * (i % 16) : Nat) : Int) by simp))) (ev_num T.MASK)).int (plus_eq _ _)) ev_int (.inr (.inr rfl)) (ev_v 4) (ev_v 1) hn (ldQ_load kk fun kk => fun H1 R1 c1 => ?_)
  exact do_nil (fin_nx kk R R1 c1)
theorem sc_add_number : FnScope ["machine", "n", "m", "i"] P4 (defScope (top 160)) := ⟨rfl, rfl, rfl, by decide +kernel, rfl, by decide +kernel, by decide +kernel⟩
theorem ok_add_number (F : Fun K "add_number" "add_number" (top 160) f fd) (T : Tx K mg C) (G : Hlp P w K mg base C xs) : FnOk P w K mg base (CXE P w) 6 f fd P4 (spA C xs .add_number) := by
  refine act_do F sc_add_number fun cdv A outer s H Q E a m0 M n j i hr R hn hj hi hji hpc hok kk => ?_
  have g := R.good
  have R0 := R.toRepC
  have nd := sc_add_number.nd
  dsimp only [effA] at kk
  refine do_setr (n := n) (x := Ra28.plus (M.r n) (Ra28.widened 8 i)) R0 ((ev_and (ev_add (ev_r (n := n) R0 (ev_regs T R0 (ev_v 0)) (ev_v 1) hn) (ev_signed (n := 8) G.sg (hr.mono (by decide)) passE (ev_v 3) ev_int (by decide) (by decide))) (ev_num T.MASK)).int (plus_sg _ _)) (ev_regs T R0 (ev_v 0)) (ev_v 1) hn (plus_lt _ _) fun H1 R1 c1 => ?_
  exact do_nil (fin_nx kk R R1 c1)
theorem sc_take_number : FnScope ["machine", "n", "m", "i"] P4 (defScope (top 161)) := ⟨rfl, rfl, rfl, by decide +kernel, rfl, by decide +kernel, by decide +kernel⟩
theorem ok_take_number (F : Fun K "take_number" "take_number" (top 161) f fd) (T : Tx K mg C) (G : Hlp P w K mg base C xs) : FnOk P w K mg base (CXE P w) 6 f fd P4 (spA C xs .take_number) := by
  refine act_do F sc_take_number fun cdv A outer s H Q E a m0 M n j i hr R hn hj hi hji hpc hok kk => ?_
  have g := R.good
  have R0 := R.toRepC
  have nd := sc_take_number.nd
  dsimp only [effA] at kk
  refine do_setr (n := n) (x := Ra28.widened 8 i) R0 ((ev_and (ev_signed (n := 8) G.sg (hr.mono (by decide)) passE (ev_v 3) ev_int (by decide) (by decide)) (ev_num T.MASK)).int (signed_wrap 8 _)) (ev_regs T R0 (ev_v 0)) (ev_v 1) hn (widened_lt _ _) fun H1 R1 c1 => ?_
  exact do_nil (fin_nx kk R R1 c1)
end
end Sh
namespace Sh
open PySem PyProof.Rows L2
theorem dec_bits (p q : Bool) : decide (V.int ((Ra28.bit p : Nat) : Int) = V.int ((Ra28.bit q : Nat) : Int)) = (p == q) := by cases p <;> cases q <;> decide
theorem dv_x (r : Nat) (b : Bool) : Builtin.bitAnd (Builtin.bitOr (2 * (r : Int)) (Ra28.bit b : Int)) 4294967295 = (((2 * r + Ra28.bit b) % 4294967296 : Nat) : Int) := by
  have := bit_lt b
  rw [show 2 * (r : Int) = ((r * 2 : Nat) : Int) by omega, or_nn, show r * 2 ||| Ra28.bit b = r * 2 + Ra28.bit b from or_add _ _ 1 (by omega), mod_eq, Nat.mul_comm r 2]
theorem dv_sub {x y : Nat} (hx : x < 4294967296) (hy : y < 4294967296) : (!decide (V.int ((x : Int) - (y : Int)) = V.int ((Ra28.minus x y : Nat) : Int))) = decide (x < y) := by
  have e : Ra28.minus x y = (x + 4294967296 - y) % 4294967296 := rfl
  rw [dec_int, e]
  by_cases q : x < y
  · rw [decide_eq_true q, beq_eq_false_iff_ne.mpr (by omega)]; rfl
  · rw [decide_eq_false q, beq_iff_eq.mpr (by omega)]; rfl
theorem dv_add {x y : Nat} (hx : x < 4294967296) (hy : y < 4294967296) : (!decide (V.int ((x : Int) + (y : Int)) = V.int ((Ra28.plus x y : Nat) : Int))) = decide (4294967296 ≤ x + y) := by
  have e : Ra28.plus x y = (x + y) % 4294967296 := rfl
  rw [dec_int, e]
  by_cases q : 4294967296 ≤ x + y
  · rw [decide_eq_true q, beq_eq_false_iff_ne.mpr (by omega)]; rfl
  · rw [decide_eq_false q, beq_iff_eq.mpr (by omega)]; rfl
section
variable {P : Program} {w : World} {K : PySem.W.Frag} {mg : Str → Option Value} {base : Heap} {f C : Addr} {xs : Xs} {fd : FuncData}
theorem sc_divide_step : FnScope ["machine", "n", "m", "i", "regs", "sign", "doubled", "value", "turned"] P4 (defScope (top 99)) := ⟨rfl, rfl, rfl, by decide +kernel, rfl, by decide +kernel, by decide +kernel⟩
theorem ok_divide_step (F : Fun K "divide_step" "divide_step" (top 99) f fd) (T : Tx K mg C) (G : Hlp P w K mg base C xs) : FnOk P w K mg base (CXE P w) 6 f fd P4 (spA C xs .divide_step) := by
  refine act_do F sc_divide_step fun cdv A outer s H Q E a m0 M n j i hr R hn hj hi hji hpc hok kk => ?_
  have g := R.good
  have R0 := R.toRepC
  have nd := sc_divide_step.nd
  refine do_set 4 nd (ev_regs T R0 (ev_v 0)) ?_
  refine do_set 5 nd ((ev_shr (ev_r (n := n) R0 (ev_v 4) (ev_v 1) hn) ev_int (by decide)).int (shr31 (g.r n))) ?_
  refine do_set 6 nd ((ev_and (ev_or (ev_mul ev_int (ev_r (n := n) R0 (ev_v 4) (ev_v 1) hn) (.inl ⟨by decide, by decide⟩)) (ev_t T R0 (ev_v 0))) (ev_num T.MASK)).int (dv_x _ _)) ?_
  have hx : (2 * M.r n + Ra28.bit M.t) % 4294967296 < 4294967296 := Nat.mod_lt _ (by decide)
  have kk : effQ C xs a m0 H Q E (.nx { Ra28.set M n (if M.q = M.m then Ra28.minus ((2 * M.r n + Ra28.bit M.t) % 4294967296) (M.r j) else Ra28.plus ((2 * M.r n + Ra28.bit M.t) % 4294967296) (M.r j)) with
      q := decide (2147483648 ≤ M.r n) != ((if M.q = M.m then decide ((2 * M.r n + Ra28.bit M.t) % 4294967296 < M.r j) else decide (4294967296 ≤ (2 * M.r n + Ra28.bit M.t) % 4294967296 + M.r j)) != M.m),
      t := (decide (2147483648 ≤ M.r n) != ((if M.q = M.m then decide ((2 * M.r n + Ra28.bit M.t) % 4294967296 < M.r j) else decide (4294967296 ≤ (2 * M.r n + Ra28.bit M.t) % 4294967296 + M.r j)) != M.m)) == M.m } 0) := kk
  generalize (2 * M.r n + Ra28.bit M.t) % 4294967296 = x at *
  have fin : ∀ (v : Int) (y : Nat) (c : Bool), Builtin.bitAnd v 4294967295 = (y : Nat) → y < 4294967296 → (!decide (V.int v = V.int (y : Nat))) = c →
      effQ C xs a m0 H Q E (.nx { Ra28.set M n y with q := decide (2147483648 ≤ M.r n) != (c != M.m), t := (decide (2147483648 ≤ M.r n) != (c != M.m)) == M.m } 0) →
      Do (cxE P w K mg base ["machine", "n", "m", "i", "regs", "sign", "doubled", "value", "turned"] "divide_step" (defScope (top 99)) f cdv A outer s H E) ((defBody (top 99)).drop 4) { nx := fun _ H' => Q .non H', rt := Q }
        [some (.ref a.p), some (.int n), some (.int j), some (.int i), some (.ref a.rg), some (.int (Ra28.bit (decide (2147483648 ≤ M.r n)) : Nat)), some (.int (x : Nat)), some (.int v), none] H := by
    intro v y c hy1 hy2 hc kk
    refine do_setr (n := n) (x := y) R0 ((ev_and (ev_v 7) (ev_num T.MASK)).int hy1) (ev_v 4) (ev_v 1) hn hy2 fun H1 R1 c1 => ?_
    have ey : (Ra28.set M n y).r n = y := if_pos rfl
    refine do_set 8 nd ((ev_if10 (tt_eq (ev_v 7) (ev_r (n := n) R1 (ev_v 4) (ev_v 1) hn))).eq (vb (b' := c) (by rw [ey]; exact hc))) ?_
    have eb : ∀ p q r : Bool, ((p != q) != r) = (p != (q != r)) := by decide
    refine do_f fw_q (decide (2147483648 ≤ M.r n) != (c != M.m)) T.cl T.nQ R1 ((ev_xor ((ev_xor (ev_v 5) (ev_v 8)).int (xor_bits _ _)) (ev_m T R1 (ev_v 0))).int ((xor_bits _ _).trans (by rw [eb]; rfl))) (ev_v 0) trivial fun H2 R2 c2 => ?_
    refine do_f fw_t ((decide (2147483648 ≤ M.r n) != (c != M.m)) == M.m) T.cl T.nT R2 ((ev_if01 (tt_eq (ev_q T R2 (ev_v 0)) (ev_m T R2 (ev_v 0)))).eq (vb (dec_bits _ _))) (ev_v 0) trivial fun H3 R3 c3 => ?_
    exact do_nil (fin_nx kk R R3 (c1.trans (c2.trans c3)))
  have e := dec_bits M.q M.m
  by_cases hq : M.q = M.m
  · rw [if_pos hq, if_pos hq] at kk
    refine do_set (v := .int ((x : Int) - (M.r j : Int))) 7 nd (ev_ifT ((tt_eq (ev_q T R0 (ev_v 0)) (ev_m T R0 (ev_v 0))).eq (e.trans (by rw [hq]; simp))) (ev_sub (ev_v 6) (ev_r (n := j) R0 (ev_v 4) (ev_v 2) hj))) ?_
    exact fin _ _ _ (minus_eq (g.r j)) (minus_lt _ _) (dv_sub hx (g.r j)) kk
  · rw [if_neg hq, if_neg hq] at kk
    refine do_set (v := .int ((x : Int) + (M.r j : Int))) 7 nd (ev_ifF ((tt_eq (ev_q T R0 (ev_v 0)) (ev_m T R0 (ev_v 0))).eq (e.trans (by simpa using hq))) (ev_add (ev_v 6) (ev_r (n := j) R0 (ev_v 4) (ev_v 2) hj))) ?_
    exact fin _ _ _ (plus_eq _ _) (plus_lt _ _) (dv_add hx (g.r j)) kk
theorem sc_call_by_register : FnScope P4 P4 (defScope (top 22)) := ⟨rfl, rfl, rfl, by decide +kernel, rfl, by decide +kernel, by decide +kernel⟩
theorem ok_call_by_register (F : Fun K "call_by_register" "call_by_register" (top 22) f fd) (T : Tx K mg C) (G : Hlp P w K mg base C xs) (gj : Cal P w K mg base "jump_by_register" P4 (spA C xs .jump_by_register) 4) : FnOk P w K mg base (CXE P w) 6 f fd P4 (spA C xs .call_by_register) := by
  refine act_do F sc_call_by_register fun cdv A outer s H Q E a m0 M n j i hr R hn hj hi hji hpc hok kk => ?_
  have R0 := R.toRepC
  refine do_setreg (n := 21) (x := M.pc + 4) R0 (ev_base G.bs (hr.mono (by decide)) passE R0 (ev_v 0)) (ev_regs T R0 (ev_v 0)) (ev_num T.PR) (by decide) (by decide) (by omega) fun H1 R1 c1 => ?_
  have R1' : Rep C a m0 { M with pr := M.pc + 4 } 0 H1 := R.chg R1 c1 rfl
  refine do_retc gj (hr.mono (by decide)) passE (ea_cons (ev_v 0) (ea_cons (ev_v 1) (ea_cons (ev_v 2) (ea_cons (ev_v 3) ea_nil)))) ⟨a, m0, { M with pr := M.pc + 4 }, n, j, i, rfl, R1', hn, hj, hi, hji, hpc, trivial, fun H2 R2 f2 => ?_⟩
  have kk : ∀ H', Rep C a m0 { M with pr := Ra28.plus M.pc 4 } 0 H' → Fra a H H' → Q (.int ((Ra28.plus (Ra28.plus M.pc 4) (M.r n) : Nat) : Int)) H' := kk
  exact kk H2 (by rw [pc4 hpc]; exact R2) (c1.fra.trans f2)
theorem sc_call_by_number : FnScope P4 P4 (defScope (top 33)) := ⟨rfl, rfl, rfl, by decide +kernel, rfl, by decide +kernel, by decide +kernel⟩
theorem ok_call_by_number (F : Fun K "call_by_number" "call_by_number" (top 33) f fd) (T : Tx K mg C) (G : Hlp P w K mg base C xs) (gj : Cal P w K mg base "jump_by_number" P4 (spA C xs .jump_by_number) 4) : FnOk P w K mg base (CXE P w) 6 f fd P4 (spA C xs .call_by_number) := by
  refine act_do F sc_call_by_number fun cdv A outer s H Q E a m0 M n j i hr R hn hj hi hji hpc hok kk => ?_
  have R0 := R.toRepC
  refine do_setreg (n := 21) (x := M.pc + 4) R0 (ev_base G.bs (hr.mono (by decide)) passE R0 (ev_v 0)) (ev_regs T R0 (ev_v 0)) (ev_num T.PR) (by decide) (by decide) (by omega) fun H1 R1 c1 => ?_
  have R1' : Rep C a m0 { M with pr := M.pc + 4 } 0 H1 := R.chg R1 c1 rfl
  refine do_retc gj (hr.mono (by decide)) passE (ea_cons (ev_v 0) (ea_cons (ev_v 1) (ea_cons (ev_v 2) (ea_cons (ev_v 3) ea_nil)))) ⟨a, m0, { M with pr := M.pc + 4 }, n, j, i, rfl, R1', hn, hj, hi, hji, hpc, trivial, fun H2 R2 f2 => ?_⟩
  have kk : ∀ H', Rep C a m0 { M with pr := Ra28.plus M.pc 4 } 0 H' → Fra a H H' → Q (.int ((there M 12 (n * 256 + i) : Nat) : Int)) H' := kk
  exact kk H2 (by rw [pc4 hpc]; exact R2) (c1.fra.trans f2)
theorem sc_add_long_product : FnScope ["machine", "n", "m", "i", "value"] P4 (defScope (top 49)) := ⟨rfl, rfl, rfl, by decide +kernel, rfl, by decide +kernel, by decide +kernel⟩
theorem ok_add_long_product (F : Fun K "add_long_product" "add_long_product" (top 49) f fd) (T : Tx K mg C) (G : Hlp P w K mg base C xs) : FnOk P w K mg base (CXE P w) 6 f fd P4 (spA C xs .add_long_product) := by
  refine act_do F sc_add_long_product fun cdv A outer s H Q E a m0 M n j i hr R hn hj hi hji hpc hok kk => ?_
  have R0 := R.toRepC
  have nd := sc_add_long_product.nd
  dsimp only [effA, macE] at kk
  refine do_cons (ps_set (i := 4) nd rfl (Or.inl rfl) (pe_op op_add (pe_c G.np (hr.mono (by decide)) passE (pa_cons (pv 0) (pa_cons (pv 1) (pa_cons (pv 2) (pa_cons pe_int pa_nil))))) (pe_c G.rs (hr.mono (by decide)) passE (pa_cons (pv 0) pa_nil)))) ?_
  refine ⟨_, rfl, _, rfl, _, rfl, a, m0, M, 0, n, j, 4, rfl, R, hn, hj, .inr rfl, ldQ_load kk fun kk => ldQ_load kk fun kk => fun H1 R1 c1 => ?_⟩
  refine ⟨_, rfl, a, _, 0, rfl, R1, _, _, rfl, rfl, ?_⟩
  have fin : ∀ (v : Int) (M1 : Ra28.M), RepC C a M1 0 H1 → effQ C xs a m0 H Q E (.nx { M1 with mac := Ra28.wrap64 v } 0) → M1.mem = M.mem → 
      Do (cxE P w K mg base ["machine", "n", "m", "i", "value"] "add_long_product" (defScope (top 49)) f cdv A outer s H E) ((defBody (top 49)).drop 2) { nx := fun _ H' => Q .non H', rt := Q } [some (.ref a.p), some (.int n), some (.int j), some (.int i), some (.int v)] H1 := by
    intro v M1 R1 kk em
    refine do_call G.ws (hr.mono (by decide)) passE (ea_cons (ev_v 0) (ea_cons (ev_v 4) ea_nil)) ⟨a, M1, 0, v, rfl, R1, fun H2 R2 c2 => ?_⟩
    exact do_nil (fin_nx kk R R2 (c1.trans c2) em)
  have ep : prodOf M n j 4 + Ra28.mac64 M = Ra28.mac64 M + prodOf M n j 4 := Int.add_comm _ _
  refine do_if ((tt_eq (ev_s T R1 (ev_v 0)) ev_int).eq (dec_bit1 M.s)) (fun h => ?_) (fun h => ?_)
  · refine do_set 4 nd (ev_clamped G.cl (hr.mono (by decide)) passE (ev_v 4) (ev_neg (ev_pow ev_int ev_int ⟨by decide, by decide, by decide⟩)) (ev_sub (ev_pow ev_int ev_int ⟨by decide, by decide, by decide⟩) ev_int)) ?_
    refine do_nil (fin _ _ R1 ?_ rfl)
    have kk : effQ C xs a m0 H Q E (.nx { Ra28.set (Ra28.set M n (Ra28.plus (M.r n) 4)) j (Ra28.plus ((Ra28.set M n (Ra28.plus (M.r n) 4)).r j) 4) with mac := Ra28.wrap64 (if M.s = true then Ra28.limited 47 (Ra28.mac64 M + prodOf M n j 4) else Ra28.mac64 M + prodOf M n j 4) } 0) := kk
    rw [if_pos h, ← ep] at kk
    exact kk
  · refine do_nil (fin _ _ R1 ?_ rfl)
    have kk : effQ C xs a m0 H Q E (.nx { Ra28.set (Ra28.set M n (Ra28.plus (M.r n) 4)) j (Ra28.plus ((Ra28.set M n (Ra28.plus (M.r n) 4)).r j) 4) with mac := Ra28.wrap64 (if M.s = true then Ra28.limited 47 (Ra28.mac64 M + prodOf M n j 4) else Ra28.mac64 M + prodOf M n j 4) } 0) := kk
    rw [if_neg (by rw [h]; decide), ← ep] at kk
    exact kk
theorem prod2 {M : Ra28.M} (g : Good M) (n j : Nat) : prodOf M n j 2 = Ra28.signed 16 (Ra28.get M (M.r n) 2) * Ra28.signed 16 (Ra28.get M ((Ra28.set M n (Ra28.plus (M.r n) 2)).r j) 2) := by
  unfold prodOf
  rw [sg_wide (.inl rfl) (get_lt2 g _ (.inl rfl)), sg_wide (.inl rfl) (get_lt2 g _ (.inl rfl))]
  rfl
theorem sc_add_word_product : FnScope ["machine", "n", "m", "i", "product"] P4 (defScope (top 50)) := ⟨rfl, rfl, rfl, by decide +kernel, rfl, by decide +kernel, by decide +kernel⟩
theorem ok_add_word_product (F : Fun K "add_word_product" "add_word_product" (top 50) f fd) (T : Tx K mg C) (G : Hlp P w K mg base C xs) : FnOk P w K mg base (CXE P w) 6 f fd P4 (spA C xs .add_word_product) := by
  refine act_do F sc_add_word_product fun cdv A outer s H Q E a m0 M n j i hr R hn hj hi hji hpc hok kk => ?_
  have R0 := R.toRepC
  have nd := sc_add_word_product.nd
  dsimp only [effA, macE] at kk
  refine do_setc 4 nd G.np (hr.mono (by decide)) passE (ea_cons (ev_v 0) (ea_cons (ev_v 1) (ea_cons (ev_v 2) (ea_cons ev_int ea_nil)))) ⟨a, m0, M, 0, n, j, 2, rfl, R, hn, hj, .inl rfl, ldQ_load kk fun kk => ldQ_load kk fun kk => fun H1 R1 c1 => ?_⟩
  have kk : effQ C xs a m0 H Q E (.nx { Ra28.set (Ra28.set M n (Ra28.plus (M.r n) 2)) j (Ra28.plus ((Ra28.set M n (Ra28.plus (M.r n) 2)).r j) 2) with mac := (if M.s = true then lowSum M (Ra28.signed 16 (Ra28.get M (M.r n) 2) * Ra28.signed 16 (Ra28.get M ((Ra28.set M n (Ra28.plus (M.r n) 2)).r j) 2))
      else Ra28.wrap64 (Ra28.mac64 M + Ra28.signed 16 (Ra28.get M (M.r n) 2) * Ra28.signed 16 (Ra28.get M ((Ra28.set M n (Ra28.plus (M.r n) 2)).r j) 2))) } 0) := kk
  rw [← prod2 R.good n j] at kk
  refine do_if ((tt_eq (ev_s T R1 (ev_v 0)) ev_int).eq (dec_bit1 M.s)) (fun h => ?_) (fun h => ?_)
  · rw [if_pos h] at kk
    refine do_call G.al (hr.mono (by decide)) passE (ea_cons (ev_v 0) (ea_cons (ev_v 4) ea_nil)) ⟨a, _, 0, _, rfl, R1, fun H2 R2 c2 => ?_⟩
    exact do_nil (do_nil (fin_nx kk R R2 (c1.trans c2)))
  · rw [if_neg (by rw [h]; decide)] at kk
    refine do_call G.ws (hr.mono (by decide)) passE (ea_cons (ev_v 0) (ea_cons (ev_add (ev_rsum G.rs (hr.mono (by decide)) passE R1 (ev_v 0)) (ev_v 4)) ea_nil)) ⟨a, _, 0, _, rfl, R1, fun H2 R2 c2 => ?_⟩
    exact do_nil (do_nil (fin_nx kk R R2 (c1.trans c2)))
def Amts (K : PySem.W.Frag) (mg : Str → Option Value) : Prop := ∃ am, mg "AMOUNTS" = some (.ref am) ∧ ∀ H, SqT K H am [.int 2, .int 8, .int 16]
theorem ev_amt {X : Cx} {σ : L2.St} {H : Hp} {ek : Expr} {p pos : Pos} {j : Nat} (h : Amts X.K X.mg) (hk : Ev X σ H ek (.int (j : Nat))) (hj : j < 3) (hg : Gl X "AMOUNTS" := by rfl) (hs : NoSl ek := by exact fun _ _ => rfl) : Ev X σ H (.Subscript (.Name "AMOUNTS" p) ek pos) (.int ((amt j : Nat) : Int)) := by
  obtain ⟨am, h1, h2⟩ := h
  refine ev_of (pe_ix ix_tup (pe_glob (v := .ref am) hg h1 rfl) hk hs) fun Q q => ⟨rfl, rfl, am, _, _, _, rfl, rfl, h2 H, atI_nat (v := .int ((amt j : Nat) : Int)) ?_, q⟩
  have : j = 0 ∨ j = 1 ∨ j = 2 := by omega
  rcases this with rfl | rfl | rfl <;> rfl
theorem amt_le (j : Nat) : amt j ≤ 16 := by
  unfold amt
  by_cases h : j = 0
  · rw [if_pos h]; decide
  · rw [if_neg h]
    by_cases h : j = 1
    · rw [if_pos h]; decide
    · rw [if_neg h]; decide
theorem sc_shift_left : FnScope P4 P4 (defScope (top 111)) := ⟨rfl, rfl, rfl, by decide +kernel, rfl, by decide +kernel, by decide +kernel⟩
theorem ok_shift_left (F : Fun K "shift_left" "shift_left" (top 111) f fd) (T : Tx K mg C) (am : Amts K mg) : FnOk P w K mg base (CXE P w) 6 f fd P4 (spA C xs .shift_left) := by
  refine act_do F sc_shift_left fun cdv A outer s H Q E a m0 M n j i hr R hn hj hi hji hpc hok kk => ?_
  have g := R.good
  have R0 := R.toRepC
  have hok : i / 16 < 3 := hok
  refine do_setr (n := n) (x := 2 ^ amt j * M.r n % 4294967296) R0 ((ev_and (ev_shl (ev_r (n := n) R0 (ev_regs T R0 (ev_v 0)) (ev_v 1) hn) (ev_amt am (ev_v 2) (by omega)) (cpow (by have := g.r n; omega) (by omega) (by have := amt_le j; omega))) (ev_num T.MASK)).int (by rw [shl_nat, mod_eq, Nat.mul_comm])) (ev_regs T R0 (ev_v 0)) (ev_v 1) hn (Nat.mod_lt _ (by decide)) fun H1 R1 c1 => ?_
  exact do_nil (fin_nx kk R R1 c1)
theorem sc_shift_right : FnScope P4 P4 (defScope (top 112)) := ⟨rfl, rfl, rfl, by decide +kernel, rfl, by decide +kernel, by decide +kernel⟩
theorem ok_shift_right (F : Fun K "shift_right" "shift_right" (top 112) f fd) (T : Tx K mg C) (am : Amts K mg) : FnOk P w K mg base (CXE P w) 6 f fd P4 (spA C xs .shift_right) := by
  refine act_do F sc_shift_right fun cdv A outer s H Q E a m0 M n j i hr R hn hj hi hji hpc hok kk => ?_
  have g := R.good
  have R0 := R.toRepC
  have hok : i / 16 < 3 := hok
  refine do_setr (n := n) (x := M.r n / 2 ^ amt j) R0 ((ev_shr (ev_r (n := n) R0 (ev_regs T R0 (ev_v 0)) (ev_v 1) hn) (ev_amt am (ev_v 2) (by omega)) (by omega)).int (shr_nat _ _)) (ev_regs T R0 (ev_v 0)) (ev_v 1) hn (Nat.lt_of_le_of_lt (Nat.div_le_self _ _) (g.r n)) fun H1 R1 c1 => ?_
  exact do_nil (fin_nx kk R R1 c1)
end
end Sh
namespace Sh
open PySem PyProof.Rows L2
theorem xor_zero {x y : Nat} : x ^^^ y = 0 ↔ x = y := by
  constructor
  · intro h
    have h1 := xor_and_or x y
    have h2 := and_or x y
    have h3 : x &&& y ≤ x := Nat.and_le_left
    have h4 : x &&& y ≤ y := Nat.and_le_right
    omega
  · intro h; subst h; exact Nat.xor_self x
theorem byte_eq (x y k : Nat) : decide (V.int (Builtin.bitAnd (((x ^^^ y : Nat) : Int) / 2 ^ ((k : Nat) : Int).toNat) 255) = V.int 0) = (x / 2 ^ k % 256 == y / 2 ^ k % 256) := by
  rw [shr_nat, mask8, dec_nat0, Nat.xor_div_two_pow, xor_mod256, beq_dec, beq_dec]
  exact decide_eq_decide.mpr xor_zero
theorem same_any (x y : Nat) : [x / 2 ^ 0 % 256 == y / 2 ^ 0 % 256, x / 2 ^ 8 % 256 == y / 2 ^ 8 % 256, x / 2 ^ 16 % 256 == y / 2 ^ 16 % 256, x / 2 ^ 24 % 256 == y / 2 ^ 24 % 256].any id = Ra28.sameByte x y := rfl
theorem yes_t {σ : L2.St} {H : Hp} {F : Bool → Hp → Prop} (h : F true H) : tYes σ H F := h
section
variable {P : Program} {w : World} {K : PySem.W.Frag} {mg : Str → Option Value} {base : Heap} {f C : Addr} {xs : Xs} {fd : FuncData}
theorem sc_have_same_byte : FnScope ["machine", "n", "m", "i", "differing", "at"] P4 (defScope (top 77)) := ⟨rfl, rfl, rfl, by decide +kernel, rfl, by decide +kernel, by decide +kernel⟩
theorem ok_have_same_byte (F : Fun K "have_same_byte" "have_same_byte" (top 77) f fd) (T : Tx K mg C) (B : Blt mg) : FnOk P w K mg base (CXE P w) 6 f fd P4 (spA C xs .have_same_byte) := by
  refine act_do F sc_have_same_byte fun cdv A outer s H Q E a m0 M n j i hr R hn hj hi hji hpc hok kk => ?_
  have g := R.good
  have R0 := R.toRepC
  have nd := sc_have_same_byte.nd
  dsimp only [effA] at kk
  refine do_set 4 nd ((ev_xor (ev_r (n := n) R0 (ev_regs T R0 (ev_v 0)) (ev_v 1) hn) (ev_r (n := j) R0 (ev_regs T R0 (ev_v 0)) (ev_v 2) hj)).int (xor_nn _ _)) ?_ rfl (Or.inr rfl)
  refine do_cons (ps_mf (a := a) fw_t T.cl T.nT (pv 0) (pe_if01 (pt_truth (pe_callB (cr_any rfl) rfl B.any boot_any (pa_cons (pe_lc (own := [("at", 5)]) rfl nd (pi_tup (pe_tup (pa_cons pe_int (pa_cons pe_int (pa_cons pe_int (pa_cons pe_int pa_nil)))))) (blkOk_by (by rfl))
    (fun _ _ _ _ _ => pg_name (i := 5) nd rfl (Or.inl rfl)) (fun _ _ _ _ _ => pts_nil) (fun _ _ _ _ _ => pe_cmpR op_eq (pe_op op_and (pe_op op_shr (pv 4) (pv 5)) pe_int) pe_int (nomark _))) pa_nil)) (fun _ => rfl)))) ?_
  have hx := byte_eq (M.r n) (M.r j)
  generalize hd : (M.r n ^^^ M.r j) = d at *
  refine ⟨Nat.le_of_lt (small1000 (by show 4 ≤ 1000; decide)), fun p hp => ⟨p, rfl, ⟨_, SqT.of upd_same⟩, fun D hD => ?_⟩⟩
  have hDp : D ≠ p := fun e => by rw [e, upd_same] at hD; cases hD
  have hDH : H D = none := by rw [upd_ne hDp] at hD; exact hD
  let bs : List Bool := [M.r n / 2 ^ 0 % 256 == M.r j / 2 ^ 0 % 256, M.r n / 2 ^ 8 % 256 == M.r j / 2 ^ 8 % 256, M.r n / 2 ^ 16 % 256 == M.r j / 2 ^ 16 % 256, M.r n / 2 ^ 24 % 256 == M.r j / 2 ^ 24 % 256]
  refine lc_tup (xs := [.int 0, .int 8, .int 16, .int 24]) (fun i H' => H' = upd (upd H p (.tup [.int 0, .int 8, .int 16, .int 24])) D (.lst ((bs.take i).map V.bl))) rfl (fun i H' _ e => ?_) (fun i x H' hi e => ?_) (fun H' e => ?_)
  · subst e; exact SqT.of (by rw [upd_ne (Ne.symm hDp), upd_same])
  · subst e
    have small : ∀ l : List V, l.length ≤ 4 → l.length < sizeLine := fun l h => small1000 (Nat.le_trans h (by decide))
    match i, hi with
    | 0, hi =>
      cases hi
      refine ⟨rfl, yes_t ?_⟩
      rw [if_pos rfl]
      refine ⟨_, rfl, _, rfl, _, _, rfl, rfl, (by show (0 : Int) ≤ 0; decide), _, _, rfl, rfl, rfl, _, upd_same, small _ (by show 0 ≤ 4; decide), ?_⟩
      rw [upd_upd]
      exact congrArg (fun b => upd (upd H p _) D (.lst [V.bl b])) (hx 0)
    | 1, hi =>
      cases hi
      refine ⟨rfl, yes_t ?_⟩
      rw [if_pos rfl]
      refine ⟨_, rfl, _, rfl, _, _, rfl, rfl, (by show (0 : Int) ≤ 8; decide), _, _, rfl, rfl, rfl, _, upd_same, small _ (by show 1 ≤ 4; decide), ?_⟩
      rw [upd_upd]
      exact congrArg (fun b => upd (upd H p _) D (.lst [_, V.bl b])) (hx 8)
    | 2, hi =>
      cases hi
      refine ⟨rfl, yes_t ?_⟩
      rw [if_pos rfl]
      refine ⟨_, rfl, _, rfl, _, _, rfl, rfl, (by show (0 : Int) ≤ 16; decide), _, _, rfl, rfl, rfl, _, upd_same, small _ (by show 2 ≤ 4; decide), ?_⟩
      rw [upd_upd]
      exact congrArg (fun b => upd (upd H p _) D (.lst [_, _, V.bl b])) (hx 16)
    | 3, hi =>
      cases hi
      refine ⟨rfl, yes_t ?_⟩
      rw [if_pos rfl]
      refine ⟨_, rfl, _, rfl, _, _, rfl, rfl, (by show (0 : Int) ≤ 24; decide), _, _, rfl, rfl, rfl, _, upd_same, small _ (by show 3 ≤ 4; decide), ?_⟩
      rw [upd_upd]
      exact congrArg (fun b => upd (upd H p _) D (.lst [_, _, _, V.bl b])) (hx 24)
    | k + 4, hi => cases hi
  · subst e
    have ex : Ext H (upd (upd H p (.tup [.int 0, .int 8, .int 16, .int 24])) D (.lst (bs.map V.bl))) := (Ext.new hp).trans (Ext.new hD)
    have R1 := R.ext ex
    refine ⟨D, bs, rfl, SqL.of upd_same, _, rfl, _, rfl, M, 0, Ra28.sameByte (M.r n) (M.r j), rfl, vb (same_any _ _), trivial, R1.toRepC, fun H1 R2 c2 => ?_⟩
    exact do_nil (kk H1 (R1.chg R2 c2 rfl) (ex.fra.trans c2.fra))
end
end Sh
namespace Sh
open PySem PyProof.Rows L2
structure KD (P : Program) (w : World) (K : PySem.W.Frag) (a : Addr) (tab : List (Int × Addr)) : Prop where
  dict : ∀ h : Heap, K.In h → h.DictOf (mixKind P w) a (tab.map fun p => ((Sum.inl p.1 : Key), Value.ref p.2))
  ns : (a == sysModules) = false
theorem val_tab (k : Int) : ∀ tab : List (Int × Addr), valueAt (tab.map fun p => ((Sum.inl p.1 : Key), Value.ref p.2)) (Sum.inl k) = (tab.lookup k).map Value.ref
  | [] => rfl
  | (i, f) :: r => by
    have ih := val_tab k r
    unfold valueAt at ih ⊢
    rw [List.map_cons, List.find?_cons, List.lookup_cons]
    by_cases e : i = k
    · subst e; simp
    · have h1 : ¬ ((Sum.inl i : Key) = Sum.inl k) := fun q => e (Sum.inl.inj q)
      have h2 : (k == i) = false := beq_eq_false_iff_ne.mpr fun q => e q.symm
      rw [decide_eq_false h1, h2]
      exact ih
def oR (o : Option Addr) : V := match o with | some f => .ref f | none => .non
theorem oR_rel (o : Option Addr) : RelV (oR o) ((o.map Value.ref).getD .none) := by cases o <;> rfl
def oV (ad : Ac → Addr) (o : Option Ac) : V := oR (o.map ad)
theorem look_map (ad : Ac → Addr) (k : Int) : ∀ l : List (Int × Ac), (l.map fun p => (p.1, ad p.2)).lookup k = (l.lookup k).map ad
  | [] => rfl
  | (i, c) :: r => by
    rw [List.map_cons, List.lookup_cons, List.lookup_cons]
    cases k == i with
    | true => rfl
    | false => exact look_map ad k r
def TabAt (P : Program) (w : World) (K : PySem.W.Frag) (mg : Str → Option Value) (ad : Ac → Addr) (x : Str) (l : List (Int × Ac)) : Prop := ∃ a, mg x = some (.ref a) ∧ KD P w K a (l.map fun p => (p.1, ad p.2))
section
variable {X : Cx} {σ : L2.St} {H : Hp} {e : Expr} {p pos apos cpos : Pos} {x : Str} {ad : Ac → Addr} {l : List (Int × Ac)} {k : Int}
theorem ev_tget (T : TabAt X.prog X.w X.K X.mg ad x l) (he : Ev X σ H e (.int k)) (hg : Gl X x := by rfl) (m : M1 X (.Name x p) "get" apos e cpos := by exact ⟨rfl, rfl, rfl, rfl⟩) (hd : (x == ("__debug__" : Str)) = false := by decide) : Ev X σ H (.Call (.Attribute (.Name x p) "get" apos) [e] [] cpos) (oV ad (l.lookup k)) := by
  obtain ⟨da, hm, kd⟩ := T
  intro pins s σ' H' Q I q
  obtain ⟨rfl, rfl, q⟩ := q
  refine wpAny_Call_method m.base m.few m.line PySem.F.plainAttrs_dict PySem.F.slot_dict_get PySem.F.type_dict_get (ld_glob I hg hm ?_ hd)
  have dd := kd.dict _ I.kIn
  refine ⟨dd.typeIs, fun b q => ?_, ?_⟩
  · cases q
    obtain ⟨ob, _, _, h1, h2, _⟩ := dd
    exact ⟨ob, h1, h2.2.1⟩
  rw [m.trees]
  refine Calls.callWith_builtin rfl (Calls.evalArgs_plain (Calls.spliced_cons (thn (he pins s _ _ (fun y H1 => y = .int k ∧ H1 = H') I ⟨rfl, rfl, rfl, rfl⟩) fun iv s2 ⟨y, H2, I2, ry, e1, e2⟩ => Calls.spliced_nil ?_)))
  subst e1 e2
  have dd := kd.dict _ I2.kIn
  refine call_meetsIn PySem.F.slot_dict_get dd.typeIs PySem.F.entry_dict_get (PySem.F.args_dict_get_2 _ _) (meets_dict_get (mixKind X.prog X.w) da (kV_is (k := Sum.inl k) ry) kd.ns) ⟨_, dd.mapOf, ?_⟩
  refine ⟨_, _, I2.tok _, ?_, q⟩
  rw [val_tab, look_map]
  exact oR_rel _
theorem ev_tix (T : TabAt X.prog X.w X.K X.mg ad x l) (he : Ev X σ H e (.int k)) {c : Ac} (hc : l.lookup k = some c) (hg : Gl X x := by rfl) (hs : NoSl e := by exact fun _ _ => rfl) (hd : (x == ("__debug__" : Str)) = false := by decide) : Ev X σ H (.Subscript (.Name x p) e pos) (.ref (ad c)) := by
  obtain ⟨da, hm, kd⟩ := T
  intro pins s σ' H' Q I q
  obtain ⟨rfl, rfl, q⟩ := q
  refine subD_of PySem.F.slot_dict_getitem.lookup hs (ld_glob I hg hm ?_ hd)
  refine thn (he pins s _ _ (fun y H1 => y = .int k ∧ H1 = H') I ⟨rfl, rfl, rfl, rfl⟩) fun iv s2 ⟨y, H2, I2, ry, e1, e2⟩ => ?_
  subst e1 e2
  have dd := kd.dict _ I2.kIn
  refine ⟨dd.typeIs, wpAny_getItem_of (kV_is (k := Sum.inl k) ry) dd.mapOf (v := .ref (ad c)) (by rw [val_tab, look_map, hc]; rfl) ?_⟩
  exact ⟨.ref (ad c), _, I2.tok _, rfl, q⟩
theorem tt_tin (T : TabAt X.prog X.w X.K X.mg ad x l) (he : Ev X σ H e (.int k)) (hg : Gl X x := by rfl) (hd : (x == ("__debug__" : Str)) = false := by decide) : Tt X σ H (.Compare e [.In] [.Name x p] pos) (l.lookup k).isSome := by
  obtain ⟨da, hm, kd⟩ := T
  intro pins s σ' H' Q I q
  obtain ⟨rfl, rfl, q⟩ := q
  refine wpAny_isTrue_Compare1 (thn (he pins s _ _ (fun y H1 => y = .int k ∧ H1 = H') I ⟨rfl, rfl, rfl, rfl⟩) fun iv s2 ⟨y, H2, I2, ry, e1, e2⟩ => ld_glob I2 hg hm ?_ hd) rfl
  subst e1 e2
  have dd := kd.dict _ I2.kIn
  refine wpAny_in_of (kV_is (k := Sum.inl k) ry) kd.ns dd.mapOf ?_
  rw [val_tab, look_map]
  have e : (((l.lookup k).map ad).map Value.ref).isSome = (l.lookup k).isSome := by cases l.lookup k <;> rfl
  rw [e]
  exact wpAny_truthy_bool ⟨_, I2.tok _, q⟩
end
theorem lk_BG : ∀ g : Nat, g < 16 → lBG.lookup (g : Int) = bG g := by decide +kernel
theorem lk_BI0 : ∀ i : Nat, i < 256 → lBI0.lookup (i : Int) = bI0 i := by decide +kernel
theorem lk_BN0 : ∀ i : Nat, i < 256 → lBN0.lookup (i : Int) = bN0 i := by decide +kernel
theorem lk_BI4 : ∀ i : Nat, i < 256 → lBI4.lookup (i : Int) = bI4 i := by decide +kernel
theorem lk_BN8 : ∀ n : Nat, n < 16 → lBN8.lookup (n : Int) = bN8 n := by decide +kernel
theorem lk_BNC : ∀ n : Nat, n < 16 → lBNC.lookup (n : Int) = bNC n := by decide +kernel
theorem lk_K0 : ∀ k : Nat, k < 16 → lK0.lookup (k : Int) = tK0 k := by decide +kernel
theorem lk_I0 : ∀ i : Nat, i < 256 → lI0.lookup (i : Int) = tI0 i := by decide +kernel
theorem lk_N0 : ∀ i : Nat, i < 256 → lN0.lookup (i : Int) = tN0 i := by decide +kernel
theorem lk_2 : ∀ k : Nat, k < 16 → l2.lookup (k : Int) = free2 k := by decide +kernel
theorem lk_3 : ∀ k : Nat, k < 16 → l3.lookup (k : Int) = free3 k := by decide +kernel
theorem lk_4 : ∀ i : Nat, i < 256 → l4.lookup (i : Int) = free4 i := by decide +kernel
theorem lk_6 : ∀ k : Nat, k < 16 → l6[k]? = some (free6 k) := by decide +kernel
theorem lk_8 : ∀ n : Nat, n < 16 → l8.lookup (n : Int) = free8 n := by decide +kernel
theorem lk_C : ∀ n : Nat, n < 16 → lC.lookup (n : Int) = freeC n := by decide +kernel
theorem lk_W : ∀ g : Nat, g < 16 → lW.lookup (g : Int) = freeW g := by decide +kernel
structure Tabs (P : Program) (w : World) (K : PySem.W.Frag) (mg : Str → Option Value) (ad : Ac → Addr) : Prop where
  bg : TabAt P w K mg ad "BY_GROUP_bound" lBG
  bi0 : TabAt P w K mg ad "BY_I_IN_0" lBI0
  bn0 : TabAt P w K mg ad "WHERE_N_IS_0_IN_0" lBN0
  bi4 : TabAt P w K mg ad "BY_I_IN_4" lBI4
  bn8 : TabAt P w K mg ad "BY_N_IN_8" lBN8
  bnc : TabAt P w K mg ad "BY_N_IN_C" lBNC
  k0 : TabAt P w K mg ad "BY_K_group0" lK0
  i0 : TabAt P w K mg ad "BY_I_group0" lI0
  n0 : TabAt P w K mg ad "WHERE_N_IS_0" lN0
  t2 : TabAt P w K mg ad "BY_K_group2" l2
  t3 : TabAt P w K mg ad "BY_K_group3" l3
  t4 : TabAt P w K mg ad "BY_I_group4" l4
  t6 : ∃ a, mg "BY_K_group6" = some (.ref a) ∧ ∀ H, SqT K H a (l6.map fun c => V.ref (ad c))
  t8 : TabAt P w K mg ad "BY_N_group8" l8
  tc : TabAt P w K mg ad "BY_N_groupc" lC
  tw : TabAt P w K mg ad "BY_GROUP_groups157e" lW
end Sh
namespace Sh
open PySem PyProof.Rows L2
def spSel1 (ad : Ac → Addr) (b : Nat) (g : Nat → Option Ac) : Sp := fun vs H Q _ => ∃ i : Nat, vs = [.int i] ∧ i < b ∧ Q (oV ad (g i)) H
def spSel2 (ad : Ac → Addr) (g : Nat → Nat → Option Ac) : Sp := fun vs H Q _ => ∃ n i : Nat, vs = [.int n, .int i] ∧ n < 16 ∧ i < 256 ∧ Q (oV ad (g n i)) H
def spSel3 (ad : Ac → Addr) (g : Nat → Nat → Nat → Option Ac) : Sp := fun vs H Q _ => ∃ k n i : Nat, vs = [.int k, .int n, .int i] ∧ k < 16 ∧ n < 16 ∧ i < 256 ∧ Q (oV ad (g k n i)) H
theorem dec_iff {x y : Nat} : (x == y) = true ↔ x = y := by simp
section
variable {P : Program} {w : World} {K : PySem.W.Frag} {mg : Str → Option Value} {base : Heap} {f C : Addr} {xs : Xs} {fd : FuncData} {ad : Ac → Addr}
theorem sc_bound : FnScope ["group", "n", "i"] ["group", "n", "i"] (defScope (top 44)) := ⟨rfl, rfl, rfl, by decide +kernel, rfl, by decide +kernel, by decide +kernel⟩
theorem ok_bound (F : Fun K "bound_act" "bound_act" (top 44) f fd) (B : Tabs P w K mg ad) : FnOk P w K mg base (CXE P w) 1 f fd ["group", "n", "i"] (spSel3 ad boundA) := by
  refine fn_do F sc_bound (fun vs H Q E h => ?_) (fun cdv A outer s H vs Q E hr h => ?_)
  · obtain ⟨g, n, i, rfl, _⟩ := h; rfl
  · obtain ⟨g, n, i, rfl, hg, hn, hi, k⟩ := h
    unfold boundA at k
    refine do_if ((tt_and3 (tt_eq (ev_v 0) ev_int) (tt_eq (ev_v 1) ev_int) (tt_tin B.bn0 (ev_v 2))).eq (show _ = decide (g = 0 ∧ n = 0 ∧ (bN0 i).isSome = true) by rw [dec_nat0, dec_nat0, lk_BN0 i hi, beq_dec, beq_dec]; simp [Bool.decide_and])) (fun h => ?_) (fun h => ?_)
    · rw [if_pos (of_decide_eq_true h)] at k
      obtain ⟨_, _, h3⟩ := of_decide_eq_true h
      obtain ⟨c, hc⟩ := Option.isSome_iff_exists.mp h3
      rw [hc] at k
      exact do_ret (ev_tix B.bn0 (ev_v 2) (by rw [lk_BN0 i hi, hc])) k
    · rw [if_neg (of_decide_eq_false h)] at k
      refine do_nil ?_
      refine do_if ((tt_eq (ev_v 0) ev_int).eq (dec_nat0 g)) (fun h => ?_) (fun h => ?_)
      · rw [if_pos (dec_iff.mp h), ← lk_BI0 i hi] at k
        exact do_ret (ev_tget B.bi0 (ev_v 2)) k
      rw [if_neg (by simpa using h)] at k
      refine do_nil ?_
      refine do_if ((tt_eq (ev_v 0) ev_int).eq (dec_nat g 4)) (fun h => ?_) (fun h => ?_)
      · rw [if_pos (dec_iff.mp h), ← lk_BI4 i hi] at k
        exact do_ret (ev_tget B.bi4 (ev_v 2)) k
      rw [if_neg (by simpa using h)] at k
      refine do_nil ?_
      refine do_if ((tt_eq (ev_v 0) ev_int).eq (dec_nat g 8)) (fun h => ?_) (fun h => ?_)
      · rw [if_pos (dec_iff.mp h), ← lk_BN8 n hn] at k
        exact do_ret (ev_tget B.bn8 (ev_v 1)) k
      rw [if_neg (by simpa using h)] at k
      refine do_nil ?_
      refine do_if ((tt_eq (ev_v 0) ev_int).eq (dec_nat g 12)) (fun h => ?_) (fun h => ?_)
      · rw [if_pos (dec_iff.mp h), ← lk_BNC n hn] at k
        exact do_ret (ev_tget B.bnc (ev_v 1)) k
      rw [if_neg (by simpa using h), ← lk_BG g hg] at k
      refine do_nil ?_
      exact do_ret (ev_tget B.bg (ev_v 0)) k
theorem sc_g0 : FnScope ["n", "i"] ["n", "i"] (defScope (top 68)) := ⟨rfl, rfl, rfl, by decide +kernel, rfl, by decide +kernel, by decide +kernel⟩
theorem ok_g0 (F : Fun K "act_of_group_0" "act_of_group_0" (top 68) f fd) (B : Tabs P w K mg ad) (ha : mg "add_long_product" = some (.ref (ad .add_long_product))) : FnOk P w K mg base (CXE P w) 1 f fd ["n", "i"] (spSel2 ad free0) := by
  refine fn_do F sc_g0 (fun vs H Q E h => ?_) (fun cdv A outer s H vs Q E hr h => ?_)
  · obtain ⟨n, i, rfl, _⟩ := h; rfl
  · obtain ⟨n, i, rfl, hn, hi, k⟩ := h
    unfold free0 at k
    have hk : i % 16 < 16 := by omega
    refine do_if ((tt_eq ((ev_and (ev_v 1) ev_int).int (mask4 i)) ev_int).eq (dec_nat (i % 16) 15)) (fun h => ?_) (fun h => ?_)
    · rw [if_pos (dec_iff.mp h)] at k
      exact do_ret (ev_of (pe_glob (v := .ref (ad .add_long_product)) rfl ha rfl) fun _ q => q) k
    rw [if_neg (by simpa using h)] at k
    refine do_nil ?_
    refine do_if ((tt_tin B.k0 ((ev_and (ev_v 1) ev_int).int (mask4 i))).eq (congrArg Option.isSome (lk_K0 _ hk))) (fun h => ?_) (fun h => ?_)
    · rw [if_pos h] at k
      obtain ⟨c, hc⟩ := Option.isSome_iff_exists.mp h
      rw [hc] at k
      exact do_ret (ev_tix B.k0 ((ev_and (ev_v 1) ev_int).int (mask4 i)) (by rw [lk_K0 _ hk, hc])) k
    rw [if_neg (by rw [h]; decide)] at k
    refine do_nil ?_
    refine do_if ((tt_tin B.i0 (ev_v 1)).eq (congrArg Option.isSome (lk_I0 _ hi))) (fun h => ?_) (fun h => ?_)
    · rw [if_pos h] at k
      obtain ⟨c, hc⟩ := Option.isSome_iff_exists.mp h
      rw [hc] at k
      exact do_ret (ev_tix B.i0 (ev_v 1) (by rw [lk_I0 _ hi, hc])) k
    rw [if_neg (by rw [h]; decide)] at k
    refine do_nil ?_
    refine do_if ((tt_eq (ev_v 0) ev_int).eq (dec_nat0 n)) (fun h => ?_) (fun h => ?_)
    · rw [if_pos (dec_iff.mp h), ← lk_N0 i hi] at k
      exact do_ret (ev_tget B.n0 (ev_v 1)) k
    rw [if_neg (by simpa using h)] at k
    refine do_nil ?_
    exact do_ret ev_non k
theorem sc_g2 : FnScope ["i"] ["i"] (defScope (top 82)) := ⟨rfl, rfl, rfl, by decide +kernel, rfl, by decide +kernel, by decide +kernel⟩
theorem ok_g2 (F : Fun K "act_of_group_2" "act_of_group_2" (top 82) f fd) (B : Tabs P w K mg ad) : FnOk P w K mg base (CXE P w) 1 f fd ["i"] (spSel1 ad 256 fun i => free2 (i % 16)) := by
  refine fn_do F sc_g2 (fun vs H Q E h => ?_) (fun cdv A outer s H vs Q E hr h => ?_)
  · obtain ⟨i, rfl, _⟩ := h; rfl
  · obtain ⟨i, rfl, hi, k⟩ := h
    dsimp only at k
    rw [← lk_2 (i % 16) (by omega)] at k
    exact do_ret (ev_tget B.t2 ((ev_and (ev_v 0) ev_int).int (mask4 i))) k
theorem sc_g3 : FnScope ["i"] ["i"] (defScope (top 101)) := ⟨rfl, rfl, rfl, by decide +kernel, rfl, by decide +kernel, by decide +kernel⟩
theorem ok_g3 (F : Fun K "act_of_group_3" "act_of_group_3" (top 101) f fd) (B : Tabs P w K mg ad) : FnOk P w K mg base (CXE P w) 1 f fd ["i"] (spSel1 ad 256 fun i => free3 (i % 16)) := by
  refine fn_do F sc_g3 (fun vs H Q E h => ?_) (fun cdv A outer s H vs Q E hr h => ?_)
  · obtain ⟨i, rfl, _⟩ := h; rfl
  · obtain ⟨i, rfl, hi, k⟩ := h
    dsimp only at k
    rw [← lk_3 (i % 16) (by omega)] at k
    exact do_ret (ev_tget B.t3 ((ev_and (ev_v 0) ev_int).int (mask4 i))) k
theorem sc_g4 : FnScope ["i"] ["i"] (defScope (top 122)) := ⟨rfl, rfl, rfl, by decide +kernel, rfl, by decide +kernel, by decide +kernel⟩
theorem ok_g4 (F : Fun K "act_of_group_4" "act_of_group_4" (top 122) f fd) (B : Tabs P w K mg ad) (ha : mg "add_word_product" = some (.ref (ad .add_word_product))) : FnOk P w K mg base (CXE P w) 1 f fd ["i"] (spSel1 ad 256 fun i => if i % 16 = 15 then some .add_word_product else free4 i) := by
  refine fn_do F sc_g4 (fun vs H Q E h => ?_) (fun cdv A outer s H vs Q E hr h => ?_)
  · obtain ⟨i, rfl, _⟩ := h; rfl
  · obtain ⟨i, rfl, hi, k⟩ := h
    dsimp only at k
    refine do_if ((tt_eq ((ev_and (ev_v 0) ev_int).int (mask4 i)) ev_int).eq (dec_nat (i % 16) 15)) (fun h => ?_) (fun h => ?_)
    · rw [if_pos (dec_iff.mp h)] at k
      exact do_ret (ev_of (pe_glob (v := .ref (ad .add_word_product)) rfl ha rfl) fun _ q => q) k
    rw [if_neg (by simpa using h), ← lk_4 i hi] at k
    refine do_nil ?_
    exact do_ret (ev_tget B.t4 (ev_v 0)) k
theorem sc_g6 : FnScope ["i"] ["i"] (defScope (top 137)) := ⟨rfl, rfl, rfl, by decide +kernel, rfl, by decide +kernel, by decide +kernel⟩
theorem ok_g6 (F : Fun K "act_of_group_6" "act_of_group_6" (top 137) f fd) (B : Tabs P w K mg ad) : FnOk P w K mg base (CXE P w) 1 f fd ["i"] (spSel1 ad 256 fun i => some (free6 (i % 16))) := by
  refine fn_do F sc_g6 (fun vs H Q E h => ?_) (fun cdv A outer s H vs Q E hr h => ?_)
  · obtain ⟨i, rfl, _⟩ := h; rfl
  · obtain ⟨i, rfl, hi, k⟩ := h
    obtain ⟨da, h1, h2⟩ := B.t6
    refine do_ret (ev_of (pe_ix ix_tup (pe_glob (v := .ref da) rfl h1 rfl) ((ev_and (ev_v 0) ev_int).int (mask4 i)) (fun _ _ => rfl)) fun Q q => ⟨rfl, rfl, da, _, _, _, rfl, rfl, h2 H, atI_nat (v := .ref (ad (free6 (i % 16)))) ?_, q⟩) k
    rw [List.getElem?_map, lk_6 _ (by omega)]
    rfl
theorem sc_g8 : FnScope ["n"] ["n"] (defScope (top 144)) := ⟨rfl, rfl, rfl, by decide +kernel, rfl, by decide +kernel, by decide +kernel⟩
theorem ok_g8 (F : Fun K "act_of_group_8" "act_of_group_8" (top 144) f fd) (B : Tabs P w K mg ad) : FnOk P w K mg base (CXE P w) 1 f fd ["n"] (spSel1 ad 16 free8) := by
  refine fn_do F sc_g8 (fun vs H Q E h => ?_) (fun cdv A outer s H vs Q E hr h => ?_)
  · obtain ⟨i, rfl, _⟩ := h; rfl
  · obtain ⟨i, rfl, hi, k⟩ := h
    rw [← lk_8 i hi] at k
    exact do_ret (ev_tget B.t8 (ev_v 0)) k
theorem sc_gc : FnScope ["n"] ["n"] (defScope (top 156)) := ⟨rfl, rfl, rfl, by decide +kernel, rfl, by decide +kernel, by decide +kernel⟩
theorem ok_gc (F : Fun K "act_of_group_c" "act_of_group_c" (top 156) f fd) (B : Tabs P w K mg ad) : FnOk P w K mg base (CXE P w) 1 f fd ["n"] (spSel1 ad 16 freeC) := by
  refine fn_do F sc_gc (fun vs H Q E h => ?_) (fun cdv A outer s H vs Q E hr h => ?_)
  · obtain ⟨i, rfl, _⟩ := h; rfl
  · obtain ⟨i, rfl, hi, k⟩ := h
    rw [← lk_C i hi] at k
    exact do_ret (ev_tget B.tc (ev_v 0)) k
theorem sc_gw : FnScope ["group"] ["group"] (defScope (top 163)) := ⟨rfl, rfl, rfl, by decide +kernel, rfl, by decide +kernel, by decide +kernel⟩
theorem ok_gw (F : Fun K "act_of_whole_group" "act_of_whole_group" (top 163) f fd) (B : Tabs P w K mg ad) : FnOk P w K mg base (CXE P w) 1 f fd ["group"] (spSel1 ad 16 freeW) := by
  refine fn_do F sc_gw (fun vs H Q E h => ?_) (fun cdv A outer s H vs Q E hr h => ?_)
  · obtain ⟨i, rfl, _⟩ := h; rfl
  · obtain ⟨i, rfl, hi, k⟩ := h
    rw [← lk_W i hi] at k
    exact do_ret (ev_tget B.tw (ev_v 0)) k
structure Gps (P : Program) (w : World) (K : PySem.W.Frag) (mg : Str → Option Value) (base : Heap) (ad : Ac → Addr) : Prop where
  g0 : Cal P w K mg base "act_of_group_0" ["n", "i"] (spSel2 ad free0) 1
  g2 : Cal P w K mg base "act_of_group_2" ["i"] (spSel1 ad 256 fun i => free2 (i % 16)) 1
  g3 : Cal P w K mg base "act_of_group_3" ["i"] (spSel1 ad 256 fun i => free3 (i % 16)) 1
  g4 : Cal P w K mg base "act_of_group_4" ["i"] (spSel1 ad 256 fun i => if i % 16 = 15 then some .add_word_product else free4 i) 1
  g6 : Cal P w K mg base "act_of_group_6" ["i"] (spSel1 ad 256 fun i => some (free6 (i % 16))) 1
  g8 : Cal P w K mg base "act_of_group_8" ["n"] (spSel1 ad 16 free8) 1
  gc : Cal P w K mg base "act_of_group_c" ["n"] (spSel1 ad 16 freeC) 1
  gw : Cal P w K mg base "act_of_whole_group" ["group"] (spSel1 ad 16 freeW) 1
theorem sc_free : FnScope ["group", "n", "i"] ["group", "n", "i"] (defScope (top 165)) := ⟨rfl, rfl, rfl, by decide +kernel, rfl, by decide +kernel, by decide +kernel⟩
theorem ok_free (F : Fun K "free_act" "free_act" (top 165) f fd) (G : Gps P w K mg base ad) : FnOk P w K mg base (CXE P w) 2 f fd ["group", "n", "i"] (spSel3 ad freeA) := by
  refine fn_do F sc_free (fun vs H Q E h => ?_) (fun cdv A outer s H vs Q E hr h => ?_)
  · obtain ⟨g, n, i, rfl, _⟩ := h; rfl
  · obtain ⟨g, n, i, rfl, hg, hn, hi, k⟩ := h
    unfold freeA at k
    refine do_if ((tt_eq (ev_v 0) ev_int).eq (dec_nat0 g)) (fun h => ?_) (fun h => ?_)
    · rw [if_pos (dec_iff.mp h)] at k
      exact do_retc G.g0 hr passE (ea_cons (ev_v 1) (ea_cons (ev_v 2) ea_nil)) ⟨n, i, rfl, hn, hi, k⟩
    rw [if_neg (by simpa using h)] at k
    refine do_nil ?_
    refine do_if ((tt_eq (ev_v 0) ev_int).eq (dec_nat g 2)) (fun h => ?_) (fun h => ?_)
    · rw [if_pos (dec_iff.mp h)] at k
      exact do_retc G.g2 hr passE (ea_cons (ev_v 2) ea_nil) ⟨i, rfl, hi, k⟩
    rw [if_neg (by simpa using h)] at k
    refine do_nil ?_
    refine do_if ((tt_eq (ev_v 0) ev_int).eq (dec_nat g 3)) (fun h => ?_) (fun h => ?_)
    · rw [if_pos (dec_iff.mp h)] at k
      exact do_retc G.g3 hr passE (ea_cons (ev_v 2) ea_nil) ⟨i, rfl, hi, k⟩
    rw [if_neg (by simpa using h)] at k
    refine do_nil ?_
    refine do_if ((tt_eq (ev_v 0) ev_int).eq (dec_nat g 4)) (fun h => ?_) (fun h => ?_)
    · rw [if_pos (dec_iff.mp h)] at k
      exact do_retc G.g4 hr passE (ea_cons (ev_v 2) ea_nil) ⟨i, rfl, hi, k⟩
    rw [if_neg (by simpa using h)] at k
    refine do_nil ?_
    refine do_if ((tt_eq (ev_v 0) ev_int).eq (dec_nat g 6)) (fun h => ?_) (fun h => ?_)
    · rw [if_pos (dec_iff.mp h)] at k
      exact do_retc G.g6 hr passE (ea_cons (ev_v 2) ea_nil) ⟨i, rfl, hi, k⟩
    rw [if_neg (by simpa using h)] at k
    refine do_nil ?_
    refine do_if ((tt_eq (ev_v 0) ev_int).eq (dec_nat g 8)) (fun h => ?_) (fun h => ?_)
    · rw [if_pos (dec_iff.mp h)] at k
      exact do_retc G.g8 hr passE (ea_cons (ev_v 1) ea_nil) ⟨n, rfl, hn, k⟩
    rw [if_neg (by simpa using h)] at k
    refine do_nil ?_
    refine do_if ((tt_eq (ev_v 0) ev_int).eq (dec_nat g 12)) (fun h => ?_) (fun h => ?_)
    · rw [if_pos (dec_iff.mp h)] at k
      exact do_retc G.gc hr passE (ea_cons (ev_v 1) ea_nil) ⟨n, rfl, hn, k⟩
    rw [if_neg (by simpa using h)] at k
    refine do_nil ?_
    exact do_retc G.gw hr passE (ea_cons (ev_v 0) ea_nil) ⟨g, rfl, hg, k⟩
def meanQ (ad : Ac → Addr) (xs : Xs) (x : Nat) (H : Hp) (Q : VK) (E : XK) : Option (Ac × Bool) → Prop
  | none => E (.ref xs.ni) none H
  | some (c, b) => ∀ p, H p = none → Q (.ref p) (upd H p (.tup [.ref (ad c), .int ((x / 256 % 16 : Nat) : Int), .int ((x % 256 / 16 : Nat) : Int), .int ((x % 256 : Nat) : Int), .bl b]))
def spMean (ad : Ac → Addr) (xs : Xs) : Sp := fun vs H Q E => ∃ x : Nat, vs = [.int x] ∧ x < 65536 ∧ meanQ ad xs x H Q E (actOf (x / 4096) (x / 256 % 16) (x % 256))
theorem sc_mean : FnScope ["word", "group", "n", "i", "act"] ["word"] (defScope (top 166)) := ⟨rfl, rfl, rfl, by decide +kernel, rfl, by decide +kernel, by decide +kernel⟩
theorem ok_mean (F : Fun K "meaning" "meaning" (top 166) f fd) (xt : XT K xs) (gb : Cal P w K mg base "bound_act" ["group", "n", "i"] (spSel3 ad boundA) 1) (gf : Cal P w K mg base "free_act" ["group", "n", "i"] (spSel3 ad freeA) 2) : FnOk P w K mg base (CXE P w) 3 f fd ["word"] (spMean ad xs) := by
  refine fn_do F sc_mean (fun vs H Q E h => ?_) (fun cdv A outer s H vs Q E hr h => ?_)
  · obtain ⟨x, rfl, _⟩ := h; rfl
  · obtain ⟨x, rfl, hx, k⟩ := h
    have nd := sc_mean.nd
    refine do_set 1 nd ((ev_shr (ev_v 0) ev_int (by decide)).int (shr_nat x 12)) ?_
    refine do_set 2 nd ((ev_and ((ev_shr (ev_v 0) ev_int (by decide)).int (shr_nat x 8)) ev_int).int (mask4 _)) ?_
    refine do_set 3 nd ((ev_and (ev_v 0) ev_int).int (mask8 x)) ?_
    refine do_setc 4 nd gb (hr.mono (by decide)) passE (ea_cons (ev_v 1) (ea_cons (ev_v 2) (ea_cons (ev_v 3) ea_nil))) ⟨x / 4096, x / 256 % 16, x % 256, rfl, by omega, by omega, by omega, ?_⟩
    have e16 : ((x % 256 : Nat) : Int) / 2 ^ (4 : Int).toNat = ((x % 256 / 16 : Nat) : Int) := shr_nat _ 4
    unfold actOf at k
    cases hb : boundA (x / 4096) (x / 256 % 16) (x % 256) with
    | some c =>
      rw [hb] at k
      refine do_if ((tt_notN (ev_v 4)).eq (show _ = true from rfl)) (fun _ => ?_) (fun h => by cases h)
      exact do_cons (ps_ret (pe_tup (ea_cons (ev_v 4) (ea_cons (ev_v 2) (ea_cons ((ev_shr (ev_v 3) ev_int (by decide)).int e16) (ea_cons (ev_v 3) (ea_cons ev_bl ea_nil))))))) ⟨rfl, rfl, Nat.le_of_lt (small1000 (by show 5 ≤ 1000; decide)), fun p hp => k p hp⟩
    | none =>
      rw [hb] at k
      refine do_if ((tt_notN (ev_v 4)).eq (show _ = false from rfl)) (fun h => by cases h) (fun _ => ?_)
      refine do_nil ?_
      refine do_setc 4 nd gf (hr.mono (by decide)) passE (ea_cons (ev_v 1) (ea_cons (ev_v 2) (ea_cons (ev_v 3) ea_nil))) ⟨x / 4096, x / 256 % 16, x % 256, rfl, by omega, by omega, by omega, ?_⟩
      cases hf : freeA (x / 4096) (x / 256 % 16) (x % 256) with
      | some c =>
        rw [hf] at k
        refine do_if ((tt_isN (ev_v 4)).eq (show _ = false from rfl)) (fun h => by cases h) (fun _ => ?_)
        refine do_nil ?_
        exact do_cons (ps_ret (pe_tup (ea_cons (ev_v 4) (ea_cons (ev_v 2) (ea_cons ((ev_shr (ev_v 3) ev_int (by decide)).int e16) (ea_cons (ev_v 3) (ea_cons ev_bl ea_nil))))))) ⟨rfl, rfl, Nat.le_of_lt (small1000 (by show 5 ≤ 1000; decide)), fun p hp => k p hp⟩
      | none =>
        rw [hf] at k
        refine do_if ((tt_isN (ev_v 4)).eq (show _ = true from rfl)) (fun _ => ?_) (fun h => by cases h)
        exact do_cons (ps_raise PySem.F.excBase_Exception xt.ni xt.xni rfl) k
end
end Sh
namespace Sh
open PySem PyProof.Rows L2
def jpLt : Eff → Prop
  | .jp _ t => t < 4294967296
  | .nx _ _ => True
  | .ex c => c = 3 ∨ c = 4
theorem jp_load {M : Ra28.M} {p n : Nat} {g : Nat → Eff} (h : jpLt (g (Ra28.get M p n))) : jpLt (loadE M p n g) := by
  unfold loadE
  repeat' split
  · exact Or.inl rfl
  · exact Or.inr rfl
  · exact h
theorem jp_store {N : Ra28.M} {p n x : Nat} : jpLt (storeE N p n x) := by
  unfold storeE
  repeat' split
  · exact Or.inl rfl
  · exact Or.inr rfl
  · exact trivial
theorem jp_act (c : Ac) {M : Ra28.M} (g : Good M) (n j i : Nat) : jpLt (effA c M n j i) := by
  cases c
  case jump_by_register => exact plus_lt _ _
  case call_by_register => exact plus_lt _ _
  case come_back => exact g.pr
  case come_back_with_status => dsimp only [effA]; refine jp_load (jp_load ?_); exact get_lt g _
  case jump_to_register => exact g.r n
  case call_to_register => exact g.r n
  case jump_where_1 => dsimp only [effA]; split; exact there_lt _ _ _; exact trivial
  case jump_where_0 => dsimp only [effA]; split; exact trivial; exact there_lt _ _ _
  case jump_by_number => exact there_lt _ _ _
  case call_by_number => exact there_lt _ _ _
  case add_long_product => dsimp only [effA, macE]; refine jp_load (jp_load ?_); exact trivial
  case add_word_product => dsimp only [effA, macE]; refine jp_load (jp_load ?_); exact trivial
  all_goals dsimp only [effA]
  all_goals first | (with_reducible exact jp_store) | ((with_reducible refine jp_load ?_); exact trivial) | exact trivial
def TupOk (ad : Ac → Addr) (x : Nat) (p : Addr) (H : Hp) : Prop := ∃ c b, actOf (x / 4096) (x / 256 % 16) (x % 256) = some (c, b) ∧ H p = some (.tup [.ref (ad c), .int ((x / 256 % 16 : Nat) : Int), .int ((x % 256 / 16 : Nat) : Int), .int ((x % 256 : Nat) : Int), .bl b])
abbrev knL (W : List (Nat × Addr)) : List (Key × V) := W.map fun p => ((Sum.inl (p.1 : Int) : Key), V.ref p.2)
def KnOk (ad : Ac → Addr) (kn : Addr) (H : Hp) : Prop := ∃ W : List (Nat × Addr), H kn = some (.dK (knL W)) ∧ (W.map (·.1)).Nodup ∧ ∀ p ∈ W, p.1 < 65536 ∧ TupOk ad p.1 p.2 H
theorem kn_val (x : Nat) : ∀ W : List (Nat × Addr), valV (knL W) (Sum.inl (x : Int)) = (W.lookup x).map V.ref
  | [] => rfl
  | (i, f) :: r => by
    have ih := kn_val x r
    unfold valV at ih ⊢
    unfold knL
    rw [List.map_cons, List.find?_cons, List.lookup_cons]
    by_cases e : i = x
    · subst e; simp
    · have h1 : ¬ ((Sum.inl (i : Int) : Key) = Sum.inl (x : Int)) := fun q => e (by have := Sum.inl.inj q; omega)
      have h2 : (x == i) = false := beq_eq_false_iff_ne.mpr fun q => e q.symm
      rw [decide_eq_false h1, h2]
      exact ih
theorem look_mem {x : Nat} {p : Addr} : ∀ {W : List (Nat × Addr)}, W.lookup x = some p → (x, p) ∈ W
  | (i, f) :: r, h => by
    rw [List.lookup_cons] at h
    by_cases e : x = i
    · subst e; simp at h; subst h; exact List.mem_cons_self
    · rw [beq_eq_false_iff_ne.mpr e] at h
      exact List.mem_cons_of_mem _ (look_mem h)
theorem look_none {x : Nat} : ∀ {W : List (Nat × Addr)}, W.lookup x = none → x ∉ W.map (·.1)
  | [], _ => by simp
  | (i, f) :: r, h => by
    rw [List.lookup_cons] at h
    by_cases e : x = i
    · subst e; simp at h
    · rw [beq_eq_false_iff_ne.mpr e] at h
      have := look_none h
      rw [List.map_cons, List.mem_cons]
      exact fun q => q.elim e this
structure Full (C : Addr) (ad : Ac → Addr) (a : Ad) (m0 : Nat → Nat) (M : Ra28.M) (w : Nat) (H : Hp) : Prop extends Rep C a m0 M w H where
  kn : KnOk ad a.kn H
  n2 : a.kn ≠ a.td
def Fra2 (a : Ad) (H H' : Hp) : Prop := ∀ b o, b ≠ a.p → b ≠ a.rg → b ≠ a.me → b ≠ a.td → b ≠ a.kn → H b = some o → H' b = some o
theorem Fra2.refl (a : Ad) (H : Hp) : Fra2 a H H := fun _ _ _ _ _ _ _ e => e
theorem Fra2.trans {a : Ad} {H H1 H2 : Hp} (x : Fra2 a H H1) (y : Fra2 a H1 H2) : Fra2 a H H2 := fun b o h1 h2 h3 h4 h5 e => y b o h1 h2 h3 h4 h5 (x b o h1 h2 h3 h4 h5 e)
theorem Fra.two {a : Ad} {H H' : Hp} (x : Fra a H H') : Fra2 a H H' := fun b o h1 h2 h3 h4 _ e => x b o h1 h2 h3 h4 e
section
variable {C : Addr} {ad : Ac → Addr} {a : Ad} {m0 : Nat → Nat} {M M' : Ra28.M} {w w' : Nat} {H H' : Hp}
theorem Rep.tup_fra (R : Rep C a m0 M w H) (f : Fra a H H') {p : Addr} {l : List V} (h : H p = some (.tup l)) : H' p = some (.tup l) := by
  obtain ⟨T, t1, _⟩ := R.td
  exact f p _ (ne_of h R.ob (by intro q; cases q)) (ne_of h R.rg (by intro q; cases q)) (ne_of h R.me (by intro q; cases q)) (ne_of h t1 (by intro q; cases q)) h
theorem Full.go (F : Full C ad a m0 M w H) (R' : Rep C a m0 M' w' H') (f : Fra a H H') : Full C ad a m0 M' w' H' := by
  obtain ⟨W, k1, k2, k3⟩ := F.kn
  refine ⟨R', ⟨W, ?_, k2, fun p hp => ⟨(k3 p hp).1, ?_⟩⟩, F.n2⟩
  · exact f _ _ (ne_of k1 F.ob (by intro q; cases q)) (ne_of k1 F.rg (by intro q; cases q)) (ne_of k1 F.me (by intro q; cases q)) F.n2 k1
  · obtain ⟨c, b, e1, e2⟩ := (k3 p hp).2
    exact ⟨c, b, e1, F.toRep.tup_fra f e2⟩
theorem Full.learn (F : Full C ad a m0 M w H) {W : List (Nat × Addr)} (k1 : H a.kn = some (.dK (knL W))) (k2 : (W.map (·.1)).Nodup) (k3 : ∀ p ∈ W, p.1 < 65536 ∧ TupOk ad p.1 p.2 H) {x : Nat} (hx : x < 65536) (hW : W.lookup x = none) {p : Addr} (hp : H p = none) {c : Ac} {b : Bool}
    (e : actOf (x / 4096) (x / 256 % 16) (x % 256) = some (c, b)) {l : List V} (hl : l = [.ref (ad c), .int ((x / 256 % 16 : Nat) : Int), .int ((x % 256 / 16 : Nat) : Int), .int ((x % 256 : Nat) : Int), .bl b]) :
    Full C ad a m0 M w (upd (upd H p (.tup l)) a.kn (.dK (knL (W ++ [(x, p)])))) ∧ Fra2 a H (upd (upd H p (.tup l)) a.kn (.dK (knL (W ++ [(x, p)])))) ∧ (upd (upd H p (.tup l)) a.kn (.dK (knL (W ++ [(x, p)])))) p = some (.tup l) := by
  obtain ⟨T, t1, t2⟩ := F.td
  have ex : Ext H (upd H p (.tup l)) := Ext.new hp
  have n0 : p ≠ a.kn := fun q => by rw [q, k1] at hp; cases hp
  have q1 : a.p ≠ a.kn := ne_of F.ob k1 (by intro q; cases q)
  have q2 : a.rg ≠ a.kn := ne_of F.rg k1 (by intro q; cases q)
  have q3 : a.me ≠ a.kn := ne_of F.me k1 (by intro q; cases q)
  have q4 : a.td ≠ a.kn := Ne.symm F.n2
  have st : ∀ b o, b ≠ a.kn → H b = some o → (upd (upd H p (.tup l)) a.kn (.dK (knL (W ++ [(x, p)])))) b = some o := fun b o hb h => by rw [upd_ne hb]; exact ex b o h
  have hpp : (upd (upd H p (.tup l)) a.kn (.dK (knL (W ++ [(x, p)])))) p = some (.tup l) := by rw [upd_ne n0, upd_same]
  refine ⟨⟨⟨⟨st _ _ q1 F.ob, st _ _ q2 F.rg, F.good⟩, st _ _ q3 F.me, ⟨T, st _ _ q4 t1, t2⟩, F.n1⟩, ⟨W ++ [(x, p)], upd_same, ?_, fun r hr => ?_⟩, F.n2⟩, fun b o _ _ _ _ h5 h => st b o h5 h, hpp⟩
  · rw [List.map_append]
    exact nd_snoc k2 (look_none hW)
  · rcases List.mem_append.mp hr with hr | hr
    · obtain ⟨h1, c', b', e1, e2⟩ := k3 r hr
      exact ⟨h1, c', b', e1, st _ _ (ne_of e2 k1 (by intro q; cases q)) e2⟩
    · rw [List.mem_singleton.mp hr]
      exact ⟨hx, c, b, e, by rw [hpp, hl]⟩
end
def clsOf (xs : Xs) (c : Nat) : Addr := if c = 1 then xs.ni else if c = 2 then xs.bj else if c = 3 then xs.nm else xs.nw
def stepQ (C : Addr) (ad : Ac → Addr) (xs : Xs) (a : Ad) (m0 : Nat → Nat) (M0 : Ra28.M) (H : Hp) (Q : VK) (E : XK) : Eff → Prop
  | .nx M w => ∀ H', Full C ad a m0 (Ra28.next M) w H' → Fra2 a H H' → Q .non H'
  | .jp M t => ∀ H', Full C ad a m0 (Ra28.jump M t) 0 H' → Fra2 a H H' → Q .non H'
  | .ex c => ∀ H', Full C ad a m0 M0 0 H' → Fra2 a H H' → E (.ref (clsOf xs c)) none H'
def spStep (C : Addr) (ad : Ac → Addr) (xs : Xs) : Sp := fun vs H Q E => ∃ (a : Ad) (m0 : Nat → Nat) (M : Ra28.M), vs = [.ref a.p] ∧ Full C ad a m0 M 0 H ∧ stepQ C ad xs a m0 M H Q E (stepE M)
def Acts (P : Program) (w : World) (K : PySem.W.Frag) (mg : Str → Option Value) (base : Heap) (C : Addr) (xs : Xs) (ad : Ac → Addr) : Prop := ∀ c : Ac, ∃ fd : FuncData, PySem.W.keepIn K (.ref (ad c)) = true ∧ Binds K fd P4 [] ∧ FnOk P w K mg base (CXE P w) 6 (ad c) fd P4 (spA C xs c)
section
variable {X : Cx} {σ : L2.St} {H : Hp} {e ek : Expr} {es : List Expr} {x : Str} {p pos : Pos} {v : V} {vs : List V} {k : Nat} {f : Addr} {fd : FuncData} {ps : List Str} {sp : Sp} {E : XK}
theorem pe_cv (F : FnOk X.prog X.w X.K X.mg X.base (CXE X.prog X.w) k f fd ps sp) (hk : PySem.W.keepIn X.K (.ref f) = true) (hb : Binds X.K fd ps []) (hr : Room k X.A) (hx : Passes (CXE X.prog X.w) X E) (hf : Ev X σ H (.Name x p) (.ref f)) (ha : EvA X σ H (e :: es) vs)
    (he : starEach (e :: es) X.env = (false, eval e X.env) :: starEach es X.env := by rfl) (hpl : (backTo pos (starEach es X.env)).any (·.1) = false := by rfl) : PE X (.Call (.Name x p) (e :: es) [] pos) (fun σ' H' Q => σ' = σ ∧ H' = H ∧ sp vs H Q E) := by
  intro pins s σ' H' Q I q
  obtain ⟨rfl, rfl, q⟩ := q
  refine wpAny_Call_Name_kw (thn (hf pins s _ _ (fun v H1 => v = .ref f ∧ H1 = H') I ⟨rfl, rfl, rfl, rfl⟩) fun u s1 ⟨y, H1, I1, ry, e1, e2⟩ => ?_)
  subst e1 e2
  obtain rfl : u = Value.ref f := ry
  refine PySem.W.callWith_K (h₀ := X.base) I.ok.mod.kin hk (thn (ha pos pins s1 _ _ (fun ws H2 => ws = vs ∧ H2 = H1) I1 ⟨rfl, rfl, rfl, rfl⟩) fun us s2 ⟨ws, H2, I2, r, e1, e2⟩ => ⟨I2.kIn, ?_⟩) he hpl
  subst e1 e2
  exact run_fn (dvs := []) F hr hb .nil hx I2 r (by rw [List.append_nil]; exact q)
theorem do_setcv (i : Nat) {y : Str} {ss : List Stmt} {D : Ends} {pos' pos'' : Pos} (nd : X.N.Nodup) (F : FnOk X.prog X.w X.K X.mg X.base (CXE X.prog X.w) k f fd ps sp) (hk : PySem.W.keepIn X.K (.ref f) = true) (hb : Binds X.K fd ps []) (hr : Room k X.A) (hx : Passes (CXE X.prog X.w) X E) (hf : Ev X σ H (.Name x p) (.ref f)) (ha : EvA X σ H (e :: es) vs)
    (h : sp vs H (fun v H' => Do X ss D (σ.set i (some v)) H') E) (hi : X.N[i]? = some y := by rfl) (hl : Loc X.env.scope y := by exact Or.inl rfl)
    (he : starEach (e :: es) X.env = (false, eval e X.env) :: starEach es X.env := by rfl) (hpl : (backTo pos (starEach es X.env)).any (·.1) = false := by rfl) (hs : swapsWith (.Call (.Name x p) (e :: es) [] pos) (some (.Name y pos'')) pos'.line X.env = pure false := by rfl)
    (hfn : X.fn y = true ∨ X.env.scope.names.lookup y = some .local := by first | exact .inl rfl | exact .inr rfl | assumption) : Do X (.Assign [.Name y pos''] (.Call (.Name x p) (e :: es) [] pos) pos' :: ss) D σ H :=
  do_cons (ps_set (i := i) nd hi hl (pe_cv F hk hb hr hx hf ha he hpl) hs hfn) ⟨rfl, rfl, h⟩
theorem ev_tup {p' : Addr} {xs : List V} {n : Nat} (h : H p' = some (.tup xs)) (he : Ev X σ H e (.ref p')) (hk : Ev X σ H ek (.int (n : Nat))) (hv : xs[n]? = some v) (hs : NoSl ek := by exact fun _ _ => rfl) : Ev X σ H (.Subscript e ek pos) v :=
  ev_of (pe_ix ix_tup he hk hs) fun Q q => ⟨rfl, rfl, rfl, rfl, p', xs, n, v, rfl, rfl, SqT.of h, atI_nat hv, q⟩
end
section
variable {P : Program} {w : World} {K : PySem.W.Frag} {mg : Str → Option Value} {base : Heap} {f C : Addr} {xs : Xs} {fd : FuncData} {ad : Ac → Addr}
theorem sc_step : FnScope ["machine", "place", "word", "known", "act", "target"] ["machine"] (defScope (top 168)) := ⟨rfl, rfl, rfl, by decide +kernel, rfl, by decide +kernel, by decide +kernel⟩
theorem ok_step (F : Fun K "step" "step" (top 168) f fd) (T : Tx K mg C) (xt : XT K xs) (gm : Cal P w K mg base "meaning" ["word"] (spMean ad xs) 3) (GA : Acts P w K mg base C xs ad) : FnOk P w K mg base (CXE P w) 8 f fd ["machine"] (spStep C ad xs) := by
  refine fn_do F sc_step (fun vs H Q E h => ?_) (fun cdv A outer s H vs Q E hr h => ?_)
  · obtain ⟨a, m0, M, rfl, _⟩ := h; rfl
  · obtain ⟨a, m0, M, rfl, FL, kk⟩ := h
    have nd := sc_step.nd
    have R := FL.toRep
    have R0 := R.toRepC
    have g := R.good
    unfold stepE at kk
    refine do_set 1 nd (ev_place T R0 (ev_v 0)) ?_
    refine do_if ((tt_int ((ev_and (ev_v 1) ev_int).int (low1 M.pc))).eq (show _ = decide (M.pc % 2 = 1) by rw [← beq_dec]; cases (M.pc % 2 == 1) <;> rfl)) (fun h => ?_) (fun h => ?_)
    · rw [if_pos (of_decide_eq_true h)] at kk
      exact do_cons (ps_raise PySem.F.excBase_Exception xt.nm xt.xnm rfl) (kk H FL (Fra2.refl _ _))
    rw [if_neg (of_decide_eq_false h)] at kk
    have h0 : M.pc % 2 = 0 := by have := of_decide_eq_false h; omega
    refine do_nil ?_
    refine do_if ((tt_ge (ev_v 1) (ev_num T.SIZE)).eq (show decide ((65536 : Int) ≤ (M.pc : Int)) = decide (65536 < M.pc + 2) from decide_eq_decide.mpr (by omega))) (fun h => ?_) (fun h => ?_)
    · rw [if_pos (of_decide_eq_true h)] at kk
      exact do_cons (ps_raise PySem.F.excBase_Exception xt.nw xt.xnw rfl) (kk H FL (Fra2.refl _ _))
    rw [if_neg (of_decide_eq_false h)] at kk
    have hpc : M.pc + 2 ≤ 65536 := by have := of_decide_eq_false h; omega
    refine do_nil ?_
    have b0 := g.mem M.pc
    have b1 := g.mem (M.pc + 1)
    have ex : Builtin.bitOr ((M.mem M.pc : Int) * 2 ^ (8 : Int).toNat) (M.mem (M.pc + 1) : Int) = ((Ra28.get M M.pc 2 : Nat) : Int) := by
      have e1 : ((M.mem M.pc : Int) * 2 ^ (8 : Int).toNat) = ((M.mem M.pc * 2 ^ 8 : Nat) : Int) := by simp
      rw [e1, or_nn, or_add _ _ _ (by omega), get2]
    have hx : Ra28.get M M.pc 2 < 65536 := by rw [get2]; omega
    refine do_set 2 nd ((ev_or (ev_shl (ev_mem (n := M.pc) R (ev_memory T R0 (ev_v 0)) (ev_v 1) (by omega)) ev_int (cpow (by omega) (by decide) (by decide))) (ev_mem (n := M.pc + 1) R (ev_memory T R0 (ev_v 0)) ((ev_add (ev_v 1) ev_int).int (by omega)) (by omega))).int ex) ?_
    clear ex
    generalize hxx : Ra28.get M M.pc 2 = x at *
    have fin : ∀ (H1 : Hp) (p : Addr) (c : Ac) (b : Bool), Full C ad a m0 M 0 H1 → Fra2 a H H1 → actOf (x / 4096) (x / 256 % 16) (x % 256) = some (c, b) →
        H1 p = some (.tup [.ref (ad c), .int ((x / 256 % 16 : Nat) : Int), .int ((x % 256 / 16 : Nat) : Int), .int ((x % 256 : Nat) : Int), .bl b]) →
        Do (cxE P w K mg base ["machine", "place", "word", "known", "act", "target"] "step" (defScope (top 168)) f cdv A outer s H E) ((defBody (top 168)).drop 6) { nx := fun _ H' => Q .non H', rt := Q }
          [some (.ref a.p), some (.int M.pc), some (.int x), some (.ref p), none, none] H1 := by
      intro H1 p c b F1 f1 ea hp
      rw [ea] at kk
      have S1 := F1.toRep
      have S0 := S1.toRepC
      refine do_if ((tt_and (tt_bl (ev_tup (n := 4) hp (ev_v 3) ev_int rfl)) (tt_bl (ev_waiting T S0 (ev_v 0)))).eq (show (b && M.slot) = decide (M.slot = true ∧ b = true) by cases b <;> cases M.slot <;> rfl)) (fun h => ?_) (fun h => ?_)
      · have kk : stepQ C ad xs a m0 M H Q E (if M.slot = true ∧ b = true then .ex 2 else effA c M (x / 256 % 16) (x % 256 / 16) (x % 256)) := kk
        rw [if_pos (of_decide_eq_true h)] at kk
        exact do_cons (ps_raise PySem.F.excBase_Exception xt.bj xt.xbj rfl) (kk H1 F1 f1)
      have kk : stepQ C ad xs a m0 M H Q E (if M.slot = true ∧ b = true then .ex 2 else effA c M (x / 256 % 16) (x % 256 / 16) (x % 256)) := kk
      rw [if_neg (of_decide_eq_false h)] at kk
      refine do_nil ?_
      refine do_set 4 nd (ev_tup (n := 0) hp (ev_v 3) ev_int rfl) ?_
      obtain ⟨fd', hkp, hbd, FA⟩ := GA c
      have hj := jp_act c g (x / 256 % 16) (x % 256 / 16) (x % 256)
      have ho := okE_act c M (x / 256 % 16) (x % 256 / 16) (x % 256)
      refine do_setcv 5 nd FA hkp hbd (hr.mono (by decide)) passE (ev_v 4) (ea_cons (ev_v 0) (ea_cons (ev_tup (n := 1) hp (ev_v 3) ev_int rfl) (ea_cons (ev_tup (n := 2) hp (ev_v 3) ev_int rfl) (ea_cons (ev_tup (n := 3) hp (ev_v 3) ev_int rfl) ea_nil)))) ?_
      refine ⟨a, m0, M, x / 256 % 16, x % 256 / 16, x % 256, rfl, S1, by omega, by omega, by omega, rfl, by omega, ok_word hx ea, ?_⟩
      generalize effA c M (x / 256 % 16) (x % 256 / 16) (x % 256) = eff at *
      cases eff with
      | ex c' =>
        have e3 : clsOf xs c' = if c' = 3 then xs.nm else xs.nw := by
          have hj : c' = 3 ∨ c' = 4 := hj
          rcases hj with rfl | rfl <;> rfl
        show E (.ref (if c' = 3 then xs.nm else xs.nw)) none H1
        rw [← e3]
        exact kk H1 F1 f1
      | nx M' w' =>
        intro H2 R2 f2
        have R20 := R2.toRepC
        refine do_f fw_place M'.npc T.cl T.nPlace R20 (ev_follow T R20 (ev_v 0)) (ev_v 0) R2.good.npc fun H3 R3 c3 => ?_
        refine do_if ((tt_isN (ev_v 5)).eq (show _ = true from rfl)) (fun _ => ?_) (fun h => by cases h)
        refine do_f fw_follow ((M'.npc + 2) % 4294967296) T.cl T.nFollow R3 ((ev_and (ev_add (ev_place T R3 (ev_v 0)) ev_int) (ev_num T.MASK)).int (plus_eq _ 2)) (ev_v 0) (Nat.mod_lt _ (by decide)) fun H4 R4 c4 => ?_
        refine do_f fw_waiting false T.cl T.nWait R4 ev_bl (ev_v 0) trivial fun H5 R5 c5 => ?_
        have cc := c3.trans (c4.trans c5)
        exact do_nil (do_nil (kk H5 (F1.go (R2.chg R5 cc rfl) (f2.trans cc.fra)) (f1.trans (f2.trans cc.fra).two)))
      | jp M' t =>
        intro H2 R2 f2
        have R20 := R2.toRepC
        refine do_f fw_place M'.npc T.cl T.nPlace R20 (ev_follow T R20 (ev_v 0)) (ev_v 0) R2.good.npc fun H3 R3 c3 => ?_
        refine do_if ((tt_isN (ev_v 5)).eq (show _ = false from rfl)) (fun h => by cases h) (fun _ => ?_)
        refine do_f fw_follow t T.cl T.nFollow R3 (ev_v 5) (ev_v 0) hj fun H4 R4 c4 => ?_
        refine do_f fw_waiting true T.cl T.nWait R4 ev_bl (ev_v 0) trivial fun H5 R5 c5 => ?_
        have cc := c3.trans (c4.trans c5)
        exact do_nil (do_nil (kk H5 (F1.go (R2.chg R5 cc rfl) (f2.trans cc.fra)) (f1.trans (f2.trans cc.fra).two)))
    obtain ⟨W, k1, k2, k3⟩ := FL.kn
    refine do_cons (ps_set (i := 3) nd rfl (Or.inl rfl) (pe_dget1 (hu_of hr) (f_known T a (pv 0)) (pv 2) ⟨rfl, rfl, rfl, rfl⟩)) ?_
    refine ⟨_, rfl, M, 0, rfl, R0, a.kn, rfl, .inl ⟨_, .inl k1⟩, _, rfl, _, DGet.k (k := Sum.inl (x : Int)) k1, ?_⟩
    rw [kn_val]
    cases hW : W.lookup x with
    | some p =>
      obtain ⟨_, c, b, e1, e2⟩ := k3 _ (look_mem hW)
      refine do_if ((tt_isN (ev_v 3)).eq (show _ = false from rfl)) (fun h => by cases h) (fun _ => ?_)
      exact do_nil (fin H p c b FL (Fra2.refl _ _) e1 e2)
    | none =>
      refine do_if ((tt_isN (ev_v 3)).eq (show _ = true from rfl)) (fun _ => ?_) (fun h => by cases h)
      refine do_setc 3 nd gm (hr.mono (by decide)) passE (ea_cons (ev_v 2) ea_nil) ⟨x, rfl, hx, ?_⟩
      cases ea : actOf (x / 4096) (x / 256 % 16) (x % 256) with
      | none =>
        rw [ea] at kk
        exact kk H FL (Fra2.refl _ _)
      | some cb =>
        obtain ⟨c, b⟩ := cb
        intro p hp
        have R1 := R0.ext (Ext.new (o := .tup [.ref (ad c), .int ((x / 256 % 16 : Nat) : Int), .int ((x % 256 / 16 : Nat) : Int), .int ((x % 256 : Nat) : Int), .bl b]) hp)
        obtain ⟨l1, l2, l3⟩ := FL.learn k1 k2 k3 hx hW hp ea rfl
        have hne : a.kn ≠ p := fun q => by rw [← q, k1] at hp; cases hp
        have hl : (knL W).length < sizeLine := by
          rw [List.length_map, ← List.length_map (f := fun p : Nat × Addr => p.1)]
          exact Nat.lt_of_le_of_lt (nodup_len 65536 _ k2 (fun k hk => by obtain ⟨q, hq, e⟩ := List.mem_map.mp hk; rw [← e]; exact (k3 q hq).1)) (by decide)
        refine do_cons (ps_dput (hu_of hr) (f_known T a (pv 0)) (pv 2) (pv 3) rfl) ?_
        refine ⟨_, rfl, _, rfl, M, 0, rfl, R1, _, rfl, a.kn, _, rfl, DPut.k (k := Sum.inl (x : Int)) (by rw [upd_ne hne]; exact k1) hl, ?_⟩
        have e4 : putK (knL W) (Sum.inl (x : Int)) (V.ref p) = knL (W ++ [(x, p)]) := by
          rw [putK_new _ (by rw [kn_val, hW]; rfl)]
          unfold knL
          rw [List.map_append]
          rfl
        rw [e4]
        exact do_nil (fin _ p c b l1 l2 ea l3)
end
end Sh
namespace Sh
open PySem PyProof.Rows L2
theorem XM.inj {K : PySem.W.Frag} {xs : Xs} (x : XM K xs) {i j : Nat} (hi : 1 ≤ i) (hi' : i < 5) (hj : 1 ≤ j) (hj' : j < 5) (e : clsOf xs i = clsOf xs j) : i = j := by
  have no : ∀ {p q r : Addr}, PySem.W.exmOne K (.ref p) (.ref p) = some true → PySem.W.exmOne K (.ref q) (.ref p) = some false → q = p → False := fun h1 h2 e => by subst e; rw [h1] at h2; cases h2
  have h1 : i = 1 ∨ i = 2 ∨ i = 3 ∨ i = 4 := by omega
  have h2 : j = 1 ∨ j = 2 ∨ j = 3 ∨ j = 4 := by omega
  rcases h1 with rfl | rfl | rfl | rfl <;> rcases h2 with rfl | rfl | rfl | rfl <;> first | rfl | exfalso
  · exact no (r := 0) x.e11 x.e21 e.symm
  · exact no (r := 0) x.e11 x.e31 e.symm
  · exact no (r := 0) x.e11 x.e41 e.symm
  · exact no (r := 0) x.e11 x.e21 e
  · exact no (r := 0) x.e22 x.e32 e.symm
  · exact no (r := 0) x.e22 x.e42 e.symm
  · exact no (r := 0) x.e11 x.e31 e
  · exact no (r := 0) x.e22 x.e32 e
  · exact no (r := 0) x.e33 x.e43 e.symm
  · exact no (r := 0) x.e11 x.e41 e
  · exact no (r := 0) x.e22 x.e42 e
  · exact no (r := 0) x.e33 x.e43 e
theorem run_on {M M' : Ra28.M} {n d : Nat} (h : Ra28.step M = .on M') : Ra28.run (n + 1) d M = Ra28.run n (d + 1) M' := by
  show (match Ra28.step M with | .on m => Ra28.run n (d + 1) m | .stop w m => (m, w, if 5 ≤ w then d + 1 else d)) = _
  rw [h]
theorem run_stop {M M' : Ra28.M} {n d w : Nat} (h : Ra28.step M = .stop w M') : Ra28.run (n + 1) d M = (M', w, if 5 ≤ w then d + 1 else d) := by
  show (match Ra28.step M with | .on m => Ra28.run n (d + 1) m | .stop w m => (m, w, if 5 ≤ w then d + 1 else d)) = _
  rw [h]
def spDo (C : Addr) (ad : Ac → Addr) (xs : Xs) : Sp := fun vs H Q _ => ∃ (a : Ad) (m0 : Nat → Nat) (M : Ra28.M) (n : Nat), vs = [.ref a.p, .int n] ∧ Full C ad a m0 M 0 H ∧
  ∀ H', Full C ad a m0 (Ra28.run n 0 M).1 (Ra28.run n 0 M).2.1 H' → Fra2 a H H' → Q (.int (((Ra28.run n 0 M).2.2 : Nat) : Int)) H'
section
variable {P : Program} {w : World} {K : PySem.W.Frag} {mg : Str → Option Value} {base : Heap} {f C : Addr} {xs : Xs} {fd : FuncData} {ad : Ac → Addr}
theorem Full.why (F : Full C ad a m0 M w' H) (R' : RepC C a M w'' H') (c : Chg a H H') : Full C ad a m0 M w'' H' := F.go (F.toRep.chg R' c rfl) c.fra
theorem sc_do : FnScope ["machine", "steps", "done"] ["machine", "steps"] (defScope (top 169)) := ⟨rfl, rfl, rfl, by decide +kernel, rfl, by decide +kernel, by decide +kernel⟩
theorem ok_do (F : Fun K "do_steps" "do_steps" (top 169) f fd) (T : Tx K mg C) (hni : mg "NoInstruction" = some (.ref xs.ni)) (hbj : mg "BehindJump" = some (.ref xs.bj)) (hnm : mg "NotMultiple" = some (.ref xs.nm)) (hnw : mg "NotWithin" = some (.ref xs.nw)) (xm : XM K xs)
    (gs : Cal P w K mg base "step" ["machine"] (spStep C ad xs) 8) : FnOk P w K mg base (CXE P w) 9 f fd ["machine", "steps"] (spDo C ad xs) := by
  refine fn_do F sc_do (fun vs H Q E h => ?_) (fun cdv A outer s H vs Q E hr h => ?_)
  · obtain ⟨a, m0, M, n, rfl, _⟩ := h; rfl
  · obtain ⟨a, m0, M, n, rfl, FL, kk⟩ := h
    have nd := sc_do.nd
    generalize hZ : Ra28.run n 0 M = Z at kk
    refine do_set 2 nd ev_int ?_
    obtain ⟨fs, fds, hm, hk, hb, FS⟩ := gs
    let Ex : Value → L2.St → Hp → Prop := fun c σ H1 => ∃ (k : Nat) (M1 : Ra28.M) (d : Nat), 1 ≤ k ∧ k < 5 ∧ c = .ref (clsOf xs k) ∧ σ = [some (.ref a.p), some (.int n), some (.int d)] ∧ Full C ad a m0 M1 0 H1 ∧ Fra2 a H H1 ∧ Z = (M1, k, d)
    let th : Value → TS := fun c D σ H1 => Ex c σ H1 ∧ ∀ σ' H' (M1 : Ra28.M) (k d : Nat), σ' = [some (.ref a.p), some (.int n), some (.int d)] → Full C ad a m0 M1 k H' → Fra2 a H H' → Z = (M1, k, d) → D.nx σ' H'
    have hand : ∀ (k : Nat) (_ : 1 ≤ k) (_ : k < 5) (e : Value) (st : Stmt) (p1 p2 p3 p4 : Pos) (l : Nat), st = .Assign [.Attribute (.Name "machine" p1) "why" p2] (.Constant (.int k) l p3) p4 →
        PSs (Cx.inSuite (cxE P w K mg base ["machine", "steps", "done"] "do_steps" (defScope (top 169)) f cdv A outer s H E) e) [st] (th (.ref (clsOf xs k))) := by
      intro k h1 h2 e st p1 p2 p3 p4 l est pins s' σ H1 D I q
      obtain ⟨⟨k', M1, d, g1, g2, ec, rfl, F1, f1, ez⟩, q⟩ := q
      have ek : k = k' := xm.inj h1 h2 g1 g2 (by have := Value.ref.inj ec; exact this)
      subst ek est
      refine do_f fw_why k T.cl T.nWhy F1.toRepC ev_int (ev_v 0) trivial (fun H2 R2 c2 => do_nil (q _ H2 M1 k d rfl (F1.why R2 c2) (f1.trans c2.fra.two) ez)) rfl pins s' I
    refine do_cons (ps_try (Ex := Ex) (th := th) ⟨rfl, rfl⟩ [xs.ni, xs.bj, xs.nm, xs.nw] ?hcs ?hh (fun pn xe hpo hpx => pss_one (ps_while hpo (pw_and (pt_cmpR op_lt (pv 2) (pv 1) (nomark _)) (pw_and1 (pt_cmpR op_eq (f_why T a (pv 0)) pe_int (nomark _)))).pt (pss_cons (ps_expr (pe_callX FS (hr.mono (by decide)) rfl hm hk hb hpx (pa_cons (pv 0) pa_nil))) (pss_one (ps_aug (i := 2) nd rfl (Or.inl rfl) pe_int ip_add)))))) ?hk
    case hcs =>
      rintro c σ H1 ⟨k, M1, d, h1, h2, rfl, _⟩
      refine ⟨_, rfl, ?_⟩
      have : k = 1 ∨ k = 2 ∨ k = 3 ∨ k = 4 := by omega
      rcases this with rfl | rfl | rfl | rfl <;> simp [clsOf]
    case hh =>
      intro C' hC
      have : C' = xs.ni ∨ C' = xs.bj ∨ C' = xs.nm ∨ C' = xs.nw := by simpa using hC
      rcases this with rfl | rfl | rfl | rfl
      · exact hands_at rfl hni xm.e11 (fun _ e => hand 1 (by decide) (by decide) e _ _ _ _ _ _ rfl) (fun h => by cases h)
      · exact hands_at rfl hni xm.e21 (fun h => by cases h) (fun _ => hands_at rfl hbj xm.e22 (fun _ e => hand 2 (by decide) (by decide) e _ _ _ _ _ _ rfl) (fun h => by cases h))
      · exact hands_at rfl hni xm.e31 (fun h => by cases h) (fun _ => hands_at rfl hbj xm.e32 (fun h => by cases h) (fun _ => hands_at rfl hnm xm.e33 (fun _ e => hand 3 (by decide) (by decide) e _ _ _ _ _ _ rfl) (fun h => by cases h)))
      · exact hands_at rfl hni xm.e41 (fun h => by cases h) (fun _ => hands_at rfl hbj xm.e42 (fun h => by cases h) (fun _ => hands_at rfl hnm xm.e43 (fun h => by cases h) (fun _ => hands_at rfl hnw xm.e44 (fun _ e => hand 4 (by decide) (by decide) e _ _ _ _ _ _ rfl) (fun h => by cases h))))
    case hk =>
      have fin : ∀ (H1 : Hp) (M1 : Ra28.M) (k d : Nat), Full C ad a m0 M1 k H1 → Fra2 a H H1 → Z = (M1, k, d) → Do (cxE P w K mg base ["machine", "steps", "done"] "do_steps" (defScope (top 169)) f cdv A outer s H E) ((defBody (top 169)).drop 2) { nx := fun _ H' => Q .non H', rt := Q } [some (.ref a.p), some (.int n), some (.int d)] H1 := by
        intro H1 M1 k d F1 f1 ez
        rw [ez] at kk
        exact do_ret (ev_v 2) (kk H1 F1 f1)
      refine ⟨fun c σ' H' hE => ⟨hE, fun σ2 H2 M1 k d e F1 f1 ez => by subst e; exact fin H2 M1 k d F1 f1 ez⟩, ?_⟩
      refine ⟨fun m σ' H' => ∃ (M1 : Ra28.M) (w1 d1 : Nat), σ' = [some (.ref a.p), some (.int n), some (.int d1)] ∧ Full C ad a m0 M1 w1 H' ∧ Fra2 a H H' ∧ d1 ≤ n ∧ (w1 = 0 → Ra28.run (n - d1) d1 M1 = Z) ∧ (w1 ≠ 0 → Z = (M1, w1, d1)) ∧ m = if w1 = 0 then n - d1 + 1 else 0, ⟨n + 1, M, 0, 0, rfl, FL, Fra2.refl _ _, Nat.zero_le _, fun _ => hZ, fun h => absurd rfl h, rfl⟩, ?_⟩
      rintro m σ' H1 ⟨M1, w1, d1, rfl, F1, f1, hd, hz1, hz2, rfl⟩
      refine ⟨_, rfl, _, rfl, _, _, rfl, rfl, _, rfl, ?_⟩
      by_cases hlt : d1 < n
      · refine ite_t (decide_eq_true (by omega)) ?_
        refine ⟨_, rfl, M1, w1, rfl, F1.toRepC, rfl, _, rfl, ?_⟩
        by_cases hw : w1 = 0
        · subst hw
          refine ite_t rfl ?_
          refine ⟨fun σ2 H2 => ∃ m', m' < n - d1 + 1 ∧ ∃ (M1 : Ra28.M) (w1 d1 : Nat), σ2 = [some (.ref a.p), some (.int n), some (.int d1)] ∧ Full C ad a m0 M1 w1 H2 ∧ Fra2 a H H2 ∧ d1 ≤ n ∧ (w1 = 0 → Ra28.run (n - d1) d1 M1 = Z) ∧ (w1 ≠ 0 → Z = (M1, w1, d1)) ∧ m' = if w1 = 0 then n - d1 + 1 else 0, fun σ2 H2 h => h, ?_⟩
          refine ⟨_, rfl, a, m0, M1, rfl, F1, ?_⟩
          have hz := hz1 rfl
          have en : n - d1 = (n - (d1 + 1)) + 1 := by omega
          rw [en] at hz
          have gs := go_step M1 F1.good.mem
          have ho := okE_step M1
          cases he : stepE M1 with
          | nx M' w' =>
            rw [he] at gs ho
            intro H2 F2 f2
            refine ⟨_, rfl, _, _, rfl, rfl, ?_⟩
            by_cases hw' : w' = 0
            · subst hw'
              exact ⟨n - (d1 + 1) + 1, by omega, Ra28.next M', 0, d1 + 1, rfl, F2, f1.trans f2, by omega, fun _ => by rw [← hz, run_on gs.symm], fun h => absurd rfl h, rfl⟩
            · have h5 : 5 ≤ w' := ho.resolve_left hw'
              obtain ⟨v, rfl⟩ : ∃ v, w' = v + 1 := ⟨w' - 1, by omega⟩
              exact ⟨0, by omega, Ra28.next M', v + 1, d1 + 1, rfl, F2, f1.trans f2, by omega, fun h => absurd h hw', fun _ => by rw [← hz, run_stop gs.symm, if_pos h5], by rw [if_neg hw']⟩
          | jp M' t =>
            rw [he] at gs
            intro H2 F2 f2
            refine ⟨_, rfl, _, _, rfl, rfl, ?_⟩
            exact ⟨n - (d1 + 1) + 1, by omega, Ra28.jump M' t, 0, d1 + 1, rfl, F2, f1.trans f2, by omega, fun _ => by rw [← hz, run_on gs.symm], fun h => absurd rfl h, rfl⟩
          | ex c =>
            rw [he] at gs ho
            intro H2 F2 f2
            exact ⟨c, M1, d1, ho.1, ho.2, rfl, rfl, F2, f1.trans f2, by rw [← hz, run_stop gs.symm, if_neg (by have := ho.2; omega)]⟩
        · refine ite_f (by rw [decide_eq_true_eq]; intro z; exact hw (by have := V.int.inj z; omega)) ?_
          exact fin H1 M1 w1 d1 F1 f1 (hz2 hw)
      · refine ite_f (by rw [decide_eq_true_eq]; omega) ?_
        refine ite_f (by decide) ?_
        by_cases hw : w1 = 0
        · subst hw
          have e0 : n - d1 = 0 := by omega
          have hz := hz1 rfl
          rw [e0] at hz
          exact fin H1 M1 0 d1 F1 f1 hz.symm
        · exact fin H1 M1 w1 d1 F1 f1 (hz2 hw)
end
end Sh
namespace Sh
open PySem PyProof.Rows L2
theorem laidN {X : Cx} {pins : List (Addr × Obj)} {σ : L2.St} {H : Hp} {s : Shared} {h' : Heap} {a : Addr} {o : HO} {t' : Nat} (I : Inv X pins σ H s) (k : ∀ b u, s.heap.get? b = some u → h'.get? b = some u) (hp : s.heap.get? a = none) (new : ObjOk X.prog X.w (upd H a o) h' a o) :
    H a = none ∧ Inv X pins σ (upd H a o) { s with heap := h', toks := t' } := by
  have hn : H a = none := by
    cases q : H a with
    | none => rfl
    | some u =>
      obtain ⟨v, hv⟩ := (I.hok a u q).thr
      rw [hp] at hv; cases hv
  have nb : ∀ b u, H b = some u → b ≠ a := fun b u q z => by rw [z, hn] at q; cases q
  refine ⟨hn, I.un ⟨fun b u q _ _ _ => k b u q, fun b u q _ _ _ => ⟨u.slots, k b u q⟩, fun b u q n _ => ?_, fun b u q _ => ⟨u, k b u q⟩, fun b l q => ?_, fun b u l q => ?_, fun b l q => ⟨#[], ?_⟩⟩ fun b u e => ?_⟩
  · rw [upd_ne (fun z => by rw [z, hp] at q; cases q)]; exact n
  · rw [upd_ne (nb b _ q)]; exact q
  · rw [upd_ne (nb b _ q)]; exact q
  · rw [upd_ne (nb b _ q), q]; simp
  · by_cases hb : b = a
    · subst hb
      rw [upd_same] at e
      cases e
      exact new
    · rw [upd_ne hb] at e
      exact (I.hok b u e).stay (fun c v _ q => k c v q) (fun c q => by rw [upd_ne (nb c _ q)]; exact q) fun c l q => by rw [upd_ne (nb c _ q)]; exact q
theorem ints_items {kvs : List (Key × Value)} : ∀ {T : List Nat} {vs : List Value}, vs.length = T.length → (∀ (j : Nat) (v : Value), vs[j]? = some v → ∃ k x, kvs[j]? = some (k, x) ∧ keyIs k v = true) → (kvs.map (·.1)) = T.map (fun (k : Nat) => (Sum.inl (k : Int) : Key)) → IntsAre vs (T.map fun (k : Nat) => (k : Int)) := by
  intro T
  induction T generalizing kvs with
  | nil => intro vs hl _ _; cases vs with
    | nil => exact .nil
    | cons v r => cases hl
  | cons t r ih =>
    intro vs hl hv hk
    cases vs with
    | nil => cases hl
    | cons v vs =>
      cases kvs with
      | nil => cases hk
      | cons q kvs =>
        rw [List.map_cons, List.map_cons] at hk
        injection hk with h1 h2
        obtain ⟨k, x, e1, e2⟩ := hv 0 v rfl
        cases e1
        have h1' : k = Sum.inl (t : Int) := h1
        subst h1'
        rcases keyIs_shape e2 with ⟨i, tk, e3, e4⟩ | ⟨y, tk, e3, e4⟩
        · cases e3
          subst e4
          exact .cons _ _ (ih (kvs := kvs) (by simpa using hl) (fun j v e => hv (j + 1) v (by simpa using e)) h2)
        · cases e3
theorem kv_keys {T : List Nat} : ∀ {kvs : List (Key × Value)}, KV (tdL T) kvs → kvs.map (·.1) = T.map (fun (k : Nat) => (Sum.inl (k : Int) : Key)) := by
  induction T with
  | nil => intro kvs r; cases r; rfl
  | cons t r ih =>
    intro kvs q
    cases q with
    | cons h t => rw [List.map_cons, List.map_cons, ← h.1, ih t]
def rSortT : List V → Hp → VK → Prop := fun vs H Q => ∃ (a : Addr) (T : List Nat), vs = [V.ref a] ∧ H a = some (.dK (tdL T)) ∧
  ∀ (ns : List Int) (p : Addr), ns.Perm (T.map fun (k : Nat) => (k : Int)) → ns.Pairwise (· ≤ ·) → H p = none → Q (.ref p) (upd H p (.lst (ns.map V.int)))
theorem cr_sortT {X : Cx} (hc : X.calm = true) : CallR X (.builtin "sorted") rSortT := by
  intro pins s σ H vs us Q I r h
  obtain ⟨a, T, rfl, ha, q⟩ := h
  rw [Vals.ref1 r]
  obtain ⟨hz, hS, kvs, rel, dd⟩ := dk_rd I.hok (.inl ha)
  obtain ⟨ep, hat⟩ := dd.dictAt
  have hkl : kvs.length = T.length := by rw [← Paired.length rel, List.length_map]
  have hlen : T.length ≤ sizeLine := by rw [← List.length_map (f := fun (k : Nat) => ((Sum.inl (k : Int) : Key), V.bl true))]; exact hz
  refine Calls.call_function_entry kind_sorted plain_sorted entry_sorted (args_sorted1 _) ?_
  unfold Builtin.«sorted»
  refine wpAny_bind (m := checkCount "sorted" 1 1 _) (wpAny_pure ?_)
  refine wpAny_bind (PySem.W.kdu_collect (A := X.A.in1) (PySem.W.kdl_dict (knd := mixKind X.prog X.w) (kvs := kvs) (ep := ep) hS) (I.ok.hd hc) hat (by rw [hkl]; exact hlen) fun h' tk acc hk hacc => ?_)
  have hl : acc.toList.length = T.length := by rw [Array.length_toList, hacc.1, hkl]
  have hI : IntsAre acc.toList (T.map fun (k : Nat) => (k : Int)) := ints_items hl (fun j v e => hacc.2 j v (by rw [← Array.getElem?_toList]; exact e)) (kv_keys rel)
  refine wpAny_bind (wpAny_newList ?_ (by rw [hl]; exact hlen))
  have hoL : (h'.push { cls := .type "list", data := .seq acc.toList.toArray }).get? h'.objs.size = some { cls := .type "list", data := .seq acc.toList.toArray } := Heap.get?_push_size _ rfl
  have hnone : s.heap.get? h'.objs.size = none := by
    cases e : s.heap.get? h'.objs.size with
    | none => rfl
    | some o => exact absurd (Heap.lt_size (hk _ _ e)) (Nat.lt_irrefl _)
  refine wpAny_bind (wpAny_holding (wpAny_call_entry slot_list_sort ⟨_, hoL, rfl⟩ entry_list_sort (list_sort_treeAny hoL hI (by rw [hl]; exact hlen) fun out ns' h1 h2 h3 => ⟨_, rfl, ?_⟩) (args_list_sort _)))
  obtain ⟨e1, he1⟩ := sortedHeap_at (vs := acc.toList) (out := out) hoL
  have hlen' : (ns'.map V.int).length ≤ sizeLine := by rw [List.length_map, h2.length_eq, List.length_map]; exact hlen
  have keep : ∀ b u, s.heap.get? b = some u → (sortedHeap (h'.push { cls := .type "list", data := .seq acc.toList.toArray }) h'.objs.size acc.toList out).get? b = some u := fun b u e => by
    have e2 := hk b u e
    have hb : b < h'.objs.size := Heap.lt_size e2
    rw [sortedHeap_old (Nat.ne_of_lt hb) (by rw [size_push']; exact Nat.lt_succ_of_lt hb)]
    exact Heap.get?_push_of_some _ e2
  obtain ⟨hn, I'⟩ := laidN (a := h'.objs.size) (o := .lst (ns'.map V.int)) (t' := tk) I keep hnone ⟨hlen', out.toList, e1, vals_of_ints h1, he1⟩
  exact wpAny_pure ⟨_, rfl, ⟨.ref h'.objs.size, _, I', rfl, q ns' _ h2 h3 hn⟩⟩
end Sh
namespace Sh
open PySem PyProof.Rows L2
def tell (l : List Nat) (m : Nat → Nat) (q : Nat) : List Nat := if m q = l.getD q 0 then [] else [q, m q]
def four (l : List Nat) (m : Nat → Nat) (f : Nat) : List Nat := (List.range 4).flatMap fun t => tell l m (4 * f + t)
theorem tell_len (l : List Nat) (m : Nat → Nat) (q : Nat) : (tell l m q).length ≤ 2 := by unfold tell; split <;> simp
theorem fours (l : List Nat) (m : Nat → Nat) : ∀ n, (List.range n).flatMap (four l m) = (List.range (4 * n)).flatMap (tell l m) := by
  intro n
  induction n with
  | zero => rfl
  | succ n ih =>
    have e : List.range (4 * (n + 1)) = List.range (4 * n) ++ [4 * n, 4 * n + 1, 4 * n + 2, 4 * n + 3] := by
      rw [show 4 * (n + 1) = 4 * n + 1 + 1 + 1 + 1 by omega, List.range_succ, List.range_succ, List.range_succ, List.range_succ]
      simp
    rw [List.range_succ, List.flatMap_append, ih, e, List.flatMap_append]
    congr 1
    unfold four
    rw [show List.range 4 = [0, 1, 2, 3] from rfl]
    simp
theorem rise (g : Nat → List Nat) : ∀ (k lo : Nat) (S : List Nat), S.Pairwise (· < ·) → (∀ x ∈ S, lo ≤ x ∧ x < lo + k) → (∀ x, lo ≤ x → x < lo + k → x ∉ S → g x = []) → S.flatMap g = (List.range' lo k).flatMap g := by
  intro k
  induction k with
  | zero =>
    intro lo S _ h2 _
    cases S with
    | nil => rfl
    | cons x r => have := h2 x List.mem_cons_self; omega
  | succ k ih =>
    intro lo S h1 h2 h3
    rw [List.range'_succ, List.flatMap_cons]
    cases S with
    | nil =>
      rw [h3 lo (by omega) (by omega) (by simp), List.nil_append]
      exact ih (lo + 1) [] h1 (by simp) fun x a b c => h3 x (by omega) (by omega) c
    | cons x r =>
      obtain ⟨p1, p2⟩ := List.pairwise_cons.mp h1
      by_cases e : x = lo
      · subst e
        rw [List.flatMap_cons]
        congr 1
        refine ih (x + 1) r p2 (fun y hy => ?_) fun y a b c => h3 y (by omega) (by omega) ?_
        · have := p1 y hy
          have := h2 y (List.mem_cons_of_mem _ hy)
          omega
        · rw [List.mem_cons]
          rintro (rfl | q)
          · omega
          · exact c q
      · have hx := h2 x List.mem_cons_self
        have hl : lo ∉ x :: r := by
          rw [List.mem_cons]
          rintro (q | q)
          · exact e q.symm
          · have := p1 lo q; omega
        rw [h3 lo (by omega) (by omega) hl, List.nil_append]
        refine ih (lo + 1) (x :: r) h1 (fun y hy => ?_) fun y a b c => h3 y (by omega) (by omega) c
        have := h2 y hy
        rcases List.mem_cons.mp hy with rfl | q
        · omega
        · have := p1 y q; omega
theorem told_all {l : List Nat} {m : Nat → Nat} {S T : List Nat} (hp : S.Perm T) (hs : S.Pairwise (· ≤ ·)) (hn : T.Nodup) (ht : ∀ k ∈ T, k < 16384) (hc : ∀ q, q < 65536 → m q ≠ l.getD q 0 → q / 4 ∈ T) : S.flatMap (four l m) = (List.range 65536).flatMap (tell l m) := by
  have hnS : S.Nodup := hp.nodup_iff.mpr hn
  have hlt : S.Pairwise (· < ·) := by
    have := List.Pairwise.and hs hnS
    exact this.imp fun ⟨a, b⟩ => Nat.lt_of_le_of_ne a b
  rw [show (65536 : Nat) = 4 * 16384 from rfl, ← fours, List.range_eq_range']
  refine rise _ 16384 0 S hlt (fun x hx => ⟨Nat.zero_le _, by have := ht x (hp.mem_iff.mp hx); omega⟩) fun x _ hx hn => ?_
  unfold four
  have e : ∀ t, t < 4 → tell l m (4 * x + t) = [] := fun t h => by
    unfold tell
    by_cases q : m (4 * x + t) = l.getD (4 * x + t) 0
    · rw [if_pos q]
    · exfalso
      have := hc (4 * x + t) (by omega) q
      rw [show (4 * x + t) / 4 = x by omega] at this
      exact hn (hp.mem_iff.mpr this)
  rw [show List.range 4 = [0, 1, 2, 3] from rfl]
  simp only [List.flatMap_cons, List.flatMap_nil, e 0 (by decide), e 1 (by decide), e 2 (by decide), e 3 (by decide), List.append_nil]
theorem told_spec (l : List Nat) (m : Nat → Nat) : ∀ (n k : Nat), Ra28Neutral.changed (l.drop k) ((List.range' k n).map m) k = (List.range' k n).flatMap (tell l m) := by
  intro n
  induction n with
  | zero => intro k; rfl
  | succ n ih =>
    intro k
    rw [List.range'_succ, List.map_cons, List.flatMap_cons]
    show (if m k = (l.drop k).headD 0 then [] else [k, m k]) ++ Ra28Neutral.changed ((l.drop k).drop 1) ((List.range' (k + 1) n).map m) (k + 1) = _
    rw [List.drop_drop, ih (k + 1)]
    have e : (l.drop k).headD 0 = l.getD k 0 := by
      rw [List.headD_eq_head?_getD, List.head?_drop, List.getD_eq_getElem?_getD]
    rw [e]
    rfl
theorem told_changed (l : List Nat) (m : Nat → Nat) : Ra28Neutral.changed l ((List.range 65536).map m) 0 = (List.range 65536).flatMap (tell l m) := by
  rw [List.range_eq_range']
  exact told_spec l m 65536 0
theorem nats_back {ns : List Int} {T : List Nat} (h : ns.Perm (T.map fun (k : Nat) => (k : Int))) : ∃ S : List Nat, ns = S.map (fun (k : Nat) => (k : Int)) ∧ S.Perm T := by
  refine ⟨ns.map Int.toNat, ?_, ?_⟩
  · rw [List.map_map]
    have : ∀ x ∈ ns, ((fun (k : Nat) => (k : Int)) ∘ Int.toNat) x = x := fun x hx => by
      obtain ⟨k, _, e⟩ := List.mem_map.mp (h.mem_iff.mp hx)
      subst e
      simp
    conv => lhs; rw [← List.map_id ns]
    exact (List.map_congr_left fun x hx => (this x hx).symm)
  · have := h.map Int.toNat
    rw [List.map_map] at this
    have e : T.map (Int.toNat ∘ fun (k : Nat) => (k : Int)) = T := by
      conv => rhs; rw [← List.map_id T]
      exact List.map_congr_left fun x _ => by simp
    rwa [e] at this
end Sh
namespace Sh
open PySem PyProof.Rows L2
theorem FnOk.toE {P : Program} {w : World} {K : PySem.W.Frag} {mg : Str → Option Value} {base : Heap} {k : Nat} {f : Addr} {fd : FuncData} {ps : List Str} {sp : Sp} (F : FnOk P w K mg base CX0 k f fd ps sp) : FnOk P w K mg base (CXE P w) k f fd ps sp :=
  ⟨F.len, fun A outer s H args us vs Q E hr he hb hv hs => codeAny_mono (F.run A outer s H args us vs Q E hr he hb hv hs) fun r s' h => by
    cases r with
    | error e => exact False.elim h
    | ok fl => cases fl <;> exact h⟩
theorem pass0E {X : Cx} : Passes (CXE X.prog X.w) X E0 := fun _ _ _ _ _ _ _ h => by
  obtain ⟨_, _, _, _, _, _, _, hE⟩ := h
  exact hE.elim
theorem fn_do0 {P : Program} {w : World} {K : PySem.W.Frag} {mg : Str → Option Value} {base : Heap} {x qual : Str} {st : Stmt} {f : Addr} {fd : FuncData} {N ps : List Str} {k : Nat} {sp : Sp} (F : Fun K x qual st f fd) (S : FnScope N ps (defScope st)) (len : ∀ vs H Q E, sp vs H Q E → vs.length = ps.length)
    (h : ∀ (cdv : Value) (A : Around) (outer : List Env) (s : Shared) (H : Hp) (vs : List V) (Q : VK) (E : XK), Room k (A.deeper (envOfC qual (defScope st) s.heap.objs.size f cdv)) → sp vs H Q E →
      Do (cxOf CX0 P w K mg base N qual (defScope st) f cdv A outer s H E).nox (defBody st) { nx := fun _ H' => Q .non H', rt := Q } (start N vs) H) : FnOk P w K mg base CX0 (k + 1) f fd ps sp :=
  F.ok S len fun cdv A outer s H vs Q E hr hsp => ⟨_, pss_do, h cdv A outer s H vs Q E hr hsp⟩
section
variable {X : Cx} {σ : L2.St} {H : Hp} {D : Ends} {ss : List Stmt} {o e ek : Expr} {pos pos' apos p : Pos} {v : V}
theorem do_append {L : Addr} {xs : List V} (ho : Ev X σ H o (.ref L)) (he : Ev X σ H e v) (h : H L = some (.lst xs)) (hz : xs.length < sizeLine) (k : Do X ss D σ (upd H L (.lst (xs ++ [v]))))
    (hbase : attributeBase o "append" X.env (eval o X.env) = eval o X.env := by rfl)
    (hfew : ((backTo pos (starEach [e] X.env)).all (fun x => !x.1) && (backToKw pos (keywordEach [] X.env)).all (fun x => x.1.isSome)
      && decide (([e] : List Expr).length + ([] : List Keyword).length + (if ([] : List Keyword).isEmpty then 0 else 1) < 30)) = true := by rfl)
    (hline : (apos.endLine == pos.line) = true := by rfl) (s1 : starEach [e] X.env = (false, eval e X.env) :: starEach [] X.env := by rfl) (hpl : (backTo pos (starEach [] X.env)).any (·.1) = false := by rfl)
    (hs : swapsWith (.Call (.Attribute o "append" apos) [e] [] pos) none pos'.line X.env = pure false := by rfl) : Do X (.Expr (.Call (.Attribute o "append" apos) [e] [] pos) pos' :: ss) D σ H :=
  do_expr (pe_bm PySem.F.plainAttrs_list PySem.F.slot_list_append PySem.F.type_list_append mt_append ho (ea_cons he ea_nil s1) hbase hfew hline s1 hpl) ⟨rfl, rfl, .inl ⟨rfl, _, SqL.of h⟩, rfl, rfl, L, xs, v, rfl, rfl, h, hz, k⟩ hs
theorem ev_len {L : Addr} {xs : List V} (B : Blt X.mg) (he : Ev X σ H e (.ref L)) (h : SqL X.K H L xs) (hg : Gl X "len" := by rfl) (s1 : starEach [e] X.env = (false, eval e X.env) :: starEach [] X.env := by rfl) (hpl : (backTo pos (starEach [] X.env)).any (·.1) = false := by rfl) :
    Ev X σ H (.Call (.Name "len" p) [e] [] pos) (.int (xs.length : Nat)) := ev_of (pe_callB call_len_seq hg B.len PySem.boot_len (ea_cons he ea_nil s1) (by decide) (by decide) s1 hpl) fun Q q => ⟨rfl, rfl, L, xs, rfl, .inl h, q⟩
theorem ev_lix {L : Addr} {xs : List V} {n : Nat} (he : Ev X σ H e (.ref L)) (hk : Ev X σ H ek (.int (n : Nat))) (h : SqL X.K H L xs) (hv : xs[n]? = some v) (hs : NoSl ek := by exact fun _ _ => rfl) : Ev X σ H (.Subscript e ek pos) v :=
  ev_of (pe_ix ix_list he hk hs) fun Q q => ⟨rfl, rfl, rfl, rfl, L, xs, n, v, rfl, rfl, h, atI_nat hv, q⟩
end
abbrev natsV (l : List Nat) : List V := l.map fun (x : Nat) => V.int (x : Int)
theorem natsV_get {l : List Nat} {k : Nat} (h : k < l.length) : (natsV l)[k]? = some (.int ((l.getD k 0 : Nat) : Int)) := by
  rw [List.getElem?_map, List.getElem?_eq_getElem h, List.getD_eq_getElem?_getD, List.getElem?_eq_getElem h]
  rfl
def spChg (C : Addr) : Sp := fun vs H Q _ => ∃ (a : Ad) (l : List Nat) (M : Ra28.M) (w : Nat) (fi : Addr), vs = [.ref a.p, .ref fi] ∧ Rep C a (fun q => l.getD q 0) M w H ∧ H fi = some (.lst (natsV l)) ∧
  ∀ p H', H p = none → Ext H H' → H' p = some (.lst (natsV ((List.range 65536).flatMap (tell l M.mem)))) → Q (.ref p) H'
section
variable {P : Program} {w : World} {K : PySem.W.Frag} {mg : Str → Option Value} {base : Heap} {f C : Addr} {xs : Xs} {fd : FuncData} {ad : Ac → Addr}
theorem sc_chg : FnScope ["machine", "first", "told", "four", "place", "before"] ["machine", "first"] (defScope (top 170)) := ⟨rfl, rfl, rfl, by decide +kernel, rfl, by decide +kernel, by decide +kernel⟩
theorem flat_len {l : List Nat} {m : Nat → Nat} : ∀ S : List Nat, (S.flatMap (tell l m)).length ≤ 2 * S.length
  | [] => Nat.le_refl _
  | x :: r => by
    rw [List.flatMap_cons, List.length_append, List.length_cons]
    have := tell_len l m x
    have := flat_len (l := l) (m := m) r
    omega
theorem four_len (l : List Nat) (m : Nat → Nat) (f : Nat) : (four l m f).length ≤ 8 := by
  unfold four
  rw [show (List.range 4) = [0, 1, 2, 3] from rfl]
  simp only [List.flatMap_cons, List.flatMap_nil, List.length_append, List.length_nil]
  have := tell_len l m (4 * f + 0); have := tell_len l m (4 * f + 1); have := tell_len l m (4 * f + 2); have := tell_len l m (4 * f + 3)
  omega
theorem fours_len {l : List Nat} {m : Nat → Nat} : ∀ S : List Nat, (S.flatMap (four l m)).length ≤ 8 * S.length
  | [] => Nat.le_refl _
  | x :: r => by
    rw [List.flatMap_cons, List.length_append, List.length_cons]
    have := four_len l m x
    have := fours_len (l := l) (m := m) r
    omega
theorem ok_chg (F : Fun K "changed_bytes" "changed_bytes" (top 170) f fd) (T : Tx K mg C) (B : Blt mg) : FnOk P w K mg base CX0 1 f fd ["machine", "first"] (spChg C) := by
  refine fn_do0 F sc_chg (fun vs H Q E h => ?_) (fun cdv A outer s H vs Q E hr h => ?_)
  · obtain ⟨a, l, M, w, fi, rfl, _⟩ := h; rfl
  · obtain ⟨a, l, M, w', fi, rfl, R, hfi, kk⟩ := h
    have nd := sc_chg.nd
    have hsz : sizeLine = 16777216 := sizeLine_eq
    refine do_cons (ps_set (i := 2) nd rfl (Or.inl rfl) (pe_lst pa_nil)) ⟨Nat.zero_le _, fun L hL => ?_⟩
    have x1 : Ext H (upd H L (.lst [])) := Ext.new hL
    have R1 := R.ext x1
    obtain ⟨Td, t1, t2, t3, t4⟩ := R1.td
    refine do_cons (ps_for PassesOwn.never rfl (pi_list (pe_callB (cr_sortT rfl) rfl B.sorted boot_sorted (pa_cons (f_touched T a (pv 0)) pa_nil))) (pg_name (i := 3) nd rfl (Or.inl rfl)) pss_do) ?_
    refine ⟨_, rfl, M, w', rfl, R1.toRepC, a.td, Td, rfl, t1, fun ns q hp1 hp2 hq => ?_⟩
    obtain ⟨S, rfl, hST⟩ := nats_back hp1
    have eS : (S.map fun (k : Nat) => (k : Int)).map V.int = natsV S := by rw [List.map_map]; rfl
    rw [eS]
    have hS : S.Pairwise (· ≤ ·) := by
      have := List.pairwise_map.mp hp2
      exact this.imp fun h => by omega
    have hSl : S.length ≤ 16384 := by rw [hST.length_eq]; exact nodup_len 16384 Td t2 t3
    have hSb : ∀ x ∈ S, x < 16384 := fun x hx => t3 x (hST.mem_iff.mp hx)
    have hLq : L ≠ q := fun e => by rw [← e, upd_same] at hq; cases hq
    have x2 : Ext (upd H L (.lst [])) (upd (upd H L (.lst [])) q (.lst (natsV S))) := Ext.new hq
    generalize hHs : upd (upd H L (.lst [])) q (.lst (natsV S)) = Hs at *
    have hsL : Hs L = some (.lst []) := x2 _ _ upd_same
    have hsq : Hs q = some (.lst (natsV S)) := by rw [← hHs, upd_same]
    have x12 := x1.trans x2
    have st : ∀ (o : HO) b u, H b = some u → (upd Hs L o) b = some u := fun o b u e => by
      rw [upd_ne (fun z => by rw [z, hL] at e; cases e)]; exact x12 b u e
    have Rn : ∀ o, Rep C a (fun q => l.getD q 0) M w' (upd Hs L o) := fun o => R.ext fun b u e => st o b u e
    have hfn : ∀ o, (upd Hs L o) fi = some (.lst (natsV l)) := fun o => st o _ _ hfi
    refine ⟨q, rfl, ⟨_, SqL.of hsq⟩, for_list (xs := natsV S)
      (fun i σ' H' => (∃ x3 x4 x5, σ' = [some (.ref a.p), some (.ref fi), some (.ref L), x3, x4, x5]) ∧ H' = upd Hs L (.lst (natsV ((S.take i).flatMap (four l M.mem))))) ⟨⟨_, _, _, rfl⟩, ?_⟩ (fun i σ' H' _ ⟨_, e⟩ => ?_) (fun i x σ' H' hi ⟨⟨x3, x4, x5, eσ⟩, eH⟩ => ?_) (fun σ' H' ⟨⟨x3, x4, x5, eσ⟩, eH⟩ => ?_)⟩
    · funext b
      by_cases hb : b = L
      · subst hb; rw [upd_same, hsL]; rfl
      · rw [upd_ne hb]
    · subst e
      exact SqL.of (by rw [upd_ne (Ne.symm hLq)]; exact hsq)
    · subst eσ eH
      rw [List.getElem?_map] at hi
      obtain ⟨fr, hfr, e0⟩ := Option.map_eq_some_iff.mp hi
      have e0' : V.int (fr : Int) = x := e0
      subst e0'
      have hfl : i < S.length := (List.getElem?_eq_some_iff.mp hfr).1
      have hfb : fr < 16384 := hSb fr (List.mem_of_getElem? hfr)
      have etk : S.take (i + 1) = S.take i ++ [fr] := by rw [List.take_add_one, hfr]; rfl
      have hol : ((S.take i).flatMap (four l M.mem)).length ≤ 131072 := by
        have := fours_len (l := l) (m := M.mem) (S.take i)
        rw [List.length_take] at this
        omega
      rw [etk, List.flatMap_append]
      generalize hout : (S.take i).flatMap (four l M.mem) = out at *
      refine do_cons (ps_for PassesOwn.never rfl (pi_range2 rfl B.range (pa_cons (pe_op op_mul pe_int (pv 3)) (pa_cons (pe_op op_add (pe_op op_mul pe_int (pv 3)) pe_int) pa_nil))) (pg_name (i := 4) nd rfl (Or.inl rfl)) pss_do) ?_
      refine ⟨_, rfl, _, _, rfl, rfl, .inl ⟨by decide, by decide⟩, _, rfl, _, _, rfl, rfl, .inl ⟨by decide, by decide⟩, _, _, rfl, rfl, _, _, rfl, ⟨by omega, by omega, by omega, by omega⟩, ?_⟩
      have e4 : (4 * (fr : Int) + 4 - 4 * (fr : Int)).toNat = 4 := by omega
      rw [e4]
      refine for_range (lo := 4 * (fr : Int)) (n := 4) (fun j σ' H' => (∃ x4 x5, σ' = [some (.ref a.p), some (.ref fi), some (.ref L), some (.int (fr : Int)), x4, x5]) ∧ H' = upd Hs L (.lst (natsV (out ++ (List.range j).flatMap fun t => tell l M.mem (4 * fr + t))))) ⟨⟨_, _, rfl⟩, by rw [List.range_zero, List.flatMap_nil, List.append_nil]⟩ (fun j σ' H' hj ⟨⟨x4, x5, eσ⟩, eH⟩ => ?_) (fun σ' H' ⟨⟨x4, x5, eσ⟩, eH⟩ => ?_)
      · subst eσ eH
        have ep : 4 * (fr : Int) + ((j : Nat) : Int) = ((4 * fr + j : Nat) : Int) := by omega
        show Do _ _ _ (List.set [some (.ref a.p), some (.ref fi), some (.ref L), some (.int (fr : Int)), x4, x5] 4 (some (.int (4 * (fr : Int) + ((j : Nat) : Int))))) _
        rw [ep]
        have hpl : 4 * fr + j < 65536 := by omega
        have hil : (((List.range j).flatMap fun t => tell l M.mem (4 * fr + t))).length ≤ 6 := by
          have : j = 0 ∨ j = 1 ∨ j = 2 ∨ j = 3 := by omega
          have := tell_len l M.mem (4 * fr + 0); have := tell_len l M.mem (4 * fr + 1); have := tell_len l M.mem (4 * fr + 2)
          rcases ‹j = 0 ∨ j = 1 ∨ j = 2 ∨ j = 3› with rfl | rfl | rfl | rfl
          · simp
          · rw [show List.range 1 = [0] from rfl]; simp only [List.flatMap_cons, List.flatMap_nil, List.length_append, List.length_nil]; omega
          · rw [show List.range 2 = [0, 1] from rfl]; simp only [List.flatMap_cons, List.flatMap_nil, List.length_append, List.length_nil]; omega
          · rw [show List.range 3 = [0, 1, 2] from rfl]; simp only [List.flatMap_cons, List.flatMap_nil, List.length_append, List.length_nil]; omega
        rw [List.range_succ, List.flatMap_append, List.flatMap_cons, List.flatMap_nil, List.append_nil, ← List.append_assoc]
        generalize hin : out ++ ((List.range j).flatMap fun t => tell l M.mem (4 * fr + t)) = inn at *
        have hinl : inn.length ≤ 131078 := by rw [← hin, List.length_append]; omega
        generalize hpq : 4 * fr + j = pl at *
        have hfs := hfn (.lst (natsV inn))
        refine do_set (v := .int ((l.getD pl 0 : Nat) : Int)) 5 nd ?_ ?_
        · by_cases hc : pl < l.length
          · exact ev_ifT ((tt_lt (ev_v 4) (ev_len B (ev_v 1) (SqL.of hfs))).eq (decide_eq_true (by rw [List.length_map]; omega))) (ev_lix (ev_v 1) (ev_v 4) (SqL.of hfs) (natsV_get hc))
          · have e0 : l.getD pl 0 = 0 := by rw [List.getD_eq_getElem?_getD, List.getElem?_eq_none (by omega)]; rfl
            rw [e0]
            exact ev_ifF ((tt_lt (ev_v 4) (ev_len B (ev_v 1) (SqL.of hfs))).eq (decide_eq_false (by rw [List.length_map]; omega))) ev_int
        have Rm := Rn (.lst (natsV inn))
        refine do_if ((tt_ne (ev_mem (n := pl) Rm (ev_memory T Rm.toRepC (ev_v 0)) (ev_v 4) hpl) (ev_v 5)).eq (congrArg (!·) (dec_nat _ _))) (fun h => ?_) (fun h => ?_)
        · have h' : ¬ M.mem pl = l.getD pl 0 := by simpa using h
          refine do_append (ev_v 2) (ev_v 4) upd_same (by rw [List.length_map]; omega) ?_
          rw [upd_upd]
          have Rm2 := Rn (.lst (natsV inn ++ [.int ((pl : Nat) : Int)]))
          refine do_append (ev_v 2) (ev_mem (n := pl) Rm2 (ev_memory T Rm2.toRepC (ev_v 0)) (ev_v 4) hpl) upd_same (by rw [List.length_append, List.length_map]; show inn.length + 1 < _; omega) ?_
          rw [upd_upd]
          refine do_nil (do_nil ⟨⟨_, _, rfl⟩, ?_⟩)
          unfold tell
          rw [if_neg h']
          unfold natsV
          rw [List.map_append, List.append_assoc]
          rfl
        · have h' : M.mem pl = l.getD pl 0 := by simpa using h
          refine do_nil (do_nil ⟨⟨_, _, rfl⟩, ?_⟩)
          unfold tell
          rw [if_pos h', List.append_nil]
      · subst eσ eH
        refine do_nil ⟨⟨_, _, _, rfl⟩, ?_⟩
        rw [List.flatMap_cons, List.flatMap_nil, List.append_nil]
        rfl
    · subst eσ eH
      have e1 : S.take (natsV S).length = S := by rw [List.length_map, List.take_length]
      rw [e1, told_all hST hS t2 t3 t4]
      exact do_ret (ev_v 2) (kk L _ hL (fun b u e => st _ b u e) upd_same)
end
end Sh
namespace Sh
open PySem PyProof.Rows L2
def Fr1 (a : Ad) (H H' : Hp) : Prop := ∀ b o, b ≠ a.p → H b = some o → H' b = some o
theorem zeros (k : Nat) : (List.replicate k [V.int 0]).flatten = List.replicate k (V.int 0) := by
  induction k with
  | zero => rfl
  | succ k ih => rw [List.replicate_succ, List.flatten_cons, ih, List.replicate_succ]; rfl
theorem mem_begin {l : List Nat} (M : Ra28.M) (h : l.length ≤ 65536) : natsV l ++ List.replicate (65536 - l.length) (V.int 0) = memOf { M with mem := fun q => l.getD q 0 } := by
  apply List.ext_getElem?
  intro k
  by_cases hk : k < 65536
  · rw [mem_get _ hk]
    by_cases h1 : k < l.length
    · rw [List.getElem?_append_left (by rw [List.length_map]; exact h1), natsV_get h1]
    · rw [List.getElem?_append_right (by rw [List.length_map]; omega), List.getElem?_replicate, if_pos (by rw [List.length_map]; omega)]
      show _ = some (V.int ((l.getD k 0 : Nat) : Int))
      rw [List.getD_eq_getElem?_getD, List.getElem?_eq_none (by omega)]
      rfl
  · rw [List.getElem?_eq_none (by rw [List.length_append, List.length_map, List.length_replicate]; omega), List.getElem?_eq_none (by rw [mem_len]; omega)]
def spBegin (C : Addr) (ad : Ac → Addr) : Sp := fun vs H Q _ => ∃ (a : Ad) (M : Ra28.M) (w : Nat) (l : List Nat) (fi : Addr), vs = [.ref a.p, .ref fi] ∧ RepC C a M w H ∧ KnOk ad a.kn H ∧ H fi = some (.lst (natsV l)) ∧ l.length ≤ 65536 ∧ (∀ x ∈ l, x < 256) ∧
  ∀ me td H', Full C ad { a with me := me, td := td } (fun q => l.getD q 0) { M with mem := fun q => l.getD q 0 } 0 H' → H me = none → H td = none → Fr1 a H H' → Q .non H'
section
variable {P : Program} {w : World} {K : PySem.W.Frag} {mg : Str → Option Value} {base : Heap} {f C : Addr} {xs : Xs} {fd : FuncData} {ad : Ac → Addr}
theorem KnOk.ext {kn : Addr} {H H' : Hp} (k : KnOk ad kn H) (x : Ext H H') : KnOk ad kn H' := by
  obtain ⟨W, k1, k2, k3⟩ := k
  exact ⟨W, x _ _ k1, k2, fun p hp => ⟨(k3 p hp).1, let ⟨c, b, e1, e2⟩ := (k3 p hp).2; ⟨c, b, e1, x _ _ e2⟩⟩⟩
theorem KnOk.fr1 {a : Ad} {kn : Addr} {H H' : Hp} (k : KnOk ad kn H) {C dx : Addr} {fs : List (Str × V)} (ob : H a.p = some (.ins C dx fs)) (x : Fr1 a H H') : KnOk ad kn H' := by
  obtain ⟨W, k1, k2, k3⟩ := k
  exact ⟨W, x _ _ (ne_of k1 ob (by intro q; cases q)) k1, k2, fun p hp => ⟨(k3 p hp).1, let ⟨c, b, e1, e2⟩ := (k3 p hp).2; ⟨c, b, e1, x _ _ (ne_of e2 ob (by intro q; cases q)) e2⟩⟩⟩
theorem sc_begin : FnScope ["self", "first"] ["self", "first"] (defScope (mth 4)) := ⟨rfl, rfl, rfl, by decide +kernel, rfl, by decide +kernel, by decide +kernel⟩
theorem ok_begin (F : Fun K "begin" "Machine.begin" (mth 4) f fd) (T : Tx K mg C) (B : Blt mg) : FnOk P w K mg base (CXE P w) 1 f fd ["self", "first"] (spBegin C ad) := by
  refine fn_do F sc_begin (fun vs H Q E h => ?_) (fun cdv A outer s H vs Q E hr h => ?_)
  · obtain ⟨a, M, w, l, fi, rfl, _⟩ := h; rfl
  · obtain ⟨a, M, w', l, fi, rfl, R, KN, hfi, hl, hb, kk⟩ := h
    have hsz : sizeLine = 16777216 := sizeLine_eq
    refine do_cons (ps_fld (pv 0) (pe_op op_cat (pv 1) (pe_op op_rep (pe_lst (pa_cons pe_int pa_nil)) (pe_op op_sub (pe_num T.SIZE) (pe_callB call_len_seq rfl B.len PySem.boot_len (pa_cons (pv 1) pa_nil))))) rfl) ?_
    refine ⟨_, rfl, Nat.le_of_lt (small1000 (by show 1 ≤ 1000; decide)), fun p1 h1 => ?_⟩
    have x1 : Ext H (upd H p1 (.lst [.int 0])) := Ext.new h1
    refine ⟨_, rfl, fi, natsV l, rfl, .inl (SqL.of (x1 _ _ hfi)), _, _, rfl, rfl, p1, _, _, rfl, rfl, upd_same, ?_, ?_, ?_, fun p2 h2 => ?_⟩
    · rw [List.length_map]; omega
    · rw [List.length_map]; omega
    · rw [List.length_map]; show 1 * _ ≤ _; omega
    have ek : ((65536 : Int) - ((natsV l).length : Nat)).toNat = 65536 - l.length := by rw [List.length_map]; omega
    rw [ek, zeros]
    have x2 := x1.trans (Ext.new (o := .lst (List.replicate (65536 - l.length) (V.int 0))) h2)
    have hp2 : (upd (upd H p1 (.lst [.int 0])) p2 (.lst (List.replicate (65536 - l.length) (V.int 0)))) p2 = some (.lst (List.replicate (65536 - l.length) (V.int 0))) := upd_same
    generalize upd (upd H p1 (.lst [.int 0])) p2 (.lst (List.replicate (65536 - l.length) (V.int 0))) = H2 at *
    have hsum : (natsV l).length + (List.replicate (65536 - l.length) (V.int 0)).length ≤ sizeLine := by rw [List.length_map, List.length_replicate]; omega
    refine ⟨fi, p2, natsV l, _, rfl, rfl, x2 _ _ hfi, hp2, hsum, fun me hme => ?_⟩
    have x3 := x2.trans (Ext.new (o := .lst (natsV l ++ List.replicate (65536 - l.length) (V.int 0))) hme)
    have hme3 : (upd H2 me (.lst (natsV l ++ List.replicate (65536 - l.length) (V.int 0)))) me = some (.lst (natsV l ++ List.replicate (65536 - l.length) (V.int 0))) := upd_same
    have hmeH : H me = none := by
      cases q : H me with
      | none => rfl
      | some o => rw [x2 _ _ q] at hme; cases hme
    generalize upd H2 me (.lst (natsV l ++ List.replicate (65536 - l.length) (V.int 0))) = H3 at *
    have hpm : a.p ≠ me := fun e => by rw [← e, R.ob] at hmeH; cases hmeH
    have hob3 := x3 _ _ R.ob
    refine ⟨_, rfl, a.p, C, a.dx, fsOf a M w', rfl, hob3, T.cl, T.nMem, by show 13 < 1000; decide, ?_⟩
    have f4 : Fr1 a H (upd H3 a.p (.ins C a.dx (putF "memory" (.ref me) (fsOf a M w')))) := fun b o hb e => by rw [upd_ne hb]; exact x3 b o e
    have hme4 : (upd H3 a.p (.ins C a.dx (putF "memory" (.ref me) (fsOf a M w')))) me = some (.lst (natsV l ++ List.replicate (65536 - l.length) (V.int 0))) := by rw [upd_ne (Ne.symm hpm)]; exact hme3
    have hob4 : (upd H3 a.p (.ins C a.dx (putF "memory" (.ref me) (fsOf a M w')))) a.p = some (.ins C a.dx (fsOf { a with me := me } M w')) := upd_same
    generalize upd H3 a.p (.ins C a.dx (putF "memory" (.ref me) (fsOf a M w'))) = H4 at *
    refine do_cons (ps_fld (pv 0) pe_dnewK rfl) ?_
    intro td htd
    have hptd : a.p ≠ td := fun e => by rw [← e, hob4] at htd; cases htd
    have htdH : H td = none := by
      cases q : H td with
      | none => rfl
      | some o => rw [f4 _ _ (Ne.symm hptd) q] at htd; cases htd
    refine ⟨_, rfl, a.p, C, a.dx, fsOf { a with me := me } M w', rfl, ?_, T.cl, T.nTd, by show 13 < 1000; decide, ?_⟩
    · rw [upd_ne hptd]; exact hob4
    have nmt : me ≠ td := fun e => by rw [← e, hme4] at htd; cases htd
    have st5 : ∀ b o, b ≠ a.p → H4 b = some o → (upd (upd H4 td (.dK [])) a.p (.ins C a.dx (putF "touched" (.ref td) (fsOf { a with me := me } M w')))) b = some o := fun b o hb e => by
      rw [upd_ne hb, upd_ne (fun z => by rw [z, htd] at e; cases e)]; exact e
    have htd5 : (upd (upd H4 td (.dK [])) a.p (.ins C a.dx (putF "touched" (.ref td) (fsOf { a with me := me } M w')))) td = some (.dK []) := by rw [upd_ne (Ne.symm hptd), upd_same]
    have hob5 : (upd (upd H4 td (.dK [])) a.p (.ins C a.dx (putF "touched" (.ref td) (fsOf { a with me := me } M w')))) a.p = some (.ins C a.dx (fsOf { a with me := me, td := td } M w')) := upd_same
    generalize upd (upd H4 td (.dK [])) a.p (.ins C a.dx (putF "touched" (.ref td) (fsOf { a with me := me } M w'))) = H5 at *
    have prg : a.rg ≠ a.p := Ne.symm R.prg
    have hrg5 := st5 _ _ prg (f4 _ _ prg R.rg)
    have R5 : RepC C { a with me := me, td := td } M w' H5 := ⟨hob5, hrg5, R.good⟩
    refine do_f fw_why 0 T.cl T.nWhy R5 ev_int (ev_v 0) trivial fun H6 R6 c6 => ?_
    have nrm : me ≠ a.rg := fun e => by rw [e, R.rg] at hmeH; cases hmeH
    have nrt : td ≠ a.rg := fun e => by rw [e, R.rg] at htdH; cases htdH
    have f6 : Fr1 a H H6 := fun b o hb e => by
      have e5 := st5 b o hb (f4 b o hb e)
      by_cases hbr : b = a.rg
      · subst hbr
        rw [R.rg] at e; cases e
        exact R6.rg
      · rw [c6 b hb hbr]; exact e5
    obtain ⟨W, k1, k2, k3⟩ := id KN
    have hkn : a.kn ≠ td := fun e => by rw [← e, k1] at htdH; cases htdH
    refine do_nil (kk me td H6 ⟨⟨⟨R6.ob, R6.rg, ?_⟩, ?_, ⟨[], ?_, List.nodup_nil, (fun k hk => absurd hk (by simp)), fun q _ h => absurd rfl h⟩, nrm⟩, KN.fr1 R.ob f6, hkn⟩ hmeH htdH f6)
    · obtain ⟨g1, g2, g3, g4, g5, g6, g7, g8, g9⟩ := R.good
      refine ⟨g1, g2, g3, g4, g5, g6, g7, g8, fun q => ?_⟩
      show l.getD q 0 < 256
      by_cases hq : q < l.length
      · rw [List.getD_eq_getElem?_getD, List.getElem?_eq_getElem hq]
        exact hb _ (List.getElem_mem hq)
      · rw [List.getD_eq_getElem?_getD, List.getElem?_eq_none (by omega)]
        decide
    · rw [c6 me (Ne.symm hpm) nrm, st5 _ _ (Ne.symm hpm) hme4, mem_begin M hl]
    · rw [c6 td (Ne.symm hptd) nrt, htd5]
      rfl
end
end Sh
namespace Sh
open PySem PyProof.Rows L2
def FrR (a : Ad) (H H' : Hp) : Prop := ∀ b o, b ≠ a.p → b ≠ a.rg → b ≠ a.kn → H b = some o → H' b = some o
def ranM (M : Ra28.M) (l : List Nat) (n : Nat) : Ra28.M × Nat × Nat := Ra28.run n 0 { M with mem := fun q => l.getD q 0 }
def toldBy (l : List Nat) (Z : Ra28.M × Nat × Nat) : List Nat := (List.range 65536).flatMap (tell l Z.1.mem)
def spRun (C : Addr) (ad : Ac → Addr) : Sp := fun vs H Q _ => ∃ (a : Ad) (M : Ra28.M) (w n : Nat) (l : List Nat) (fi : Addr), vs = [.ref a.p, .int n, .ref fi] ∧ RepC C a M w H ∧ KnOk ad a.kn H ∧ H fi = some (.lst (natsV l)) ∧ fi ≠ a.rg ∧ l.length ≤ 65536 ∧ (∀ x ∈ l, x < 256) ∧
  ∀ me td p H', RepC C { a with me := me, td := td } (ranM M l n).1 (ranM M l n).2.1 H' → KnOk ad a.kn H' → H p = none → FrR a H H' → H' p = some (.lst (natsV ((ranM M l n).2.2 :: (ranM M l n).2.1 :: (toldBy l (ranM M l n)).length :: toldBy l (ranM M l n)))) → Q (.ref p) H'
section
variable {P : Program} {w : World} {K : PySem.W.Frag} {mg : Str → Option Value} {base : Heap} {f C : Addr} {xs : Xs} {fd : FuncData} {ad : Ac → Addr}
theorem sc_run : FnScope ["machine", "steps", "first", "done", "told"] ["machine", "steps", "first"] (defScope (top 171)) := ⟨rfl, rfl, rfl, by decide +kernel, rfl, by decide +kernel, by decide +kernel⟩
theorem ok_run (F : Fun K "run" "run" (top 171) f fd) (T : Tx K mg C) (B : Blt mg) (gb : Mth P w K mg base C "begin" ["self", "first"] (spBegin C ad) 1) (gd : Cal P w K mg base "do_steps" ["machine", "steps"] (spDo C ad xs) 9) (gc : Cal P w K mg base "changed_bytes" ["machine", "first"] (spChg C) 1) :
    FnOk P w K mg base (CXE P w) 10 f fd ["machine", "steps", "first"] (spRun C ad) := by
  refine fn_do F sc_run (fun vs H Q E h => ?_) (fun cdv A outer s H vs Q E hr h => ?_)
  · obtain ⟨a, M, w, n, l, fi, rfl, _⟩ := h; rfl
  · obtain ⟨a, M, w', n, l, fi, rfl, R, KN, hfi, nfi, hl, hb, kk⟩ := h
    have nd := sc_run.nd
    have hsz : sizeLine = 16777216 := sizeLine_eq
    refine do_meth T.cl gb (hr.mono (by decide)) passE R (ev_v 0) (ea_cons (ev_v 2) ea_nil) ⟨a, M, w', l, fi, rfl, R, KN, hfi, hl, hb, fun me td H1 F1 hme htd f1 => ?_⟩
    refine do_setc 3 nd gd hr passE (ea_cons (ev_v 0) (ea_cons (ev_v 1) ea_nil)) ⟨{ a with me := me, td := td }, _, _, n, rfl, F1, fun H2 F2 f2 => ?_⟩
    have F2' : Full C ad { a with me := me, td := td } (fun q => l.getD q 0) (ranM M l n).1 (ranM M l n).2.1 H2 := F2
    have kk' := kk me td
    show Do _ _ _ (List.set (start ["machine", "steps", "first", "done", "told"] [.ref a.p, .int n, .ref fi]) 3 (some (.int (((ranM M l n).2.2 : Nat) : Int)))) H2
    unfold toldBy at kk'
    generalize ranM M l n = Z at *
    clear F2 F1
    have nip : fi ≠ a.p := ne_of hfi R.ob (by intro q; cases q)
    obtain ⟨W, k1, _⟩ := id KN
    have nik : fi ≠ a.kn := ne_of hfi k1 (by intro q; cases q)
    have nim : fi ≠ me := fun e => by rw [e, hme] at hfi; cases hfi
    have nit : fi ≠ td := fun e => by rw [e, htd] at hfi; cases hfi
    have hfi2 : H2 fi = some (.lst (natsV l)) := f2 fi _ nip nfi nim nit nik (f1 fi _ nip hfi)
    have g2 : FrR a H H2 := fun b o h1 h2 h3 e => f2 b o h1 h2 (fun z => by rw [z] at e; rw [hme] at e; cases e) (fun z => by rw [z] at e; rw [htd] at e; cases e) h3 (f1 b o h1 e)
    refine do_setc 4 nd gc (hr.mono (by decide)) passE (ea_cons (ev_v 0) (ea_cons (ev_v 2) ea_nil)) ⟨{ a with me := me, td := td }, l, Z.1, Z.2.1, fi, rfl, F2'.toRep, hfi2, fun p H3 hp x3 hp3 => ?_⟩
    have R3 := F2'.toRepC.ext x3
    have K3 := F2'.kn.ext x3
    have g3 : FrR a H H3 := fun b o h1 h2 h3 e => x3 b o (g2 b o h1 h2 h3 e)
    have htl : ((List.range 65536).flatMap (tell l Z.1.mem)).length ≤ 131072 := by
      have := flat_len (l := l) (m := Z.1.mem) (List.range 65536)
      rw [List.length_range] at this
      omega
    generalize (List.range 65536).flatMap (tell l Z.1.mem) = tl at *
    refine do_cons (ps_ret (pe_op op_cat (pe_lst (pa_cons (pv 3) (pa_cons (f_why T { a with me := me, td := td } (pv 0)) (pa_cons (pe_callB call_len_seq rfl B.len PySem.boot_len (pa_cons (pv 4) pa_nil)) pa_nil)))) (pv 4))) ?_
    refine ⟨_, rfl, _, rfl, Z.1, Z.2.1, rfl, R3, _, rfl, p, natsV tl, rfl, .inl (SqL.of hp3), Nat.le_of_lt (small1000 (by show 3 ≤ 1000; decide)), fun q hq => ?_⟩
    have x4 : Ext H3 (upd H3 q (.lst [.int ((Z.2.2 : Nat) : Int), .int ((Z.2.1 : Nat) : Int), .int (((natsV tl).length : Nat) : Int)])) := Ext.new hq
    refine ⟨_, rfl, q, p, _, natsV tl, rfl, rfl, upd_same, x4 _ _ hp3, by rw [List.length_map]; show 3 + _ ≤ _; omega, fun r hr' => ?_⟩
    have x5 := x4.trans (Ext.new (o := .lst ([V.int ((Z.2.2 : Nat) : Int), .int ((Z.2.1 : Nat) : Int), .int (((natsV tl).length : Nat) : Int)] ++ natsV tl)) hr')
    have hrH : H r = none := by
      have no : ∀ o, H3 r ≠ some o := fun o e => by rw [x4 _ _ e] at hr'; cases hr'
      cases q : H r with
      | none => rfl
      | some o =>
        exfalso
        by_cases h1 : r = a.p
        · subst h1; exact no _ R3.ob
        by_cases h2 : r = a.rg
        · subst h2; exact no _ R3.rg
        by_cases h3 : r = a.kn
        · subst h3
          obtain ⟨W, z, _⟩ := K3
          exact no _ z
        exact no _ (g3 r o h1 h2 h3 q)
    refine kk' r _ (R3.ext x5) (K3.ext x5) hrH (fun b o h1 h2 h3 e => x5 b o (g3 b o h1 h2 h3 e)) ?_
    rw [upd_same]
    show some (HO.lst (V.int _ :: V.int _ :: V.int (((natsV tl).length : Nat) : Int) :: natsV tl)) = _
    rw [List.length_map]
    rfl
end
end Sh
namespace Sh
open PySem PyProof.Rows L2
def M0 : Ra28.M := ⟨fun _ => 0, false, false, false, false, 0, 0, 0, 0, 0, 0, 2, false, fun _ => 0⟩
theorem good0 : Good M0 := ⟨fun _ => by show 0 < _; decide, by show 0 < 16; decide, by show 0 < 4294967296; decide, by show 0 < 4294967296; decide, by show 0 < 18446744073709551616; decide, by show 0 < 4294967296; decide, by show 0 < 4294967296; decide, by show 2 < 4294967296; decide, fun _ => by show 0 < 256; decide⟩
theorem regs0 : List.replicate 22 (V.int 0) = regsOf M0 := rfl
def spInit (C : Addr) (ad : Ac → Addr) : Sp := fun vs H Q _ => ∃ x dx : Addr, vs = [.ref x] ∧ H x = some (.ins C dx []) ∧
  ∀ (a : Ad) H', a.p = x → RepC C a M0 0 H' → KnOk ad a.kn H' → H a.rg = none → H a.kn = none → (∀ b o, b ≠ x → H b = some o → H' b = some o) → Q .non H'
section
variable {X : Cx} {σ : L2.St} {H : Hp} {D : Ends} {ss : List Stmt} {o e : Expr} {pos pos' : Pos} {v : V} {C x dx : Addr} {fs fs' : List (Str × V)} {f : Str}
theorem do_fld1 (cl : Cls X.K C) (na : NoAttr X.K C f) (hob : H x = some (.ins C dx fs)) (he : Ev X σ H e v) (ho : Ev X σ H o (.ref x)) (hl : fs.length < 1000) (hp : putF f v fs = fs') (k : ∀ H', H' x = some (.ins C dx fs') → (∀ b, b ≠ x → H' b = H b) → Do X ss D σ H')
    (hs : swapsWith e (some (.Attribute o f pos')) pos.line X.env = pure false := by rfl) : Do X (.Assign [.Attribute o f pos'] e pos :: ss) D σ H :=
  do_cons (ps_fld ho he hs) ⟨rfl, rfl, rfl, rfl, x, C, dx, fs, rfl, hob, cl, na, hl, k _ (by rw [upd_same, hp]) fun b hb => upd_ne hb⟩
theorem do_fldG {G : Hp} (hp : putF f v fs = fs') (k : ∀ H', H' x = some (.ins C dx fs') → H' = upd G x (.ins C dx fs') → Do X ss D σ H') : Do X ss D σ (upd G x (.ins C dx (putF f v fs))) := by
  rw [hp]
  exact k _ upd_same rfl
end
section
variable {P : Program} {w : World} {K : PySem.W.Frag} {mg : Str → Option Value} {base : Heap} {f C : Addr} {xs : Xs} {fd : FuncData} {ad : Ac → Addr}
theorem sc_init : FnScope ["self"] ["self"] (defScope (mth 0)) := ⟨rfl, rfl, rfl, by decide +kernel, rfl, by decide +kernel, by decide +kernel⟩
theorem ok_init (F : Fun K "__init__" "Machine.__init__" (mth 0) f fd) (T : Tx K mg C) : FnOk P w K mg base (CXE P w) 1 f fd ["self"] (spInit C ad) := by
  refine fn_do F sc_init (fun vs H Q E h => ?_) (fun cdv A outer s H vs Q E hr h => ?_)
  · obtain ⟨x, dx, rfl, _⟩ := h; rfl
  · obtain ⟨x, dx, rfl, hx, kk⟩ := h
    have hsz : sizeLine = 16777216 := sizeLine_eq
    refine do_cons (ps_fld (pv 0) (pe_op op_rep (pe_lst (pa_cons pe_int pa_nil)) (pe_num T.PLACE)) rfl) ?_
    refine ⟨Nat.le_of_lt (small1000 (by show 1 ≤ 1000; decide)), fun p1 h1 => ?_⟩
    have x1 : Ext H (upd H p1 (.lst [.int 0])) := Ext.new h1
    refine ⟨p1, _, _, rfl, rfl, upd_same, by decide, by decide, by show 1 * 22 ≤ _; omega, fun rg hrg => ?_⟩
    rw [show (22 : Int).toNat = 22 from rfl, zeros, regs0]
    have x2 := x1.trans (Ext.new (o := .lst (regsOf M0)) hrg)
    have hrg2 : (upd (upd H p1 (.lst [.int 0])) rg (.lst (regsOf M0))) rg = some (.lst (regsOf M0)) := upd_same
    have hrgH : H rg = none := by
      cases q : H rg with
      | none => rfl
      | some o => rw [x1 _ _ q] at hrg; cases hrg
    generalize upd (upd H p1 (.lst [.int 0])) rg (.lst (regsOf M0)) = H2 at *
    have hx2 := x2 _ _ hx
    have nrx : rg ≠ x := fun e => by rw [e, hx] at hrgH; cases hrgH
    refine ⟨_, rfl, x, C, dx, [], rfl, hx2, T.cl, T.nRegs, by decide, ?_⟩
    have s1 : ∀ b o, b ≠ x → H2 b = some o → (upd H2 x (.ins C dx (putF "regs" (.ref rg) []))) b = some o := fun b o hb e => by rw [upd_ne hb]; exact e
    have o1 : (upd H2 x (.ins C dx (putF "regs" (.ref rg) []))) x = some (.ins C dx [("regs", .ref rg)]) := upd_same
    generalize upd H2 x (.ins C dx (putF "regs" (.ref rg) [])) = G1 at s1 o1 ⊢
    refine do_fld1 (fs' := [("regs", .ref rg), ("t", .int 0)]) T.cl T.nT o1 ev_int (ev_v 0) (by show 1 < 1000; decide) (by rfl) fun G2 o2 e2 => ?_
    refine do_fld1 (fs' := [("regs", .ref rg), ("t", .int 0), ("s", .int 0)]) T.cl T.nS o2 ev_int (ev_v 0) (by show 2 < 1000; decide) (by rfl) fun G3 o3 e3 => ?_
    refine do_fld1 (fs' := [("regs", .ref rg), ("t", .int 0), ("s", .int 0), ("q", .int 0)]) T.cl T.nQ o3 ev_int (ev_v 0) (by show 3 < 1000; decide) (by rfl) fun G4 o4 e4 => ?_
    refine do_fld1 (fs' := [("regs", .ref rg), ("t", .int 0), ("s", .int 0), ("q", .int 0), ("m", .int 0)]) T.cl T.nM o4 ev_int (ev_v 0) (by show 4 < 1000; decide) (by rfl) fun G5 o5 e5 => ?_
    refine do_fld1 (fs' := [("regs", .ref rg), ("t", .int 0), ("s", .int 0), ("q", .int 0), ("m", .int 0), ("mask", .int 0)]) T.cl T.nMask o5 ev_int (ev_v 0) (by show 5 < 1000; decide) (by rfl) fun G6 o6 e6 => ?_
    refine do_fld1 (fs' := [("regs", .ref rg), ("t", .int 0), ("s", .int 0), ("q", .int 0), ("m", .int 0), ("mask", .int 0), ("place", .int 0)]) T.cl T.nPlace o6 ev_int (ev_v 0) (by show 6 < 1000; decide) (by rfl) fun G7 o7 e7 => ?_
    refine do_fld1 (fs' := [("regs", .ref rg), ("t", .int 0), ("s", .int 0), ("q", .int 0), ("m", .int 0), ("mask", .int 0), ("place", .int 0), ("follow", .int 2)]) T.cl T.nFollow o7 ev_int (ev_v 0) (by show 7 < 1000; decide) (by rfl) fun G8 o8 e8 => ?_
    refine do_fld1 (fs' := [("regs", .ref rg), ("t", .int 0), ("s", .int 0), ("q", .int 0), ("m", .int 0), ("mask", .int 0), ("place", .int 0), ("follow", .int 2), ("waiting", .bl false)]) T.cl T.nWait o8 ev_bl (ev_v 0) (by show 8 < 1000; decide) (by rfl) fun G9 o9 e9 => ?_
    refine do_fld1 (fs' := [("regs", .ref rg), ("t", .int 0), ("s", .int 0), ("q", .int 0), ("m", .int 0), ("mask", .int 0), ("place", .int 0), ("follow", .int 2), ("waiting", .bl false), ("why", .int 0)]) T.cl T.nWhy o9 ev_int (ev_v 0) (by show 9 < 1000; decide) (by rfl) fun G10 o10 e10 => ?_
    have s10 : ∀ b o, b ≠ x → H2 b = some o → G10 b = some o := fun b o hb e => by rw [e10 b hb, e9 b hb, e8 b hb, e7 b hb, e6 b hb, e5 b hb, e4 b hb, e3 b hb, e2 b hb]; exact s1 b o hb e
    clear s1 o1 e2 o2 e3 o3 e4 o4 e5 o5 e6 o6 e7 o7 e8 o8 e9 o9 e10
    refine do_cons (ps_fld (pv 0) (pe_lst pa_nil) rfl) ⟨Nat.zero_le _, fun me hme => ?_⟩
    have nmx : x ≠ me := fun e => by rw [← e, o10] at hme; cases hme
    refine ⟨_, rfl, x, C, dx, _, rfl, by rw [upd_ne nmx]; exact o10, T.cl, T.nMem, by show 10 < 1000; decide, ?_⟩
    have s11 : ∀ (u v : HO) b o, b ≠ x → H2 b = some o → (upd (upd G10 me u) x v) b = some o := fun u v b o hb e => by
      rw [upd_ne hb, upd_ne (fun z => by rw [z] at e hb; rw [s10 _ _ hb e] at hme; cases hme)]; exact s10 b o hb e
    refine do_fldG (fs' := [("regs", .ref rg), ("t", .int 0), ("s", .int 0), ("q", .int 0), ("m", .int 0), ("mask", .int 0), ("place", .int 0), ("follow", .int 2), ("waiting", .bl false), ("why", .int 0), ("memory", .ref me)]) (by rfl) fun G11 o11 e11 => ?_
    have s12 : ∀ b o, b ≠ x → H2 b = some o → G11 b = some o := fun b o hb e => by rw [e11]; exact s11 _ _ b o hb e
    clear e11 s11 s10
    refine do_cons (ps_fld (pv 0) pe_dnewK rfl) ?_
    intro td htd
    have ntx : x ≠ td := fun e => by rw [← e, o11] at htd; cases htd
    refine ⟨_, rfl, x, C, dx, _, rfl, by rw [upd_ne ntx]; exact o11, T.cl, T.nTd, by show 11 < 1000; decide, ?_⟩
    have s13 : ∀ (u v : HO) b o, b ≠ x → H2 b = some o → (upd (upd G11 td u) x v) b = some o := fun u v b o hb e => by
      rw [upd_ne hb, upd_ne (fun z => by rw [z] at e hb; rw [s12 _ _ hb e] at htd; cases htd)]; exact s12 b o hb e
    refine do_fldG (fs' := [("regs", .ref rg), ("t", .int 0), ("s", .int 0), ("q", .int 0), ("m", .int 0), ("mask", .int 0), ("place", .int 0), ("follow", .int 2), ("waiting", .bl false), ("why", .int 0), ("memory", .ref me), ("touched", .ref td)]) (by rfl) fun G12 o12 e12 => ?_
    have s14 : ∀ b o, b ≠ x → H2 b = some o → G12 b = some o := fun b o hb e => by rw [e12]; exact s13 _ _ b o hb e
    clear e12 s13 s12
    refine do_cons (ps_fld (pv 0) pe_dnewK rfl) ?_
    intro kn hkn
    have nkx : x ≠ kn := fun e => by rw [← e, o12] at hkn; cases hkn
    refine ⟨_, rfl, x, C, dx, _, rfl, by rw [upd_ne nkx]; exact o12, T.cl, T.nKn, by show 12 < 1000; decide, ?_⟩
    have hknH : H kn = none := by
      cases q : H kn with
      | none => rfl
      | some o => rw [s14 _ _ (Ne.symm nkx) (x2 _ _ q)] at hkn; cases hkn
    have s15 : ∀ (u v : HO) b o, b ≠ x → H2 b = some o → (upd (upd G12 kn u) x v) b = some o := fun u v b o hb e => by
      rw [upd_ne hb, upd_ne (fun z => by rw [z] at e hb; rw [s14 _ _ hb e] at hkn; cases hkn)]; exact s14 b o hb e
    refine do_fldG (fs' := fsOf ⟨x, dx, rg, me, td, kn⟩ M0 0) (by rfl) fun G13 o13 e13 => ?_
    refine do_nil (kk ⟨x, dx, rg, me, td, kn⟩ _ rfl ⟨o13, by rw [e13]; exact s15 _ _ _ _ nrx hrg2, good0⟩ ⟨[], by rw [e13, upd_ne (Ne.symm nkx), upd_same]; rfl, List.nodup_nil, fun p hp => absurd hp (by simp)⟩ hrgH hknH fun b o hb e => by rw [e13]; exact s15 _ _ b o hb (x2 b o e))
end
end Sh
namespace Sh
open PySem PyProof.Rows L2
structure Tn (mg : Str → Option Value) : Prop where
  RESET : ∃ t, mg "RESET" = some (.int 0 t)
  SET : ∃ t, mg "SET" = some (.int 1 t)
  GET : ∃ t, mg "GET" = some (.int 2 t)
  REFUSED : ∃ t, mg "REFUSED" = some (.int (-2) t)
  MOST_STEPS : ∃ t, mg "MOST_STEPS" = some (.int 1000000 t)
def ansQ (C : Addr) (ad : Ac → Addr) (a : Ad) (H : Hp) (Q : VK) (M' : Ra28.M) (out : List Int) : Prop :=
  ∀ me td w' p H', RepC C { a with me := me, td := td } M' w' H' → KnOk ad a.kn H' → H p = none → FrR a H H' → H' p = some (.lst (out.map V.int)) → Q (.ref p) H'
section
variable {C : Addr} {ad : Ac → Addr} {a : Ad} {H H1 : Hp} {Q : VK} {M' : Ra28.M} {out : List Int} {w : Nat}
theorem ans_new (k : ansQ C ad a H Q M' out) (R : RepC C a M' w H1) (KN : KnOk ad a.kn H1) (f : ∀ b o, b ≠ a.p → b ≠ a.rg → H b = some o → H1 b = some o) {p : Addr} (hp : H1 p = none) {l : List V} (hl : l = out.map V.int) : Q (.ref p) (upd H1 p (.lst l)) := by
  have x : Ext H1 (upd H1 p (.lst l)) := Ext.new hp
  have hpH : H p = none := by
    cases q : H p with
    | none => rfl
    | some o =>
      exfalso
      by_cases h1 : p = a.p
      · rw [h1, R.ob] at hp; cases hp
      by_cases h2 : p = a.rg
      · rw [h2, R.rg] at hp; cases hp
      rw [f p o h1 h2 q] at hp; cases hp
  exact k a.me a.td w p _ (R.ext x) (KN.ext x) hpH (fun b o h1 h2 _ e => x b o (f b o h1 h2 e)) (by rw [upd_same, hl])
end
def setM2 (M : Ra28.M) (k : Int) (x : Nat) : Ra28.M := if k < 0 ∨ 22 < k then M else wrV M k.toNat x
def outSet (k : Int) : List Int := if k < 0 ∨ 22 < k then [-2] else [0]
def outGet (M : Ra28.M) (k : Int) : List Int := if k < 0 ∨ 22 < k then [-2] else [0, ((rdV M k.toNat : Nat) : Int)]
def runM2 (M : Ra28.M) (k : Int) (l : List Nat) : Ra28.M := if k < 0 ∨ 1000000 < k then M else (ranM M l k.toNat).1
def outRun (M : Ra28.M) (k : Int) (l : List Nat) : List Int := if k < 0 ∨ 1000000 < k then [-2] else
  ((ranM M l k.toNat).2.2 :: (ranM M l k.toNat).2.1 :: (toldBy l (ranM M l k.toNat)).length :: toldBy l (ranM M l k.toNat)).map fun (x : Nat) => (x : Int)
def spASet (C : Addr) (ad : Ac → Addr) : Sp := fun vs H Q _ => ∃ (a : Ad) (M : Ra28.M) (w : Nat) (k : Int) (x : Nat), vs = [.ref a.p, .int k, .int x] ∧ RepC C a M w H ∧ KnOk ad a.kn H ∧ x < 4294967296 ∧ ansQ C ad a H Q (setM2 M k x) (outSet k)
def spAGet (C : Addr) (ad : Ac → Addr) : Sp := fun vs H Q _ => ∃ (a : Ad) (M : Ra28.M) (w : Nat) (k : Int), vs = [.ref a.p, .int k] ∧ RepC C a M w H ∧ KnOk ad a.kn H ∧ ansQ C ad a H Q M (outGet M k)
def spARun (C : Addr) (ad : Ac → Addr) : Sp := fun vs H Q _ => ∃ (a : Ad) (M : Ra28.M) (w : Nat) (k : Int) (l : List Nat) (fi : Addr), vs = [.ref a.p, .int k, .ref fi] ∧ RepC C a M w H ∧ KnOk ad a.kn H ∧ H fi = some (.lst (natsV l)) ∧ fi ≠ a.rg ∧ l.length ≤ 65536 ∧ (∀ x ∈ l, x < 256) ∧ ansQ C ad a H Q (runM2 M k l) (outRun M k l)
theorem refuse_dec (k m : Int) : (decide (k < 0) || decide (m < k)) = decide (k < 0 ∨ m < k) := by by_cases h1 : k < 0 <;> by_cases h2 : m < k <;> simp [h1, h2]
section
variable {P : Program} {w : World} {K : PySem.W.Frag} {mg : Str → Option Value} {base : Heap} {f C : Addr} {xs : Xs} {fd : FuncData} {ad : Ac → Addr}
theorem sc_aset : FnScope ["machine", "which", "value"] ["machine", "which", "value"] (defScope (top 178)) := ⟨rfl, rfl, rfl, by decide +kernel, rfl, by decide +kernel, by decide +kernel⟩
theorem ok_aset (F : Fun K "answer_set" "answer_set" (top 178) f fd) (T : Tx K mg C) (N : Tn mg) (gw : Mth P w K mg base C "write" ["self", "which", "value"] (spWrite C) 2) : FnOk P w K mg base (CXE P w) 3 f fd ["machine", "which", "value"] (spASet C ad) := by
  refine fn_do F sc_aset (fun vs H Q E h => ?_) (fun cdv A outer s H vs Q E hr h => ?_)
  · obtain ⟨a, M, w, k, x, rfl, _⟩ := h; rfl
  · obtain ⟨a, M, w', k, x, rfl, R, KN, hx, kk⟩ := h
    unfold setM2 outSet at kk
    refine do_if ((tt_or (tt_lt (ev_v 1) ev_int) (tt_gt (ev_v 1) (ev_num T.PLACE))).eq (refuse_dec k 22)) (fun h => ?_) (fun h => ?_)
    · rw [if_pos (of_decide_eq_true h), if_pos (of_decide_eq_true h)] at kk
      exact do_cons (ps_ret (pe_lst (pa_cons (pe_num N.REFUSED) pa_nil))) ⟨Nat.le_of_lt (small1000 (by show 1 ≤ 1000; decide)), fun p hp => ans_new kk R KN (fun b o _ _ e => e) hp rfl⟩
    have hk := of_decide_eq_false h
    rw [if_neg hk, if_neg hk] at kk
    obtain ⟨n, rfl⟩ : ∃ n : Nat, k = n := ⟨k.toNat, by omega⟩
    rw [Int.toNat_natCast] at kk
    refine do_nil ?_
    refine do_meth T.cl gw hr passE R (ev_v 0) (ea_cons (ev_v 1) (ea_cons (ev_v 2) ea_nil)) ⟨a, M, w', n, x, rfl, R, by omega, hx, fun H1 R1 c1 => ?_⟩
    have KN1 : KnOk ad a.kn H1 := by
      obtain ⟨W, k1, k2, k3⟩ := KN
      refine ⟨W, by rw [c1 _ (ne_of k1 R.ob (by intro q; cases q)) (ne_of k1 R.rg (by intro q; cases q))]; exact k1, k2, fun p hp => ⟨(k3 p hp).1, ?_⟩⟩
      obtain ⟨c, b, e1, e2⟩ := (k3 p hp).2
      exact ⟨c, b, e1, by rw [c1 _ (ne_of e2 R.ob (by intro q; cases q)) (ne_of e2 R.rg (by intro q; cases q))]; exact e2⟩
    exact do_cons (ps_ret (pe_lst (pa_cons pe_int pa_nil))) ⟨Nat.le_of_lt (small1000 (by show 1 ≤ 1000; decide)), fun p hp => ans_new kk R1 KN1 (fun b o h1 h2 e => by rw [c1 b h1 h2]; exact e) hp rfl⟩
theorem sc_aget : FnScope ["machine", "which"] ["machine", "which"] (defScope (top 179)) := ⟨rfl, rfl, rfl, by decide +kernel, rfl, by decide +kernel, by decide +kernel⟩
theorem ok_aget (F : Fun K "answer_get" "answer_get" (top 179) f fd) (T : Tx K mg C) (N : Tn mg) (gr : Mth P w K mg base C "read" ["self", "which"] (spRead C) 1) : FnOk P w K mg base (CXE P w) 2 f fd ["machine", "which"] (spAGet C ad) := by
  refine fn_do F sc_aget (fun vs H Q E h => ?_) (fun cdv A outer s H vs Q E hr h => ?_)
  · obtain ⟨a, M, w, k, rfl, _⟩ := h; rfl
  · obtain ⟨a, M, w', k, rfl, R, KN, kk⟩ := h
    unfold outGet at kk
    refine do_if ((tt_or (tt_lt (ev_v 1) ev_int) (tt_gt (ev_v 1) (ev_num T.PLACE))).eq (refuse_dec k 22)) (fun h => ?_) (fun h => ?_)
    · rw [if_pos (of_decide_eq_true h)] at kk
      exact do_cons (ps_ret (pe_lst (pa_cons (pe_num N.REFUSED) pa_nil))) ⟨Nat.le_of_lt (small1000 (by show 1 ≤ 1000; decide)), fun p hp => ans_new kk R KN (fun b o _ _ e => e) hp rfl⟩
    have hk := of_decide_eq_false h
    rw [if_neg hk] at kk
    obtain ⟨n, rfl⟩ : ∃ n : Nat, k = n := ⟨k.toNat, by omega⟩
    rw [Int.toNat_natCast] at kk
    refine do_nil ?_
    exact do_cons (ps_ret (pe_lst (pa_cons pe_int (pa_cons (pe_mm (a := a) T.cl gr hr passE (pv 0) (pa_cons (pv 1) pa_nil)) pa_nil)))) ⟨_, rfl, M, w', rfl, R, _, rfl, a, M, w', n, rfl, R, by omega, Nat.le_of_lt (small1000 (by show 2 ≤ 1000; decide)), fun p hp => ans_new kk R KN (fun b o _ _ e => e) hp rfl⟩
theorem sc_arun : FnScope ["machine", "steps", "first"] ["machine", "steps", "first"] (defScope (top 180)) := ⟨rfl, rfl, rfl, by decide +kernel, rfl, by decide +kernel, by decide +kernel⟩
theorem ok_arun (F : Fun K "answer_run" "answer_run" (top 180) f fd) (N : Tn mg) (gr : Cal P w K mg base "run" ["machine", "steps", "first"] (spRun C ad) 10) : FnOk P w K mg base (CXE P w) 11 f fd ["machine", "steps", "first"] (spARun C ad) := by
  refine fn_do F sc_arun (fun vs H Q E h => ?_) (fun cdv A outer s H vs Q E hr h => ?_)
  · obtain ⟨a, M, w, k, l, fi, rfl, _⟩ := h; rfl
  · obtain ⟨a, M, w', k, l, fi, rfl, R, KN, hfi, nfi, hl, hb, kk⟩ := h
    unfold runM2 outRun at kk
    refine do_if ((tt_or (tt_lt (ev_v 1) ev_int) (tt_gt (ev_v 1) (ev_num N.MOST_STEPS))).eq (refuse_dec k 1000000)) (fun h => ?_) (fun h => ?_)
    · rw [if_pos (of_decide_eq_true h), if_pos (of_decide_eq_true h)] at kk
      exact do_cons (ps_ret (pe_lst (pa_cons (pe_num N.REFUSED) pa_nil))) ⟨Nat.le_of_lt (small1000 (by show 1 ≤ 1000; decide)), fun p hp => ans_new kk R KN (fun b o _ _ e => e) hp rfl⟩
    have hk := of_decide_eq_false h
    rw [if_neg hk, if_neg hk] at kk
    obtain ⟨n, rfl⟩ : ∃ n : Nat, k = n := ⟨k.toNat, by omega⟩
    rw [Int.toNat_natCast] at kk
    refine do_nil ?_
    refine do_retc gr hr passE (ea_cons (ev_v 0) (ea_cons (ev_v 1) (ea_cons (ev_v 2) ea_nil))) ⟨a, M, w', n, l, fi, rfl, R, KN, hfi, nfi, hl, hb, fun me td p H' R' K' hp f' h' => ?_⟩
    refine kk me td _ p H' R' K' hp f' ?_
    rw [h', List.map_map]
    rfl
end
end Sh
namespace Sh
open PySem PyProof.Rows L2
theorem tb (x k : Nat) (b : Bool) (h : x / 2 ^ k % 2 = Ra28.bit b) : x.testBit k = b := by
  rw [Nat.testBit_eq_decide_div_mod_eq, h]
  cases b <;> decide
theorem whole_part {M : Ra28.M} (g : Good M) (f : Nat → Nat) : Ra28.whole (Ra28.part M) f = { M with mem := f } := by
  have a1 := bit_lt M.t; have a2 := bit_lt M.s; have a3 := bit_lt M.q; have a4 := bit_lt M.m; have a5 := g.i
  have e0 : (Ra28.sr M).testBit 0 = M.t := tb _ _ _ (by unfold Ra28.sr; omega)
  have e1 : (Ra28.sr M).testBit 1 = M.s := tb _ _ _ (by unfold Ra28.sr; omega)
  have e8 : (Ra28.sr M).testBit 8 = M.q := tb _ _ _ (by unfold Ra28.sr; omega)
  have e9 : (Ra28.sr M).testBit 9 = M.m := tb _ _ _ (by unfold Ra28.sr; omega)
  have ei : Ra28.sr M / 16 % 16 = M.i := by unfold Ra28.sr; omega
  show (⟨M.r, (Ra28.sr M).testBit 0, (Ra28.sr M).testBit 1, (Ra28.sr M).testBit 8, (Ra28.sr M).testBit 9, Ra28.sr M / 16 % 16, M.gbr, M.vbr, M.mac, M.pr, M.pc, M.npc, M.slot, f⟩ : Ra28.M) = _
  rw [e0, e1, e8, e9, ei]
theorem sr_small : ∀ y : Nat, y < 1024 → Ra28.bit (y.testBit 0) + 2 * Ra28.bit (y.testBit 1) + 16 * (y / 16 % 16) + 256 * Ra28.bit (y.testBit 8) + 512 * Ra28.bit (y.testBit 9) = y &&& 1011 := by decide +kernel
theorem sr_set (M : Ra28.M) (x : Nat) : Ra28.sr (Ra28.setSr M x) = x &&& 1011 := by
  show Ra28.bit (x.testBit 0) + 2 * Ra28.bit (x.testBit 1) + 16 * (x / 16 % 16) + 256 * Ra28.bit (x.testBit 8) + 512 * Ra28.bit (x.testBit 9) = _
  have h := sr_small (x % 1024) (by omega)
  have t : ∀ k, k < 10 → (x % 1024).testBit k = x.testBit k := fun k hk => by
    rw [show (1024 : Nat) = 2 ^ 10 from rfl, Nat.testBit_mod_two_pow]
    simp [hk]
  rw [t 0 (by decide), t 1 (by decide), t 8 (by decide), t 9 (by decide), show x % 1024 / 16 % 16 = x / 16 % 16 by omega] at h
  rw [h]
  have e := Nat.and_mod_two_pow (a := x) (b := 1011) (n := 10)
  rw [show (2 : Nat) ^ 10 = 1024 from rfl, show 1011 % 1024 = 1011 from rfl] at e
  rw [← e]
  exact Nat.mod_eq_of_lt (Nat.lt_of_le_of_lt Nat.and_le_right (by decide))
theorem set_part (M : Ra28.M) (k : Int) (x : Nat) (h : ¬ (k < 0 ∨ 22 < k)) : (Ra28.spec (Ra28.part M) (.set k x)).2 = Ra28.part (wrV M k.toNat x) := by
  obtain ⟨n, rfl⟩ : ∃ n : Nat, k = n := ⟨k.toNat, by omega⟩
  rw [Int.toNat_natCast]
  unfold Ra28.spec
  dsimp only
  rw [if_neg h]
  dsimp only
  by_cases h0 : n < 16
  · rw [if_pos (by omega)]
    have e : wrV M n x = Ra28.set M n x := by
      unfold wrV setR
      rw [if_neg (by omega), if_neg (by omega), if_pos h0]
    rw [e]
    rfl
  rw [if_neg (by omega)]
  have hn : n = 16 ∨ n = 17 ∨ n = 18 ∨ n = 19 ∨ n = 20 ∨ n = 21 ∨ n = 22 := by omega
  rcases hn with rfl | rfl | rfl | rfl | rfl | rfl | rfl
  · show ({ Ra28.part M with sr := x &&& 1011 } : Ra28.Cpu) = Ra28.part (Ra28.setSr M x)
    rw [← sr_set M x]
    rfl
  · rfl
  · rfl
  · rfl
  · rfl
  · rfl
  · rfl
theorem get_part (M : Ra28.M) (k : Int) (h : ¬ (k < 0 ∨ 22 < k)) : Ra28.spec (Ra28.part M) (.get k) = ({ value := 0, number := some (rdV M k.toNat) }, Ra28.part M) := by
  obtain ⟨n, rfl⟩ : ∃ n : Nat, k = n := ⟨k.toNat, by omega⟩
  rw [Int.toNat_natCast]
  unfold Ra28.spec
  dsimp only
  rw [if_neg h]
  by_cases h0 : n < 16
  · rw [if_pos (by omega)]
    have e : rdV M n = M.r n := by
      unfold rdV regV
      rw [if_neg (by omega), if_neg (by omega), if_pos h0]
    rw [e]
    rfl
  rw [if_neg (by omega)]
  have hn : n = 16 ∨ n = 17 ∨ n = 18 ∨ n = 19 ∨ n = 20 ∨ n = 21 ∨ n = 22 := by omega
  rcases hn with rfl | rfl | rfl | rfl | rfl | rfl | rfl <;> rfl
theorem ints_nat (l : List Nat) : Ra28Neutral.ints l = l.map fun (x : Nat) => (x : Int) := rfl
theorem step0 (s : Ra28.Cpu) : Ra28Neutral.step s [[0]] = (Ra28.part M0, [0]) := rfl
theorem step1 (M : Ra28.M) (k x : Int) : Ra28Neutral.step (Ra28.part M) [[1, k, x]] = (Ra28.part (setM2 M k x.toNat), outSet k) := by
  by_cases h : k < 0 ∨ 22 < k
  · have e : Ra28.spec (Ra28.part M) (.set k x.toNat) = ({ value := -2 }, Ra28.part M) := by unfold Ra28.spec; dsimp only; rw [if_pos h]
    show (let r := Ra28.spec (Ra28.part M) (.set k x.toNat); ((r.2, [r.1.value] ++ (Ra28Neutral.ints (r.1.number.toList ++ r.1.told) ++ [])) : Ra28.Cpu × List Int)) = _
    rw [e]
    unfold setM2 outSet
    rw [if_pos h, if_pos h]
    rfl
  · have e := set_part M k x.toNat h
    have e1 : (Ra28.spec (Ra28.part M) (.set k x.toNat)).1 = { value := 0 } := by unfold Ra28.spec; dsimp only; rw [if_neg h]
    show (let r := Ra28.spec (Ra28.part M) (.set k x.toNat); ((r.2, [r.1.value] ++ (Ra28Neutral.ints (r.1.number.toList ++ r.1.told) ++ [])) : Ra28.Cpu × List Int)) = _
    dsimp only
    rw [e, e1]
    unfold setM2 outSet
    rw [if_neg h, if_neg h]
    rfl
theorem step2 (M : Ra28.M) (k : Int) : Ra28Neutral.step (Ra28.part M) [[2, k]] = (Ra28.part M, outGet M k) := by
  show (let r := Ra28.spec (Ra28.part M) (.get k); ((r.2, [r.1.value] ++ (Ra28Neutral.ints (r.1.number.toList ++ r.1.told) ++ [])) : Ra28.Cpu × List Int)) = _
  unfold outGet
  by_cases h : k < 0 ∨ 22 < k
  · have e : Ra28.spec (Ra28.part M) (.get k) = ({ value := -2 }, Ra28.part M) := by unfold Ra28.spec; dsimp only; rw [if_pos h]
    rw [e, if_pos h]
    rfl
  · rw [get_part M k h, if_neg h]
    rfl
theorem step3 {M : Ra28.M} (g : Good M) (k : Int) (m : List Int) : Ra28Neutral.step (Ra28.part M) [[3, k], m] = (Ra28.part (runM2 M k (Ra28Neutral.nats m)), outRun M k (Ra28Neutral.nats m)) := by
  show (let r := Ra28.spec (Ra28.part M) (.run (Ra28Neutral.nats m) k); ((r.2, [r.1.value] ++ (Ra28Neutral.ints (r.1.number.toList ++ r.1.told) ++ (if ([r.1.value] : List Int).all (fun (z : Int) => decide (0 ≤ z)) = true then Ra28Neutral.long (Ra28Neutral.ints (Ra28Neutral.changed (Ra28Neutral.nats m) r.1.memory 0)) else []))) : Ra28.Cpu × List Int)) = _
  unfold runM2 outRun
  generalize Ra28Neutral.nats m = l
  by_cases h : k < 0 ∨ 1000000 < k
  · have e : Ra28.spec (Ra28.part M) (.run l k) = ({ value := -2 }, Ra28.part M) := by unfold Ra28.spec; dsimp only; rw [if_pos h]
    rw [e, if_pos h, if_pos h]
    rfl
  · have e : Ra28.spec (Ra28.part M) (.run l k) = ({ value := ((ranM M l k.toNat).2.2 : Int), memory := (List.range 65536).map (ranM M l k.toNat).1.mem, told := [(ranM M l k.toNat).2.1] }, Ra28.part (ranM M l k.toNat).1) := by
      unfold Ra28.spec ranM
      dsimp only
      rw [if_neg h, whole_part g]
      rfl
    rw [e, if_neg h, if_neg h]
    unfold toldBy
    generalize ranM M l k.toNat = Z
    dsimp only
    rw [told_changed]
    generalize (List.range 65536).flatMap (tell l Z.1.mem) = tl
    have hz : ([((Z.2.2 : Nat) : Int)] : List Int).all (fun (z : Int) => decide (0 ≤ z)) = true := by simp
    rw [if_pos hz]
    show ((Ra28.part Z.1, ((Z.2.2 : Nat) : Int) :: ((Z.2.1 : Nat) : Int) :: (((Ra28Neutral.ints tl).length : Nat) : Int) :: Ra28Neutral.ints tl) : Ra28.Cpu × List Int) = _
    rw [ints_nat, List.length_map]
    rfl
end Sh
namespace Sh
theorem whole_id (c : List (List Int)) : PyRa28.whole c = c := by
  unfold PyRa28.whole
  split <;> rfl
theorem wholes (cs : List (List (List Int))) : cs.map PyRa28.whole = cs := by
  rw [show PyRa28.whole = id from funext whole_id, List.map_id]
inductive First : List Int → List (List Int) → List Int → Prop where
  | reset (t : List Int) : First (0 :: t) [[0]] t
  | set (x y : Int) (t : List Int) : First (1 :: x :: y :: t) [[1, x, y]] t
  | get (x : Int) (t : List Int) : First (2 :: x :: t) [[2, x]] t
  | run (x : Int) (m t : List Int) : First (3 :: x :: (m.length : Int) :: (m ++ t)) [[3, x], m] t
theorem first_of {p : Int} {r : List Int} {c : List (List Int)} {t : List Int} (h : PyFlat.call PyRa28.shape (p :: r) = some (c, t)) : First (p :: r) c t := by
  unfold PyFlat.call at h
  unfold PyRa28.shape at h
  dsimp only at h
  by_cases h0 : p = 0
  · subst h0
    simp only [if_true] at h
    rw [if_neg (by omega)] at h
    simp only [PyFlat.rows, List.drop_zero, List.take_zero, Option.some.injEq, Prod.mk.injEq] at h
    obtain ⟨rfl, rfl⟩ := h
    exact .reset _
  rw [if_neg h0] at h
  by_cases h1 : p = 1
  · subst h1
    simp only [if_true] at h
    match r, h with
    | [], h => simp at h
    | [x], h => simp at h
    | x :: y :: t', h =>
      rw [if_neg (by simp)] at h
      simp only [PyFlat.rows, List.drop_succ_cons, List.drop_zero, List.take_succ_cons, List.take_zero, Option.some.injEq, Prod.mk.injEq] at h
      obtain ⟨rfl, rfl⟩ := h
      exact .set _ _ _
  rw [if_neg h1] at h
  by_cases h2 : p = 2
  · subst h2
    simp only [if_true] at h
    match r, h with
    | [], h => simp at h
    | x :: t', h =>
      rw [if_neg (by simp)] at h
      simp only [PyFlat.rows, List.drop_succ_cons, List.drop_zero, List.take_succ_cons, List.take_zero, Option.some.injEq, Prod.mk.injEq] at h
      obtain ⟨rfl, rfl⟩ := h
      exact .get _ _
  rw [if_neg h2] at h
  by_cases h3 : p = 3
  · subst h3
    simp only [if_true] at h
    match r, h with
    | [], h => simp at h
    | [x], h => simp [PyFlat.rows, PyFlat.row] at h
    | x :: n :: t', h =>
      rw [if_neg (by simp)] at h
      simp only [PyFlat.rows, PyFlat.row, List.drop_succ_cons, List.drop_zero, List.take_succ_cons, List.take_zero] at h
      by_cases hn : 0 ≤ n ∧ n.toNat ≤ t'.length
      · rw [if_pos hn] at h
        simp only [Option.some.injEq, Prod.mk.injEq] at h
        obtain ⟨rfl, rfl⟩ := h
        have e : n = ((t'.take n.toNat).length : Int) := by rw [List.length_take]; omega
        have z := First.run x (t'.take n.toNat) (t'.drop n.toNat)
        rw [List.take_append_drop, ← e] at z
        exact z
      · rw [if_neg hn] at h
        cases h
  rw [if_neg h3] at h
  cases h
theorem calls_cons {f : Nat} {l : List Int} {cs : List (List (List Int))} (h : PyFlat.calls PyRa28.shape f l = some cs) : (l = [] ∧ cs = []) ∨ ∃ f' c t cs', First l c t ∧ cs = c :: cs' ∧ PyFlat.calls PyRa28.shape f' t = some cs' := by
  cases l with
  | nil =>
    unfold PyFlat.calls at h
    simp only [Option.some.injEq] at h
    exact .inl ⟨rfl, h.symm⟩
  | cons p r =>
    cases f with
    | zero => unfold PyFlat.calls at h; cases h
    | succ f =>
      unfold PyFlat.calls at h
      cases hc : PyFlat.call PyRa28.shape (p :: r) with
      | none => rw [hc] at h; cases h
      | some ct =>
        obtain ⟨c, t⟩ := ct
        rw [hc] at h
        dsimp only at h
        cases hr : PyFlat.calls PyRa28.shape f t with
        | none => rw [hr] at h; cases h
        | some cs' =>
          rw [hr] at h
          simp only [Option.some.injEq] at h
          exact .inr ⟨f, c, t, cs', first_of hc, h.symm, hr⟩
end Sh
namespace Sh
open PySem PyProof.Rows L2
def CaOk (K : PySem.W.Frag) (H : Hp) (a : Addr) (xs : List V) : Prop := (∃ o, H a = some (.frz o (.lst xs))) ∨
  ∃ (o : Obj) (its : Array Value) (n : Nat), K.lookup a = some o ∧ o.cls = .type "list" ∧ o.dict = none ∧ o.data = .seq its n ∧ its.size ≤ sizeLine ∧ Vals xs its.toList
theorem CaOk.sq {K : PySem.W.Frag} {H : Hp} {a : Addr} {xs : List V} (h : CaOk K H a xs) : SqL K H a xs := by
  rcases h with ⟨o, h⟩ | h
  · exact .inl (.inr ⟨o, h⟩)
  · exact .inr h
theorem CaOk.go {K : PySem.W.Frag} {H H' : Hp} {a : Addr} {xs : List V} (h : CaOk K H a xs) (f : ∀ o u, H a = some (.frz o u) → H' a = some (.frz o u)) : CaOk K H' a xs := by
  rcases h with ⟨o, h⟩ | h
  · exact .inl ⟨o, f _ _ h⟩
  · exact .inr h
def spAnswers (K : PySem.W.Frag) : Sp := fun vs H Q _ => ∃ (ca : Addr) (l : List Int), vs = [.ref ca] ∧ CaOk K H ca (l.map V.int) ∧ PyRa28.answers_asked l = true ∧ l.length ≤ 30000 ∧
  ∀ p H', H' p = some (.lst ((PyRa28.answers l).map V.int)) → Q (.ref p) H'
theorem int_get {l : List Int} {k : Nat} {x : Int} {t : List Int} (h : l.drop k = x :: t) : (l.map V.int)[k]? = some (.int x) ∧ l.drop (k + 1) = t ∧ k < l.length := by
  have h1 : l[k]? = some x := by rw [← List.head?_drop, h]; rfl
  have h2 : l.drop (k + 1) = t := by rw [← List.drop_drop, h]; rfl
  have h3 : k < l.length := (List.getElem?_eq_some_iff.mp h1).1
  exact ⟨by rw [List.getElem?_map, h1]; rfl, h2, h3⟩
section
variable {X : Cx} {σ : L2.St} {H : Hp} {D : Ends} {ss : List Stmt} {o e ek : Expr} {pos pos' apos p : Pos} {v : V}
theorem do_extend {L B : Addr} {xs zs : List V} (ho : Ev X σ H o (.ref L)) (he : Ev X σ H e (.ref B)) (h : H L = some (.lst xs)) (hB : H B = some (.lst zs)) (hz : xs.length + zs.length ≤ sizeLine) (k : Do X ss D σ (upd H L (.lst (xs ++ zs))))
    (hbase : attributeBase o "extend" X.env (eval o X.env) = eval o X.env := by rfl)
    (hfew : ((backTo pos (starEach [e] X.env)).all (fun x => !x.1) && (backToKw pos (keywordEach [] X.env)).all (fun x => x.1.isSome)
      && decide (([e] : List Expr).length + ([] : List Keyword).length + (if ([] : List Keyword).isEmpty then 0 else 1) < 30)) = true := by rfl)
    (hline : (apos.endLine == pos.line) = true := by rfl) (s1 : starEach [e] X.env = (false, eval e X.env) :: starEach [] X.env := by rfl) (hpl : (backTo pos (starEach [] X.env)).any (·.1) = false := by rfl)
    (hs : swapsWith (.Call (.Attribute o "extend" apos) [e] [] pos) none pos'.line X.env = pure false := by rfl) : Do X (.Expr (.Call (.Attribute o "extend" apos) [e] [] pos) pos' :: ss) D σ H :=
  do_expr (pe_bm PySem.F.plainAttrs_list PySem.F.slot_list_extend PySem.F.type_list_extend mt_extend ho (ea_cons he ea_nil s1) hbase hfew hline s1 hpl) ⟨rfl, rfl, .inl ⟨rfl, _, SqL.of h⟩, rfl, rfl, L, B, xs, zs, rfl, rfl, h, hB, hz, k⟩ hs
theorem do_augn (i : Nat) {x : Str} {m n : Int} (nd : X.N.Nodup) (he : Ev X σ H e (.int n)) (hσ : σ[i]? = some (some (.int m))) (k : Do X ss D (σ.set i (some (.int (m + n)))) H) (hi : X.N[i]? = some x := by rfl) (hx : Loc X.env.scope x := by exact Or.inl rfl) (hf : X.fn x = true ∨ X.env.scope.names.lookup x = some .local := by first | exact .inl rfl | exact .inr rfl | assumption) :
    Do X (.AugAssign (.Name x pos') .Add e pos :: ss) D σ H := do_cons (ps_aug (i := i) nd hi hx he ip_add hf) ⟨_, hσ, rfl, rfl, _, _, rfl, rfl, k⟩
end
def dueOf (M : Ra28.M) (cs : List (List (List Int))) : List Int := PyFlat.told (PyFlat.played Ra28Neutral.step (Ra28.part M) cs)
theorem due_cons {M M' : Ra28.M} {c : List (List Int)} {cs : List (List (List Int))} {out : List Int} (h : Ra28Neutral.step (Ra28.part M) c = (Ra28.part M', out)) : dueOf M (c :: cs) = ((out.length : Int) :: out) ++ dueOf M' cs := by
  unfold dueOf
  show PyFlat.told ((Ra28Neutral.step (Ra28.part M) c).2 :: PyFlat.played Ra28Neutral.step (Ra28Neutral.step (Ra28.part M) c).1 cs) = _
  rw [h]
  unfold PyFlat.told
  rw [List.flatMap_cons]
section
variable {C : Addr} {ad : Ac → Addr} {a : Ad} {M : Ra28.M} {w : Nat} {H : Hp} {TL ca : Addr} {l ys xs : List V} {K : PySem.W.Frag}
theorem RepC.updL (R : RepC C a M w H) (h : H TL = some (.lst l)) (n : TL ≠ a.rg) : RepC C a M w (upd H TL (.lst ys)) :=
  ⟨by rw [upd_ne (ne_of R.ob h (by intro q; cases q))]; exact R.ob, by rw [upd_ne (Ne.symm n)]; exact R.rg, R.good⟩
theorem KnOk.updL {kn : Addr} (k : KnOk ad kn H) (h : H TL = some (.lst l)) : KnOk ad kn (upd H TL (.lst ys)) := by
  obtain ⟨W, k1, k2, k3⟩ := k
  refine ⟨W, by rw [upd_ne (ne_of k1 h (by intro q; cases q))]; exact k1, k2, fun p hp => ⟨(k3 p hp).1, ?_⟩⟩
  obtain ⟨c, b, e1, e2⟩ := (k3 p hp).2
  exact ⟨c, b, e1, by rw [upd_ne (ne_of e2 h (by intro q; cases q))]; exact e2⟩
theorem CaOk.updL (c : CaOk K H ca xs) (h : H TL = some (.lst l)) : CaOk K (upd H TL (.lst ys)) ca xs := c.go fun o u e => by rw [upd_ne (ne_of e h (by intro q; cases q))]; exact e
theorem CaOk.frR {H' : Hp} (c : CaOk K H ca xs) (R : RepC C a M w H) (KN : KnOk ad a.kn H) (f : FrR a H H') : CaOk K H' ca xs := c.go fun o u e => by
  obtain ⟨W, k1, _⟩ := KN
  exact f _ _ (ne_of e R.ob (by intro q; cases q)) (ne_of e R.rg (by intro q; cases q)) (ne_of e k1 (by intro q; cases q)) e
end
def whBody (s : Stmt) : List Stmt := match s with
  | .While _ b _ _ => b
  | _ => []
structure LoopI (K : PySem.W.Frag) (C : Addr) (ad : Ac → Addr) (ca : Addr) (l : List Int) (σ : L2.St) (H : Hp) (at_ : Nat) : Prop where
  ex : ∃ (a : Ad) (M : Ra28.M) (w f : Nat) (cs : List (List (List Int))) (out : List Int) (TL : Addr) (x4 x5 x6 : Option V), σ = [some (.ref ca), some (.ref a.p), some (.ref TL), some (.int (at_ : Nat)), x4, x5, x6] ∧ RepC C a M w H ∧ KnOk ad a.kn H ∧
    H TL = some (.lst (out.map V.int)) ∧ TL ≠ a.rg ∧ PyFlat.calls PyRa28.shape f (l.drop at_) = some cs ∧ cs.all Ra28Neutral.askedOne = true ∧ out ++ dueOf M cs = PyRa28.answers l
  ca : CaOk K H ca (l.map V.int)
  le : at_ ≤ l.length
section
variable {P : Program} {w : World} {K : PySem.W.Frag} {mg : Str → Option Value} {base : Heap} {f C : Addr} {xs : Xs} {fd : FuncData} {ad : Ac → Addr}
theorem sc_top : FnScope ["calls", "machine", "told", "at", "call", "answer", "end"] ["calls"] (defScope (top 181)) := ⟨rfl, rfl, rfl, by decide +kernel, rfl, by decide +kernel, by decide +kernel⟩
theorem ok_top {fI : Addr} {fdI : FuncData} (F : Fun K "answers" "answers" (top 181) f fd) (T : Tx K mg C) (B : Blt mg) (N : Tn mg) (MK : Mk K C fI) (hmC : mg "Machine" = some (.ref C)) (FI : FnOk P w K mg base (CXE P w) 1 fI fdI ["self"] (spInit C ad)) (bI : Binds K fdI ["self"] [])
    (gset : Cal P w K mg base "answer_set" ["machine", "which", "value"] (spASet C ad) 3) (gget : Cal P w K mg base "answer_get" ["machine", "which"] (spAGet C ad) 2) (grun : Cal P w K mg base "answer_run" ["machine", "steps", "first"] (spARun C ad) 11) : FnOk P w K mg base CX0 12 f fd ["calls"] (spAnswers K) := by
  refine fn_do0 F sc_top (fun vs H Q E h => ?_) (fun cdv A outer s H vs Q E hr h => ?_)
  · obtain ⟨ca, l, rfl, _⟩ := h; rfl
  · obtain ⟨ca, l, rfl, hca, hask, hlen, kk⟩ := h
    have nd := sc_top.nd
    have hsz : sizeLine = 16777216 := sizeLine_eq
    obtain ⟨cs0, hcs0, hall, hshort⟩ : ∃ cs, PyFlat.calls PyRa28.shape l.length l = some cs ∧ cs.all Ra28Neutral.askedOne = true ∧ (PyRa28.answers l).length ≤ 10000000 := by
      unfold PyRa28.answers_asked at hask
      unfold PyRa28.calls at hask
      cases hc : PyFlat.calls PyRa28.shape l.length l with
      | none => rw [hc] at hask; cases hask
      | some cs =>
        rw [hc] at hask
        dsimp only at hask
        rw [wholes] at hask
        simp only [Bool.and_eq_true, Ra28Neutral.asked, PyFlat.short, decide_eq_true_eq] at hask
        exact ⟨cs, rfl, hask.1.2.2, hask.2⟩
    have hans : PyRa28.answers l = dueOf M0 cs0 := by
      unfold PyRa28.answers PyRa28.calls
      rw [hcs0]
      dsimp only
      rw [wholes]
      rfl
    refine do_cons (ps_set (i := 1) nd rfl (Or.inl rfl) (pe_make0 MK FI (hr.mono (by decide)) rfl hmC bI .nil pass0E)) ?_
    intro x dx hx hdx ndx
    have cag : ∀ {H' : Hp} {b : Addr}, H b = none → (∀ b' o, b' ≠ b → H b' = some o → H' b' = some o) → ∀ o u, H ca = some (.frz o u) → H' ca = some (.frz o u) := fun hb st o u e => st _ _ (fun z => by rw [z, hb] at e; cases e) e
    refine ⟨x, dx, rfl, upd_same, fun a H1 ea R1 K1 hrg hkn st1 => ⟨rfl, ?_⟩⟩
    subst ea
    have hca1 : CaOk K H1 ca (l.map V.int) := hca.go fun o u e => st1 _ _ (fun z => by rw [z, hx] at e; cases e) (by
      rw [upd_ne (fun z => by rw [z, hx] at e; cases e), upd_ne (fun z => by rw [z, hdx] at e; cases e)]; exact e)
    refine do_cons (ps_set (i := 2) nd rfl (Or.inl rfl) (pe_lst pa_nil)) ⟨Nat.zero_le _, fun TL hTL => ?_⟩
    have x2 : Ext H1 (upd H1 TL (.lst [])) := Ext.new hTL
    refine do_set 3 nd ev_int ?_
    have I0 : LoopI K C ad ca l [some (.ref ca), some (.ref a.p), some (.ref TL), some (.int ((0 : Nat) : Int)), none, none, none] (upd H1 TL (.lst [])) 0 :=
      ⟨⟨a, M0, 0, l.length, cs0, [], TL, none, none, none, rfl, R1.ext x2, K1.ext x2, upd_same, (fun e => by rw [e, R1.rg] at hTL; cases hTL), hcs0, hall, by rw [hans]; rfl⟩, hca1.go fun o u e => x2 _ _ e, Nat.zero_le _⟩
    refine do_cons (ps_while PassesOwn.never (pt_cmpR op_lt (pv 3) (pe_callB call_len_seq rfl B.len PySem.boot_len (pa_cons (pv 0) pa_nil)) (nomark _)) pss_do) ?_
    refine ⟨fun m σ' H' => ∃ at_, LoopI K C ad ca l σ' H' at_ ∧ m = l.length - at_, ⟨_, 0, I0, rfl⟩, ?_⟩
    clear I0 x2 hTL hca1 st1 hkn hrg K1 R1 hx hdx ndx hca cag hcs0 hall
    rintro m σ' H2 ⟨at_, ⟨⟨a, M, w', f', cs, out, TL, x4, x5, x6, rfl, R, KN, hTL, nTL, hcs, hall, hdue⟩, hca, hle⟩, rfl⟩
    refine ⟨_, rfl, _, rfl, ca, _, rfl, .inl hca.sq, _, _, rfl, rfl, _, rfl, ?_⟩
    have hol : out.length ≤ 10000000 := by
      have := congrArg List.length hdue
      rw [List.length_append] at this
      omega
    by_cases hlt : at_ < l.length
    · refine ite_t (decide_eq_true (by rw [List.length_map]; omega)) ?_
      refine ⟨fun σ2 H3 => ∃ m', m' < l.length - at_ ∧ ∃ at_, LoopI K C ad ca l σ2 H3 at_ ∧ m' = l.length - at_, fun _ _ h => h, ?_⟩
      rcases calls_cons hcs with ⟨e, _⟩ | ⟨f2, c, t, cs', hfst, rfl, hcs'⟩
      · exfalso
        have := congrArg List.length e
        rw [List.length_drop, List.length_nil] at this
        omega
      simp only [List.all_cons, Bool.and_eq_true] at hall
      obtain ⟨hone, hall⟩ := hall
      let D1 : Ends := { nx := fun σ2 H3 => ∃ m', m' < l.length - at_ ∧ ∃ at_, LoopI K C ad ca l σ2 H3 at_ ∧ m' = l.length - at_, rt := Q, bk := fun σ' H' => Do (cxOf CX0 P w K mg base ["calls", "machine", "told", "at", "call", "answer", "end"] "answers" (defScope (top 181)) f cdv A outer s H E).nox ((defBody (top 181)).drop 4) { nx := fun _ H' => Q .non H', rt := Q } σ' H', ct := fun σ2 H3 => ∃ m', m' < l.length - at_ ∧ ∃ at_, LoopI K C ad ca l σ2 H3 at_ ∧ m' = l.length - at_ }
      have fin : ∀ (a2 : Ad) (M2 : Ra28.M) (w2 at2 : Nat) (H4 : Hp) (p : Addr) (oc : List Int) (y4 y6 : Option V), RepC C a2 M2 w2 H4 → KnOk ad a2.kn H4 → H4 TL = some (.lst (out.map V.int)) → TL ≠ a2.rg → H4 p = some (.lst (oc.map V.int)) → p ≠ TL → CaOk K H4 ca (l.map V.int) → at_ < at2 → at2 ≤ l.length → l.drop at2 = t →
          Ra28Neutral.step (Ra28.part M) c = (Ra28.part M2, oc) →
          Do (cxOf CX0 P w K mg base ["calls", "machine", "told", "at", "call", "answer", "end"] "answers" (defScope (top 181)) f cdv A outer s H E).nox ((whBody ((defBody (top 181)).getD 3 (.Pass ⟨0, 0, 0, 0⟩))).drop 2) D1 [some (.ref ca), some (.ref a2.p), some (.ref TL), some (.int (at2 : Nat)), y4, some (.ref p), y6] H4 := by
        intro a2 M2 w2 at2 H4 p oc y4 y6 R4 K4 hT nT hp npT hca4 h1 h2 h3 hst
        rw [due_cons hst, ← List.append_assoc] at hdue
        have htot : out.length + (oc.length + 1) ≤ 10000000 := by
          have := congrArg List.length hdue
          rw [List.length_append, List.length_append, List.length_cons] at this
          omega
        refine do_append (ev_v 2) (ev_len B (ev_v 5) (SqL.of hp)) hT (by rw [List.length_map]; omega) ?_
        refine do_extend (ev_v 2) (ev_v 5) upd_same (by rw [upd_ne npT]; exact hp) (by rw [List.length_append, List.length_map, List.length_map]; show out.length + 1 + _ ≤ _; omega) ?_
        rw [upd_upd]
        refine do_nil ⟨l.length - at2, by omega, at2, ⟨⟨a2, M2, w2, f2, cs', out ++ ((oc.length : Int) :: oc), TL, y4, some (.ref p), y6, rfl, R4.updL hT nT, K4.updL hT, ?_, nT, by rw [h3]; exact hcs', hall, hdue⟩, hca4.updL hT, h2⟩, rfl⟩
        rw [upd_same, List.map_append, List.map_cons, List.length_map, List.append_assoc]
        rfl
      generalize hd : l.drop at_ = dl at hfst
      cases hfst with
      | reset =>
        obtain ⟨v0, e1, _⟩ := int_get hd
        refine do_set 4 nd (ev_lix (ev_v 0) (ev_v 3) hca.sq v0) ?_
        refine do_if ((tt_eq (ev_v 4) (ev_num N.RESET)).eq (show _ = true from rfl)) (fun _ => ?_) (fun h => by cases h)
        refine do_cons (ps_set (i := 1) nd rfl (Or.inl rfl) (pe_make0 MK FI (hr.mono (by decide)) rfl hmC bI .nil pass0E)) ?_
        intro x dx hx hdx ndx
        refine ⟨x, dx, rfl, upd_same, fun a2 H3 ea R3 K3 hrg hkn st3 => ⟨rfl, ?_⟩⟩
        subst ea
        have up : ∀ b o, H2 b = some o → (upd (upd H2 dx (.own a2.p)) a2.p (.ins C dx [])) b = some o := fun b o e => by
          rw [upd_ne (fun z => by rw [z, hx] at e; cases e), upd_ne (fun z => by rw [z, hdx] at e; cases e)]; exact e
        have st : ∀ b o, H2 b = some o → H3 b = some o := fun b o e => st3 b o (fun z => by rw [z, hx] at e; cases e) (up b o e)
        refine do_cons (ps_set (i := 5) nd rfl (Or.inl rfl) (pe_lst (pa_cons pe_int pa_nil))) ⟨Nat.le_of_lt (small1000 (by show 1 ≤ 1000; decide)), fun p hp => ?_⟩
        have x4' : Ext H3 (upd H3 p (.lst [.int 0])) := Ext.new hp
        refine do_augn 3 nd ev_int rfl ?_
        refine do_nil ?_
        refine fin a2 M0 0 (at_ + 1) _ p [0] _ _ (R3.ext x4') (K3.ext x4') (x4' _ _ (st _ _ hTL)) (fun e => by have := up _ _ hTL; rw [e, hrg] at this; cases this) upd_same (fun e => by rw [e, st _ _ hTL] at hp; cases hp) (hca.go fun o u e => x4' _ _ (st _ _ e)) (by omega) (by omega) e1 (step0 _)
      | set x y =>
        have hy : 0 ≤ y ∧ y ≤ 4294967295 := by
          have : (Ra28Neutral.int x && Ra28Neutral.word y) = true := hone
          simp only [Bool.and_eq_true, Ra28Neutral.word, NeutralIO.within, decide_eq_true_eq] at this
          exact this.2
        obtain ⟨yn, rfl⟩ : ∃ n : Nat, y = n := ⟨y.toNat, by omega⟩
        obtain ⟨v0, e1, l1⟩ := int_get hd
        obtain ⟨v1, e2, l2⟩ := int_get e1
        obtain ⟨v2, e3, l3⟩ := int_get e2
        refine do_set 4 nd (ev_lix (ev_v 0) (ev_v 3) hca.sq v0) ?_
        refine do_if ((tt_eq (ev_v 4) (ev_num N.RESET)).eq (show _ = false from rfl)) (fun h => by cases h) (fun _ => ?_)
        refine do_if ((tt_eq (ev_v 4) (ev_num N.SET)).eq (show _ = true from rfl)) (fun _ => ?_) (fun h => by cases h)
        refine do_setc 5 nd gset (hr.mono (by decide)) pass0E (ea_cons (ev_v 1) (ea_cons (ev_lix (n := at_ + 1) (ev_v 0) ((ev_add (ev_v 3) ev_int).int (by omega)) hca.sq v1) (ea_cons (ev_lix (n := at_ + 1 + 1) (ev_v 0) ((ev_add (ev_v 3) ev_int).int (by omega)) hca.sq v2) ea_nil)))
          ⟨a, M, w', x, yn, rfl, R, KN, by omega, fun me td w2 p H3 R3 K3 hp f3 h3 => ?_⟩
        refine do_augn 3 nd ev_int rfl ?_
        refine do_nil (do_nil ?_)
        have eat : ((at_ : Nat) : Int) + 3 = ((at_ + 1 + 1 + 1 : Nat) : Int) := by omega
        show Do _ _ _ [some (.ref ca), some (.ref a.p), some (.ref TL), some (.int (((at_ : Nat) : Int) + 3)), _, some (.ref p), _] H3
        rw [eat]
        have ntk : TL ≠ a.kn := by obtain ⟨W, k1, _⟩ := KN; exact ne_of hTL k1 (by intro q; cases q)
        refine fin { a with me := me, td := td } _ w2 (at_ + 1 + 1 + 1) H3 p _ _ _ R3 K3 (f3 _ _ (ne_of hTL R.ob (by intro q; cases q)) nTL ntk hTL) nTL h3 (fun e => by rw [e, hTL] at hp; cases hp) (hca.frR R KN f3) (by omega) (by omega) e3 (step1 M x yn)
      | get x =>
        obtain ⟨v0, e1, l1⟩ := int_get hd
        obtain ⟨v1, e2, l2⟩ := int_get e1
        refine do_set 4 nd (ev_lix (ev_v 0) (ev_v 3) hca.sq v0) ?_
        refine do_if ((tt_eq (ev_v 4) (ev_num N.RESET)).eq (show _ = false from rfl)) (fun h => by cases h) (fun _ => ?_)
        refine do_if ((tt_eq (ev_v 4) (ev_num N.SET)).eq (show _ = false from rfl)) (fun h => by cases h) (fun _ => ?_)
        refine do_if ((tt_eq (ev_v 4) (ev_num N.GET)).eq (show _ = true from rfl)) (fun _ => ?_) (fun h => by cases h)
        refine do_setc 5 nd gget (hr.mono (by decide)) pass0E (ea_cons (ev_v 1) (ea_cons (ev_lix (n := at_ + 1) (ev_v 0) ((ev_add (ev_v 3) ev_int).int (by omega)) hca.sq v1) ea_nil))
          ⟨a, M, w', x, rfl, R, KN, fun me td w2 p H3 R3 K3 hp f3 h3 => ?_⟩
        refine do_augn 3 nd ev_int rfl ?_
        refine do_nil (do_nil (do_nil ?_))
        have eat : ((at_ : Nat) : Int) + 2 = ((at_ + 1 + 1 : Nat) : Int) := by omega
        show Do _ _ _ [some (.ref ca), some (.ref a.p), some (.ref TL), some (.int (((at_ : Nat) : Int) + 2)), _, some (.ref p), _] H3
        rw [eat]
        have ntk : TL ≠ a.kn := by obtain ⟨W, k1, _⟩ := KN; exact ne_of hTL k1 (by intro q; cases q)
        refine fin { a with me := me, td := td } _ w2 (at_ + 1 + 1) H3 p _ _ _ R3 K3 (f3 _ _ (ne_of hTL R.ob (by intro q; cases q)) nTL ntk hTL) nTL h3 (fun e => by rw [e, hTL] at hp; cases hp) (hca.frR R KN f3) (by omega) (by omega) e2 (step2 M x)
      | run x m =>
        have hm : (∀ z ∈ m, 0 ≤ z ∧ z ≤ 255) ∧ m.length ≤ 1024 := by
          have : (Ra28Neutral.int x && (NeutralIO.bytes m && decide (m.length ≤ 1024))) = true := hone
          simp only [Bool.and_eq_true, NeutralIO.bytes, List.all_eq_true, decide_eq_true_eq] at this
          exact ⟨fun z hz => this.2.1 z hz, this.2.2⟩
        obtain ⟨v0, e1, l1⟩ := int_get hd
        obtain ⟨v1, e2, l2⟩ := int_get e1
        obtain ⟨v2, e3, l3⟩ := int_get e2
        have elen : at_ + 3 + m.length + t.length = l.length := by
          have := congrArg List.length e3
          rw [List.length_drop, List.length_append] at this
          omega
        have ecut : cutV (l.map V.int) (some (((at_ : Nat) : Int) + 3)) (some ((at_ + 3 + m.length : Nat) : Int)) = natsV (Ra28Neutral.nats m) := by
          have ea : (((at_ : Nat) : Int) + 3) = ((at_ + 1 + 1 + 1 : Nat) : Int) := by omega
          unfold cutV
          rw [ea, HT.sIx_nat, HT.sIx_nat, List.length_map, Nat.min_eq_left (by omega), Nat.min_eq_left (by omega), ← List.map_drop, e3, show at_ + 3 + m.length - (at_ + 1 + 1 + 1) = m.length by omega, List.map_append, List.take_append_of_le_length (by rw [List.length_map]; omega), List.take_of_length_le (by rw [List.length_map]; omega)]
          unfold natsV Ra28Neutral.nats
          rw [List.map_map]
          refine List.map_congr_left fun z hz => ?_
          have := (hm.1 z hz).1
          show V.int z = V.int ((z.toNat : Nat) : Int)
          rw [show ((z.toNat : Nat) : Int) = z by omega]
        have hnl : (Ra28Neutral.nats m).length ≤ 65536 := by unfold Ra28Neutral.nats; rw [List.length_map]; omega
        have hnb : ∀ z ∈ Ra28Neutral.nats m, z < 256 := fun z hz => by
          obtain ⟨u, hu, rfl⟩ := List.mem_map.mp hz
          have := hm.1 u hu
          omega
        refine do_set 4 nd (ev_lix (ev_v 0) (ev_v 3) hca.sq v0) ?_
        refine do_if ((tt_eq (ev_v 4) (ev_num N.RESET)).eq (show _ = false from rfl)) (fun h => by cases h) (fun _ => ?_)
        refine do_if ((tt_eq (ev_v 4) (ev_num N.SET)).eq (show _ = false from rfl)) (fun h => by cases h) (fun _ => ?_)
        refine do_if ((tt_eq (ev_v 4) (ev_num N.GET)).eq (show _ = false from rfl)) (fun h => by cases h) (fun _ => ?_)
        refine do_set (v := .int ((at_ + 3 + m.length : Nat) : Int)) 6 nd ((ev_add (ev_add (ev_v 3) ev_int) (ev_lix (n := at_ + 1 + 1) (ev_v 0) ((ev_add (ev_v 3) ev_int).int (by omega)) hca.sq v2)).int (by omega)) ?_
        refine do_cons (ps_set (i := 5) nd rfl (Or.inl rfl) (pe_c grun hr pass0E (pa_cons (pv 1) (pa_cons (pe_ix ix_list (pv 0) (pe_op op_add (pv 3) pe_int) (fun _ _ => rfl)) (pa_cons (pe_slice sl_list (pv 0) (po_some (pe_op op_add (pv 3) pe_int)) (po_some (pv 6))) pa_nil))))) ?_
        refine ⟨_, rfl, _, rfl, _, rfl, _, _, rfl, rfl, ca, _, _, _, rfl, rfl, hca.sq, at_of (j := at_ + 1) (by omega) v1, _, rfl, _, rfl, _, _, rfl, rfl, _, rfl, _, rfl, _, rfl, ca, _, rfl, hca.sq, fun fi hfi => ?_⟩
        rw [ecut]
        have xf : Ext H2 (upd H2 fi (.lst (natsV (Ra28Neutral.nats m)))) := Ext.new hfi
        refine ⟨a, M, w', x, Ra28Neutral.nats m, fi, rfl, R.ext xf, KN.ext xf, upd_same, (fun e => by rw [e, R.rg] at hfi; cases hfi), hnl, hnb, fun me td w2 p H3 R3 K3 hp f3 h3 => ?_⟩
        have hTf := xf _ _ hTL
        have ntk : TL ≠ a.kn := by obtain ⟨W, k1, _⟩ := KN; exact ne_of hTL k1 (by intro q; cases q)
        refine do_set 3 nd (ev_v 6) ?_
        refine do_nil (do_nil (do_nil ?_))
        refine fin { a with me := me, td := td } _ w2 (at_ + 3 + m.length) H3 p _ _ _ R3 K3 (f3 _ _ (ne_of hTL R.ob (by intro q; cases q)) nTL ntk hTf) nTL h3 (fun e => by rw [e, hTf] at hp; cases hp) ((hca.go fun o u e => xf _ _ e).frR (R.ext xf) (KN.ext xf) f3) (by omega) (by omega) ?_ (step3 R.good x m)
        rw [show at_ + 3 + m.length = at_ + 1 + 1 + 1 + m.length by omega, ← List.drop_drop, e3, List.drop_left]
    · refine ite_f (by rw [decide_eq_true_eq, List.length_map]; omega) ?_
      have e0 : l.drop at_ = [] := List.drop_eq_nil_of_le (by omega)
      rcases calls_cons hcs with ⟨_, rfl⟩ | ⟨f2, c, t, cs', hfst, _⟩
      · have ed : out = PyRa28.answers l := by rw [← hdue]; show out = out ++ []; rw [List.append_nil]
        exact do_ret (ev_v 2) (kk TL H2 (by rw [hTL, ed]))
      · rw [e0] at hfst
        cases hfst
end
end Sh
set_option maxHeartbeats 0
namespace Sh
open PySem PyProof.Rows L2
section
variable {K : PySem.W.Frag} {x q : Str} {i : Nat} {f C a : Addr} {oc : Value} {od an : Option Addr} {osl : Array (Option Value)} {kV doc pm cdv ct : Value} {es : Array DictEntry} {ep : Nat} {its : Array Value} {n : Nat} {tk : Tok} {z : Int}
theorem ent_shape {i : Int} {f : Addr} {e : DictEntry} (h : ((match e.key with | .int j _ => j == i | _ => false) && (e.hash == hashInt i) && (match e.val with | .ref g => g == f | _ => false)) = true) : (∃ t, e.key = .int i t) ∧ e.hash = hashInt i ∧ e.val = .ref f := by
  simp only [Bool.and_eq_true] at h
  obtain ⟨⟨h1, h2⟩, h3⟩ := h
  refine ⟨?_, eq_of_beq h2, ?_⟩
  · revert h1
    cases e.key <;> intro h1 <;> first | (exact absurd h1 Bool.false_ne_true) | (rename_i j t; exact ⟨t, by rw [eq_of_beq h1]⟩)
  · revert h3
    cases e.val <;> intro h3 <;> first | (exact absurd h3 Bool.false_ne_true) | (rw [eq_of_beq h3])
theorem ent_all (P : Program) (w : World) : ∀ {tab : List (Int × Addr)} {es : List DictEntry}, entB tab es = true → (∀ e ∈ es, ∃ k, (mixKind P w).is k e.key = true ∧ e.hash = (mixKind P w).hash k) ∧ Pairs (mixKind P w) es (tab.map fun p => ((Sum.inl p.1 : Key), Value.ref p.2))
  | [], [], _ => ⟨fun _ h => (nomatch h), .nil⟩
  | (i, f) :: r, e :: es, h => by
    unfold entB at h
    rw [Bool.and_eq_true] at h
    obtain ⟨⟨t, h1⟩, h2, h3⟩ := ent_shape h.1
    obtain ⟨g1, g2⟩ := ent_all P w h.2
    have h4 : (mixKind P w).is (Sum.inl i) e.key = true := by rw [h1]; exact mixKind_int P w i t
    refine ⟨fun d hd => ?_, .cons h4 h3 g2⟩
    rcases List.mem_cons.mp hd with rfl | hd
    · exact ⟨_, h4, h2⟩
    · exact g1 d hd
  | [], _ :: _, h => by unfold entB at h; cases h
  | _ :: _, [], h => by unfold entB at h; cases h
theorem tb_kd {P : Program} {w : World} {mg : Str → Option Value} {ad : Ac → Addr} {l : List (Int × Ac)} (X : ∀ x v, PySem.W.nsIn K mainGlobals x = some (some v) → mg x = some v) (T : TB K x (l.map fun p => (p.1, ad p.2))) (nd : (l.map (·.1)).Nodup) : TabAt P w K mg ad x l := by
  obtain ⟨a, es, ep, e1, e2, e3, e4⟩ := T
  obtain ⟨g1, g2⟩ := ent_all P w e3
  refine ⟨a, X _ _ e1, ⟨fun h hk => ⟨_, es, ep, hk a _ e2, ⟨rfl, rfl, rfl⟩, rfl, fun e he => g1 e (Array.mem_toList_iff.mpr he), g2, ?_⟩, e4⟩⟩
  have : ((l.map fun p => (p.1, ad p.2)).map fun p => ((Sum.inl p.1 : Key), Value.ref p.2)).map (·.1) = (l.map (·.1)).map (Sum.inl : Int → Key) := by
    rw [List.map_map, List.map_map, List.map_map]; rfl
  rw [this]
  exact List.Pairwise.map _ (fun a b h e => h (Sum.inl.inj e)) nd
theorem val_all : ∀ {xs : List V} {us : List Value}, valB xs us = true → Vals xs us
  | [], [], _ => .nil
  | .int i :: r, .int j t :: us, h => by
    unfold valB at h
    rw [Bool.and_eq_true] at h
    obtain rfl := eq_of_beq h.1
    exact .cons ⟨t, rfl⟩ (val_all h.2)
  | .ref f :: r, .ref g :: us, h => by
    unfold valB at h
    rw [Bool.and_eq_true] at h
    obtain rfl := eq_of_beq h.1
    exact .cons rfl (val_all h.2)
theorem tt_sq {mg : Str → Option Value} {xs : List V} (X : ∀ x v, PySem.W.nsIn K mainGlobals x = some (some v) → mg x = some v) (T : TuAt K x xs) (hl : xs.length ≤ 1000) : ∃ a, mg x = some (.ref a) ∧ ∀ H, SqT K H a xs := by
  obtain ⟨a, od, its, n, osl, e1, e2, e3⟩ := T
  have v := val_all e3
  refine ⟨a, X _ _ e1, fun H => .inr ⟨_, its, n, e2, rfl, rfl, ?_, v⟩⟩
  have := v.length
  rw [← Array.length_toList, ← this]
  exact Nat.le_of_lt (small1000 hl)
end
section
variable {P : Program} {w : World} {K : PySem.W.Frag} {mg : Str → Option Value} {base : Heap} {x m q : Str} {i k : Nat} {f C : Addr} {ps : List Str} {sp : Sp}
abbrev Bd (x qual : Str) (st : Stmt) (ps : List Str) : Prop := ∀ (kV doc pm : Value) (an : Option Addr) (cdv ct : Value) (us : List Value), us.length = ps.length → bindArgs (PySem.W.fnOf x qual (defArgs st) (defBody st) (defScope st) .none kV doc pm an cdv ct) ⟨us, []⟩ = pure (ps.zip us)
theorem cal_of (X : ∀ x v, PySem.W.nsIn K mainGlobals x = some (some v) → mg x = some v) (A : FA K x i f) (h : ∀ fd, Fun K x x (top i) f fd → FnOk P w K mg base (CXE P w) k f fd ps sp) (b : Bd x x (top i) ps) : Cal P w K mg base x ps sp k := by
  obtain ⟨e1, fd, F⟩ := A
  exact ⟨f, fd, X _ _ e1, F.kp, F.binds b, h fd F⟩
theorem mth_of (A : MA K C m q i f) (h : ∀ fd, Fun K m q (mth i) f fd → FnOk P w K mg base (CXE P w) k f fd ps sp) (b : Bd m q (mth i) ps) : Mth P w K mg base C m ps sp k := by
  obtain ⟨e1, fd, F⟩ := A
  exact ⟨f, fd, e1, F.binds b, h fd F⟩
theorem act_of (A : FA K x i f) (h : ∀ fd, Fun K x x (top i) f fd → FnOk P w K mg base (CXE P w) k f fd P4 sp) (hk : k ≤ 6) (b : Bd x x (top i) P4) : ∃ fd : FuncData, PySem.W.keepIn K (.ref f) = true ∧ Binds K fd P4 [] ∧ FnOk P w K mg base (CXE P w) 6 f fd P4 sp := by
  obtain ⟨e1, fd, F⟩ := A
  exact ⟨fd, F.kp, F.binds b, (h fd F).mono hk⟩
end
section
variable {P : Program} {w : World} {K : PySem.W.Frag} {mg : Str → Option Value} {base : Heap}
abbrev Xg (K : PySem.W.Frag) (mg : Str → Option Value) : Prop := ∀ x v, PySem.W.nsIn K mainGlobals x = some (some v) → mg x = some v
theorem w_num {x : Str} {z : Int} (X : Xg K mg) (h : NA K x z) : ∃ t, mg x = some (.int z t) := let ⟨t, e⟩ := h; ⟨t, X _ _ e⟩
theorem w_tx (X : Xg K mg) (c : FactsC K) (n : FactsN K) : Tx K mg 146 := ⟨⟨c.pg, c.hd, c.po, c.sa⟩, c.nRegs, c.nT, c.nS, c.nQ, c.nM, c.nMask, c.nPlace, c.nFollow, c.nWait, c.nWhy, c.nMem, c.nTd, c.nKn, w_num X n.n_MASK, w_num X n.n_MASK_64, w_num X n.n_SIZE, w_num X n.n_STATUS, w_num X n.n_GBR, w_num X n.n_MACH, w_num X n.n_MACL, w_num X n.n_PR, w_num X n.n_PLACE⟩
theorem w_tn (X : Xg K mg) (n : FactsN K) : Tn mg := ⟨w_num X n.n_RESET, w_num X n.n_SET, w_num X n.n_GET, w_num X n.n_REFUSED, w_num X n.n_MOST_STEPS⟩
theorem w_tabs (X : Xg K mg) (t : FactsT K) : Tabs P w K mg adr := ⟨tb_kd X t.bg (by decide), tb_kd X t.bi0 (by decide), tb_kd X t.bn0 (by decide), tb_kd X t.bi4 (by decide), tb_kd X t.bn8 (by decide), tb_kd X t.bnc (by decide), tb_kd X t.k0 (by decide), tb_kd X t.i0 (by decide), tb_kd X t.n0 (by decide), tb_kd X t.t2 (by decide), tb_kd X t.t3 (by decide), tb_kd X t.t4 (by decide), tt_sq X t.t6 (by decide), tb_kd X t.t8 (by decide), tb_kd X t.tc (by decide), tb_kd X t.tw (by decide)⟩
theorem w_hlp (X : Xg K mg) (T : Tx K mg 146) (B : Blt mg) (xt : XT K xsr) (F : FactsF K) (M : FactsM K) : Hlp P w K mg base 146 xsr := by
  have sg : Cal P w K mg base "signed" ["value", "width"] spSigned 1 := cal_of X F.f_signed (fun _ F => ok_signed F) (fun _ _ _ _ _ _ us hl => match us, hl with | [_, _], _ => by kernel_rfl)
  have cl : Cal P w K mg base "clamped" ["value", "least", "most"] spClamped 1 := cal_of X F.f_clamped (fun _ F => ok_clamped F B) (fun _ _ _ _ _ _ us hl => match us, hl with | [_, _, _], _ => by kernel_rfl)
  have bs : Cal P w K mg base "base" ["machine"] (spBase 146) 1 := cal_of X F.f_base (fun _ F => ok_base F T) (fun _ _ _ _ _ _ us hl => match us, hl with | [_], _ => by kernel_rfl)
  have ck : Mth P w K mg base 146 "check" ["self", "place", "size"] (spCheck xsr) 1 := mth_of M.m_check (fun _ F => ok_check F T xt) (fun _ _ _ _ _ _ us hl => match us, hl with | [_, _, _], _ => by kernel_rfl)
  have ld : Mth P w K mg base 146 "load" ["self", "place", "size"] (spLoad 146 xsr) 2 := mth_of M.m_load (fun _ F => ok_load F T sg ck) (fun _ _ _ _ _ _ us hl => match us, hl with | [_, _, _], _ => by kernel_rfl)
  have wst : Mth P w K mg base 146 "write_status" ["self", "value"] (spWS 146) 1 := mth_of M.m_write_status (fun _ F => ok_ws F T) (fun _ _ _ _ _ _ us hl => match us, hl with | [_, _], _ => by kernel_rfl)
  exact {
    sg := sg, cl := cl, bs := bs, ld := ld, wst := wst
    lb := cal_of X F.f_long_base (fun _ F => ok_long F T bs) (fun _ _ _ _ _ _ us hl => match us, hl with | [_], _ => by kernel_rfl)
    st := cal_of X F.f_short_target (fun _ F => ok_short F T bs sg) (fun _ _ _ _ _ _ us hl => match us, hl with | [_, _], _ => by kernel_rfl)
    rs := cal_of X F.f_read_sum (fun _ F => ok_rsum F T sg) (fun _ _ _ _ _ _ us hl => match us, hl with | [_], _ => by kernel_rfl)
    ws := cal_of X F.f_write_sum (fun _ F => ok_wsum F T) (fun _ _ _ _ _ _ us hl => match us, hl with | [_, _], _ => by kernel_rfl)
    kp := cal_of X F.f_keep_product (fun _ F => ok_kprod F T) (fun _ _ _ _ _ _ us hl => match us, hl with | [_, _], _ => by kernel_rfl)
    ks := cal_of X F.f_keep_signed (fun _ F => ok_ksign F T) (fun _ _ _ _ _ _ us hl => match us, hl with | [_, _, _], _ => by kernel_rfl)
    wo := cal_of X F.f_which_of (fun _ F => ok_which F T) (fun _ _ _ _ _ _ us hl => match us, hl with | [_, _], _ => by kernel_rfl)
    pn := cal_of X F.f_place_near (fun _ F => ok_near F T) (fun _ _ _ _ _ _ us hl => match us, hl with | [_, _, _, _], _ => by kernel_rfl)
    pb := cal_of X F.f_place_by_base (fun _ F => ok_pbase F T) (fun _ _ _ _ _ _ us hl => match us, hl with | [_, _, _], _ => by kernel_rfl)
    cb := cal_of X F.f_combined (fun _ F => ok_comb F) (fun _ _ _ _ _ _ us hl => match us, hl with | [_, _, _], _ => by kernel_rfl)
    bp := cal_of X F.f_byte_place (fun _ F => ok_byte F T) (fun _ _ _ _ _ _ us hl => match us, hl with | [_], _ => by kernel_rfl)
    np := cal_of X F.f_next_product (fun _ F => ok_prod F T sg ld) (fun _ _ _ _ _ _ us hl => match us, hl with | [_, _, _, _], _ => by kernel_rfl)
    al := cal_of X F.f_add_to_lower_half (fun _ F => ok_low F T sg cl) (fun _ _ _ _ _ _ us hl => match us, hl with | [_, _], _ => by kernel_rfl)
    rd := mth_of M.m_read (fun _ F => ok_read F T) (fun _ _ _ _ _ _ us hl => match us, hl with | [_, _], _ => by kernel_rfl)
    wr := mth_of M.m_write (fun _ F => ok_write F T wst) (fun _ _ _ _ _ _ us hl => match us, hl with | [_, _, _], _ => by kernel_rfl)
    sto := mth_of M.m_store (fun _ F => ok_store F T ck) (fun _ _ _ _ _ _ us hl => match us, hl with | [_, _, _, _], _ => by kernel_rfl) }
theorem w_acts (X : Xg K mg) (T : Tx K mg 146) (B : Blt mg) (am : Amts K mg) (G : Hlp P w K mg base 146 xsr) (A : FactsA K) : Acts P w K mg base 146 xsr adr := by
  have jr : Cal P w K mg base "jump_by_register" P4 (spA 146 xsr .jump_by_register) 4 := cal_of X A.f_jump_by_register (fun _ F => ok_jump_by_register F T G) (fun _ _ _ _ _ _ us hl => match us, hl with | [_, _, _, _], _ => by kernel_rfl)
  have jn : Cal P w K mg base "jump_by_number" P4 (spA 146 xsr .jump_by_number) 4 := cal_of X A.f_jump_by_number (fun _ F => ok_jump_by_number F T G) (fun _ _ _ _ _ _ us hl => match us, hl with | [_, _, _, _], _ => by kernel_rfl)
  intro c
  cases c with
  | jump_by_register => exact act_of A.f_jump_by_register (fun _ F => ok_jump_by_register F T G) (by decide) (fun _ _ _ _ _ _ us hl => match us, hl with | [_, _, _, _], _ => by kernel_rfl)
  | call_by_register => exact act_of A.f_call_by_register (fun _ F => ok_call_by_register F T G jr) (by decide) (fun _ _ _ _ _ _ us hl => match us, hl with | [_, _, _, _], _ => by kernel_rfl)
  | come_back => exact act_of A.f_come_back (fun _ F => ok_come_back F T G) (by decide) (fun _ _ _ _ _ _ us hl => match us, hl with | [_, _, _, _], _ => by kernel_rfl)
  | come_back_with_status => exact act_of A.f_come_back_with_status (fun _ F => ok_come_back_with_status F T G) (by decide) (fun _ _ _ _ _ _ us hl => match us, hl with | [_, _, _, _], _ => by kernel_rfl)
  | jump_to_register => exact act_of A.f_jump_to_register (fun _ F => ok_jump_to_register F T G) (by decide) (fun _ _ _ _ _ _ us hl => match us, hl with | [_, _, _, _], _ => by kernel_rfl)
  | call_to_register => exact act_of A.f_call_to_register (fun _ F => ok_call_to_register F T G) (by decide) (fun _ _ _ _ _ _ us hl => match us, hl with | [_, _, _, _], _ => by kernel_rfl)
  | leap_where_1 => exact act_of A.f_leap_where_1 (fun _ F => ok_leap_where_1 F T G) (by decide) (fun _ _ _ _ _ _ us hl => match us, hl with | [_, _, _, _], _ => by kernel_rfl)
  | leap_where_0 => exact act_of A.f_leap_where_0 (fun _ F => ok_leap_where_0 F T G) (by decide) (fun _ _ _ _ _ _ us hl => match us, hl with | [_, _, _, _], _ => by kernel_rfl)
  | jump_where_1 => exact act_of A.f_jump_where_1 (fun _ F => ok_jump_where_1 F T G) (by decide) (fun _ _ _ _ _ _ us hl => match us, hl with | [_, _, _, _], _ => by kernel_rfl)
  | jump_where_0 => exact act_of A.f_jump_where_0 (fun _ F => ok_jump_where_0 F T G) (by decide) (fun _ _ _ _ _ _ us hl => match us, hl with | [_, _, _, _], _ => by kernel_rfl)
  | jump_by_number => exact act_of A.f_jump_by_number (fun _ F => ok_jump_by_number F T G) (by decide) (fun _ _ _ _ _ _ us hl => match us, hl with | [_, _, _, _], _ => by kernel_rfl)
  | call_by_number => exact act_of A.f_call_by_number (fun _ F => ok_call_by_number F T G jn) (by decide) (fun _ _ _ _ _ _ us hl => match us, hl with | [_, _, _, _], _ => by kernel_rfl)
  | load_word => exact act_of A.f_load_word (fun _ F => ok_load_word F T G) (by decide) (fun _ _ _ _ _ _ us hl => match us, hl with | [_, _, _, _], _ => by kernel_rfl)
  | load_long => exact act_of A.f_load_long (fun _ F => ok_load_long F T G) (by decide) (fun _ _ _ _ _ _ us hl => match us, hl with | [_, _, _, _], _ => by kernel_rfl)
  | call_system => exact act_of A.f_call_system (fun _ F => ok_call_system F T G) (by decide) (fun _ _ _ _ _ _ us hl => match us, hl with | [_, _, _, _], _ => by kernel_rfl)
  | tell_place => exact act_of A.f_tell_place (fun _ F => ok_tell_place F T G) (by decide) (fun _ _ _ _ _ _ us hl => match us, hl with | [_, _, _, _], _ => by kernel_rfl)
  | add_long_product => exact act_of A.f_add_long_product (fun _ F => ok_add_long_product F T G) (by decide) (fun _ _ _ _ _ _ us hl => match us, hl with | [_, _, _, _], _ => by kernel_rfl)
  | add_word_product => exact act_of A.f_add_word_product (fun _ F => ok_add_word_product F T G) (by decide) (fun _ _ _ _ _ _ us hl => match us, hl with | [_, _, _, _], _ => by kernel_rfl)
  | store_indexed => exact act_of A.f_store_indexed (fun _ F => ok_store_indexed F T G) (by decide) (fun _ _ _ _ _ _ us hl => match us, hl with | [_, _, _, _], _ => by kernel_rfl)
  | load_indexed => exact act_of A.f_load_indexed (fun _ F => ok_load_indexed F T G) (by decide) (fun _ _ _ _ _ _ us hl => match us, hl with | [_, _, _, _], _ => by kernel_rfl)
  | multiply => exact act_of A.f_multiply (fun _ F => ok_multiply F T G) (by decide) (fun _ _ _ _ _ _ us hl => match us, hl with | [_, _, _, _], _ => by kernel_rfl)
  | read_control => exact act_of A.f_read_control (fun _ F => ok_read_control F T G) (by decide) (fun _ _ _ _ _ _ us hl => match us, hl with | [_, _, _, _], _ => by kernel_rfl)
  | read_system => exact act_of A.f_read_system (fun _ F => ok_read_system F T G) (by decide) (fun _ _ _ _ _ _ us hl => match us, hl with | [_, _, _, _], _ => by kernel_rfl)
  | read_t => exact act_of A.f_read_t (fun _ F => ok_read_t F T G) (by decide) (fun _ _ _ _ _ _ us hl => match us, hl with | [_, _, _, _], _ => by kernel_rfl)
  | clear_t => exact act_of A.f_clear_t (fun _ F => ok_clear_t F T G) (by decide) (fun _ _ _ _ _ _ us hl => match us, hl with | [_, _, _, _], _ => by kernel_rfl)
  | raise_t => exact act_of A.f_raise_t (fun _ F => ok_raise_t F T G) (by decide) (fun _ _ _ _ _ _ us hl => match us, hl with | [_, _, _, _], _ => by kernel_rfl)
  | clear_sum => exact act_of A.f_clear_sum (fun _ F => ok_clear_sum F T G) (by decide) (fun _ _ _ _ _ _ us hl => match us, hl with | [_, _, _, _], _ => by kernel_rfl)
  | do_nothing => exact act_of A.f_do_nothing (fun _ F => ok_do_nothing F T G) (by decide) (fun _ _ _ _ _ _ us hl => match us, hl with | [_, _, _, _], _ => by kernel_rfl)
  | begin_unsigned_division => exact act_of A.f_begin_unsigned_division (fun _ F => ok_begin_unsigned_division F T G) (by decide) (fun _ _ _ _ _ _ us hl => match us, hl with | [_, _, _, _], _ => by kernel_rfl)
  | sleep => exact act_of A.f_sleep (fun _ F => ok_sleep F T G) (by decide) (fun _ _ _ _ _ _ us hl => match us, hl with | [_, _, _, _], _ => by kernel_rfl)
  | store_at => exact act_of A.f_store_at (fun _ F => ok_store_at F T G) (by decide) (fun _ _ _ _ _ _ us hl => match us, hl with | [_, _, _, _], _ => by kernel_rfl)
  | store_below => exact act_of A.f_store_below (fun _ F => ok_store_below F T G) (by decide) (fun _ _ _ _ _ _ us hl => match us, hl with | [_, _, _, _], _ => by kernel_rfl)
  | begin_signed_division => exact act_of A.f_begin_signed_division (fun _ F => ok_begin_signed_division F T G) (by decide) (fun _ _ _ _ _ _ us hl => match us, hl with | [_, _, _, _], _ => by kernel_rfl)
  | have_no_bit_in_common => exact act_of A.f_have_no_bit_in_common (fun _ F => ok_have_no_bit_in_common F T G) (by decide) (fun _ _ _ _ _ _ us hl => match us, hl with | [_, _, _, _], _ => by kernel_rfl)
  | bits_of_both => exact act_of A.f_bits_of_both (fun _ F => ok_bits_of_both F T G) (by decide) (fun _ _ _ _ _ _ us hl => match us, hl with | [_, _, _, _], _ => by kernel_rfl)
  | bits_of_one => exact act_of A.f_bits_of_one (fun _ F => ok_bits_of_one F T G) (by decide) (fun _ _ _ _ _ _ us hl => match us, hl with | [_, _, _, _], _ => by kernel_rfl)
  | bits_of_either => exact act_of A.f_bits_of_either (fun _ F => ok_bits_of_either F T G) (by decide) (fun _ _ _ _ _ _ us hl => match us, hl with | [_, _, _, _], _ => by kernel_rfl)
  | have_same_byte => exact act_of A.f_have_same_byte (fun _ F => ok_have_same_byte F T B) (by decide) (fun _ _ _ _ _ _ us hl => match us, hl with | [_, _, _, _], _ => by kernel_rfl)
  | join_halves => exact act_of A.f_join_halves (fun _ F => ok_join_halves F T G) (by decide) (fun _ _ _ _ _ _ us hl => match us, hl with | [_, _, _, _], _ => by kernel_rfl)
  | multiply_halves => exact act_of A.f_multiply_halves (fun _ F => ok_multiply_halves F T G) (by decide) (fun _ _ _ _ _ _ us hl => match us, hl with | [_, _, _, _], _ => by kernel_rfl)
  | multiply_signed_halves => exact act_of A.f_multiply_signed_halves (fun _ F => ok_multiply_signed_halves F T G) (by decide) (fun _ _ _ _ _ _ us hl => match us, hl with | [_, _, _, _], _ => by kernel_rfl)
  | is_same => exact act_of A.f_is_same (fun _ F => ok_is_same F T G) (by decide) (fun _ _ _ _ _ _ us hl => match us, hl with | [_, _, _, _], _ => by kernel_rfl)
  | is_at_least => exact act_of A.f_is_at_least (fun _ F => ok_is_at_least F T G) (by decide) (fun _ _ _ _ _ _ us hl => match us, hl with | [_, _, _, _], _ => by kernel_rfl)
  | is_above => exact act_of A.f_is_above (fun _ F => ok_is_above F T G) (by decide) (fun _ _ _ _ _ _ us hl => match us, hl with | [_, _, _, _], _ => by kernel_rfl)
  | is_at_least_signed => exact act_of A.f_is_at_least_signed (fun _ F => ok_is_at_least_signed F T G) (by decide) (fun _ _ _ _ _ _ us hl => match us, hl with | [_, _, _, _], _ => by kernel_rfl)
  | is_above_signed => exact act_of A.f_is_above_signed (fun _ F => ok_is_above_signed F T G) (by decide) (fun _ _ _ _ _ _ us hl => match us, hl with | [_, _, _, _], _ => by kernel_rfl)
  | subtract => exact act_of A.f_subtract (fun _ F => ok_subtract F T G) (by decide) (fun _ _ _ _ _ _ us hl => match us, hl with | [_, _, _, _], _ => by kernel_rfl)
  | add => exact act_of A.f_add (fun _ F => ok_add F T G) (by decide) (fun _ _ _ _ _ _ us hl => match us, hl with | [_, _, _, _], _ => by kernel_rfl)
  | subtract_with_t => exact act_of A.f_subtract_with_t (fun _ F => ok_subtract_with_t F T G) (by decide) (fun _ _ _ _ _ _ us hl => match us, hl with | [_, _, _, _], _ => by kernel_rfl)
  | add_with_t => exact act_of A.f_add_with_t (fun _ F => ok_add_with_t F T G) (by decide) (fun _ _ _ _ _ _ us hl => match us, hl with | [_, _, _, _], _ => by kernel_rfl)
  | subtract_signed => exact act_of A.f_subtract_signed (fun _ F => ok_subtract_signed F T G) (by decide) (fun _ _ _ _ _ _ us hl => match us, hl with | [_, _, _, _], _ => by kernel_rfl)
  | add_signed => exact act_of A.f_add_signed (fun _ F => ok_add_signed F T G) (by decide) (fun _ _ _ _ _ _ us hl => match us, hl with | [_, _, _, _], _ => by kernel_rfl)
  | multiply_whole => exact act_of A.f_multiply_whole (fun _ F => ok_multiply_whole F T G) (by decide) (fun _ _ _ _ _ _ us hl => match us, hl with | [_, _, _, _], _ => by kernel_rfl)
  | multiply_whole_signed => exact act_of A.f_multiply_whole_signed (fun _ F => ok_multiply_whole_signed F T G) (by decide) (fun _ _ _ _ _ _ us hl => match us, hl with | [_, _, _, _], _ => by kernel_rfl)
  | divide_step => exact act_of A.f_divide_step (fun _ F => ok_divide_step F T G) (by decide) (fun _ _ _ _ _ _ us hl => match us, hl with | [_, _, _, _], _ => by kernel_rfl)
  | double => exact act_of A.f_double (fun _ F => ok_double F T G) (by decide) (fun _ _ _ _ _ _ us hl => match us, hl with | [_, _, _, _], _ => by kernel_rfl)
  | halve => exact act_of A.f_halve (fun _ F => ok_halve F T G) (by decide) (fun _ _ _ _ _ _ us hl => match us, hl with | [_, _, _, _], _ => by kernel_rfl)
  | halve_signed => exact act_of A.f_halve_signed (fun _ F => ok_halve_signed F T G) (by decide) (fun _ _ _ _ _ _ us hl => match us, hl with | [_, _, _, _], _ => by kernel_rfl)
  | turn_left => exact act_of A.f_turn_left (fun _ F => ok_turn_left F T G) (by decide) (fun _ _ _ _ _ _ us hl => match us, hl with | [_, _, _, _], _ => by kernel_rfl)
  | turn_right => exact act_of A.f_turn_right (fun _ F => ok_turn_right F T G) (by decide) (fun _ _ _ _ _ _ us hl => match us, hl with | [_, _, _, _], _ => by kernel_rfl)
  | turn_left_through_t => exact act_of A.f_turn_left_through_t (fun _ F => ok_turn_left_through_t F T G) (by decide) (fun _ _ _ _ _ _ us hl => match us, hl with | [_, _, _, _], _ => by kernel_rfl)
  | turn_right_through_t => exact act_of A.f_turn_right_through_t (fun _ F => ok_turn_right_through_t F T G) (by decide) (fun _ _ _ _ _ _ us hl => match us, hl with | [_, _, _, _], _ => by kernel_rfl)
  | shift_left => exact act_of A.f_shift_left (fun _ F => ok_shift_left F T am) (by decide) (fun _ _ _ _ _ _ us hl => match us, hl with | [_, _, _, _], _ => by kernel_rfl)
  | shift_right => exact act_of A.f_shift_right (fun _ F => ok_shift_right F T am) (by decide) (fun _ _ _ _ _ _ us hl => match us, hl with | [_, _, _, _], _ => by kernel_rfl)
  | count_down => exact act_of A.f_count_down (fun _ F => ok_count_down F T G) (by decide) (fun _ _ _ _ _ _ us hl => match us, hl with | [_, _, _, _], _ => by kernel_rfl)
  | is_at_least_zero => exact act_of A.f_is_at_least_zero (fun _ F => ok_is_at_least_zero F T G) (by decide) (fun _ _ _ _ _ _ us hl => match us, hl with | [_, _, _, _], _ => by kernel_rfl)
  | is_above_zero => exact act_of A.f_is_above_zero (fun _ F => ok_is_above_zero F T G) (by decide) (fun _ _ _ _ _ _ us hl => match us, hl with | [_, _, _, _], _ => by kernel_rfl)
  | store_which => exact act_of A.f_store_which (fun _ F => ok_store_which F T G) (by decide) (fun _ _ _ _ _ _ us hl => match us, hl with | [_, _, _, _], _ => by kernel_rfl)
  | load_which => exact act_of A.f_load_which (fun _ F => ok_load_which F T G) (by decide) (fun _ _ _ _ _ _ us hl => match us, hl with | [_, _, _, _], _ => by kernel_rfl)
  | take_which => exact act_of A.f_take_which (fun _ F => ok_take_which F T G) (by decide) (fun _ _ _ _ _ _ us hl => match us, hl with | [_, _, _, _], _ => by kernel_rfl)
  | claim_byte => exact act_of A.f_claim_byte (fun _ F => ok_claim_byte F T G) (by decide) (fun _ _ _ _ _ _ us hl => match us, hl with | [_, _, _, _], _ => by kernel_rfl)
  | load_at => exact act_of A.f_load_at (fun _ F => ok_load_at F T G) (by decide) (fun _ _ _ _ _ _ us hl => match us, hl with | [_, _, _, _], _ => by kernel_rfl)
  | load_and_pass => exact act_of A.f_load_and_pass (fun _ F => ok_load_and_pass F T G) (by decide) (fun _ _ _ _ _ _ us hl => match us, hl with | [_, _, _, _], _ => by kernel_rfl)
  | move => exact act_of A.f_move (fun _ F => ok_move F T G) (by decide) (fun _ _ _ _ _ _ us hl => match us, hl with | [_, _, _, _], _ => by kernel_rfl)
  | turn_bits => exact act_of A.f_turn_bits (fun _ F => ok_turn_bits F T G) (by decide) (fun _ _ _ _ _ _ us hl => match us, hl with | [_, _, _, _], _ => by kernel_rfl)
  | exchange_bytes => exact act_of A.f_exchange_bytes (fun _ F => ok_exchange_bytes F T G) (by decide) (fun _ _ _ _ _ _ us hl => match us, hl with | [_, _, _, _], _ => by kernel_rfl)
  | exchange_halves => exact act_of A.f_exchange_halves (fun _ F => ok_exchange_halves F T G) (by decide) (fun _ _ _ _ _ _ us hl => match us, hl with | [_, _, _, _], _ => by kernel_rfl)
  | negate => exact act_of A.f_negate (fun _ F => ok_negate F T G) (by decide) (fun _ _ _ _ _ _ us hl => match us, hl with | [_, _, _, _], _ => by kernel_rfl)
  | negate_with_t => exact act_of A.f_negate_with_t (fun _ F => ok_negate_with_t F T G) (by decide) (fun _ _ _ _ _ _ us hl => match us, hl with | [_, _, _, _], _ => by kernel_rfl)
  | lowest_byte => exact act_of A.f_lowest_byte (fun _ F => ok_lowest_byte F T G) (by decide) (fun _ _ _ _ _ _ us hl => match us, hl with | [_, _, _, _], _ => by kernel_rfl)
  | lower_half => exact act_of A.f_lower_half (fun _ F => ok_lower_half F T G) (by decide) (fun _ _ _ _ _ _ us hl => match us, hl with | [_, _, _, _], _ => by kernel_rfl)
  | lowest_byte_signed => exact act_of A.f_lowest_byte_signed (fun _ F => ok_lowest_byte_signed F T G) (by decide) (fun _ _ _ _ _ _ us hl => match us, hl with | [_, _, _, _], _ => by kernel_rfl)
  | lower_half_signed => exact act_of A.f_lower_half_signed (fun _ F => ok_lower_half_signed F T G) (by decide) (fun _ _ _ _ _ _ us hl => match us, hl with | [_, _, _, _], _ => by kernel_rfl)
  | store_near => exact act_of A.f_store_near (fun _ F => ok_store_near F T G) (by decide) (fun _ _ _ _ _ _ us hl => match us, hl with | [_, _, _, _], _ => by kernel_rfl)
  | load_near => exact act_of A.f_load_near (fun _ F => ok_load_near F T G) (by decide) (fun _ _ _ _ _ _ us hl => match us, hl with | [_, _, _, _], _ => by kernel_rfl)
  | is_number => exact act_of A.f_is_number (fun _ F => ok_is_number F T G) (by decide) (fun _ _ _ _ _ _ us hl => match us, hl with | [_, _, _, _], _ => by kernel_rfl)
  | store_by_base => exact act_of A.f_store_by_base (fun _ F => ok_store_by_base F T G) (by decide) (fun _ _ _ _ _ _ us hl => match us, hl with | [_, _, _, _], _ => by kernel_rfl)
  | load_by_base => exact act_of A.f_load_by_base (fun _ F => ok_load_by_base F T G) (by decide) (fun _ _ _ _ _ _ us hl => match us, hl with | [_, _, _, _], _ => by kernel_rfl)
  | has_no_bit_of => exact act_of A.f_has_no_bit_of (fun _ F => ok_has_no_bit_of F T G) (by decide) (fun _ _ _ _ _ _ us hl => match us, hl with | [_, _, _, _], _ => by kernel_rfl)
  | combine => exact act_of A.f_combine (fun _ F => ok_combine F T G) (by decide) (fun _ _ _ _ _ _ us hl => match us, hl with | [_, _, _, _], _ => by kernel_rfl)
  | byte_has_no_bit_of => exact act_of A.f_byte_has_no_bit_of (fun _ F => ok_byte_has_no_bit_of F T G) (by decide) (fun _ _ _ _ _ _ us hl => match us, hl with | [_, _, _, _], _ => by kernel_rfl)
  | combine_byte => exact act_of A.f_combine_byte (fun _ F => ok_combine_byte F T G) (by decide) (fun _ _ _ _ _ _ us hl => match us, hl with | [_, _, _, _], _ => by kernel_rfl)
  | store_with_offset => exact act_of A.f_store_with_offset (fun _ F => ok_store_with_offset F T G) (by decide) (fun _ _ _ _ _ _ us hl => match us, hl with | [_, _, _, _], _ => by kernel_rfl)
  | load_with_offset => exact act_of A.f_load_with_offset (fun _ F => ok_load_with_offset F T G) (by decide) (fun _ _ _ _ _ _ us hl => match us, hl with | [_, _, _, _], _ => by kernel_rfl)
  | add_number => exact act_of A.f_add_number (fun _ F => ok_add_number F T G) (by decide) (fun _ _ _ _ _ _ us hl => match us, hl with | [_, _, _, _], _ => by kernel_rfl)
  | take_number => exact act_of A.f_take_number (fun _ F => ok_take_number F T G) (by decide) (fun _ _ _ _ _ _ us hl => match us, hl with | [_, _, _, _], _ => by kernel_rfl)
theorem w_gps (X : Xg K mg) (B : Tabs P w K mg adr) (F : FactsF K) (A : FactsA K) : Gps P w K mg base adr := ⟨
  cal_of X F.f_act_of_group_0 (fun _ F => ok_g0 F B (X _ _ A.f_add_long_product.n)) (fun _ _ _ _ _ _ us hl => match us, hl with | [_, _], _ => by kernel_rfl),
  cal_of X F.f_act_of_group_2 (fun _ F => ok_g2 F B) (fun _ _ _ _ _ _ us hl => match us, hl with | [_], _ => by kernel_rfl),
  cal_of X F.f_act_of_group_3 (fun _ F => ok_g3 F B) (fun _ _ _ _ _ _ us hl => match us, hl with | [_], _ => by kernel_rfl),
  cal_of X F.f_act_of_group_4 (fun _ F => ok_g4 F B (X _ _ A.f_add_word_product.n)) (fun _ _ _ _ _ _ us hl => match us, hl with | [_], _ => by kernel_rfl),
  cal_of X F.f_act_of_group_6 (fun _ F => ok_g6 F B) (fun _ _ _ _ _ _ us hl => match us, hl with | [_], _ => by kernel_rfl),
  cal_of X F.f_act_of_group_8 (fun _ F => ok_g8 F B) (fun _ _ _ _ _ _ us hl => match us, hl with | [_], _ => by kernel_rfl),
  cal_of X F.f_act_of_group_c (fun _ F => ok_gc F B) (fun _ _ _ _ _ _ us hl => match us, hl with | [_], _ => by kernel_rfl),
  cal_of X F.f_act_of_whole_group (fun _ F => ok_gw F B) (fun _ _ _ _ _ _ us hl => match us, hl with | [_], _ => by kernel_rfl)⟩
theorem wire {f : Addr} {fd : FuncData} (X : Xg K mg) (X0 : ∀ x, PySem.W.nsIn K mainGlobals x = some none → mg x = none) (A : FactsA K) (F : FactsF K) (M : FactsM K) (N : FactsN K) (B : FactsB K) (c : FactsC K) (t : FactsT K) (F0 : Fun K "answers" "answers" (top 181) f fd) : FnOk P w K mg base CX0 12 f fd ["calls"] (spAnswers K) := by
  have T := w_tx X c N
  have Tn := w_tn X N
  have B : Blt mg := ⟨X0 _ B.b_len, X0 _ B.b_max, X0 _ B.b_min, X0 _ B.b_any, X0 _ B.b_sorted, X0 _ B.b_range⟩
  have G : Hlp P w K mg base 146 xsr := w_hlp X T B c.xt F M
  have GA : Acts P w K mg base 146 xsr adr := w_acts X T B (tt_sq X t.am (by decide)) G A
  have TB : Tabs P w K mg adr := w_tabs X t
  have GG : Gps P w K mg base adr := w_gps X TB F A
  have gb : Cal P w K mg base "bound_act" ["group", "n", "i"] (spSel3 adr boundA) 1 := cal_of X F.f_bound_act (fun _ F => ok_bound F TB) (fun _ _ _ _ _ _ us hl => match us, hl with | [_, _, _], _ => by kernel_rfl)
  have gf : Cal P w K mg base "free_act" ["group", "n", "i"] (spSel3 adr freeA) 2 := cal_of X F.f_free_act (fun _ F => ok_free F GG) (fun _ _ _ _ _ _ us hl => match us, hl with | [_, _, _], _ => by kernel_rfl)
  have gm : Cal P w K mg base "meaning" ["word"] (spMean adr xsr) 3 := cal_of X F.f_meaning (fun _ F => ok_mean F c.xt gb gf) (fun _ _ _ _ _ _ us hl => match us, hl with | [_], _ => by kernel_rfl)
  have gs : Cal P w K mg base "step" ["machine"] (spStep 146 adr xsr) 8 := cal_of X F.f_step (fun _ F => ok_step F T c.xt gm GA) (fun _ _ _ _ _ _ us hl => match us, hl with | [_], _ => by kernel_rfl)
  have gd : Cal P w K mg base "do_steps" ["machine", "steps"] (spDo 146 adr xsr) 9 := cal_of X F.f_do_steps (fun _ F => ok_do F T (X _ _ c.xt.ni) (X _ _ c.xt.bj) (X _ _ c.xt.nm) (X _ _ c.xt.nw) c.xm gs) (fun _ _ _ _ _ _ us hl => match us, hl with | [_, _], _ => by kernel_rfl)
  have gc : Cal P w K mg base "changed_bytes" ["machine", "first"] (spChg 146) 1 := cal_of X F.f_changed_bytes (fun _ F => FnOk.toE (ok_chg F T B)) (fun _ _ _ _ _ _ us hl => match us, hl with | [_, _], _ => by kernel_rfl)
  have gbe : Mth P w K mg base 146 "begin" ["self", "first"] (spBegin 146 adr) 1 := mth_of M.m_begin (fun _ F => ok_begin F T B) (fun _ _ _ _ _ _ us hl => match us, hl with | [_, _], _ => by kernel_rfl)
  have gr : Cal P w K mg base "run" ["machine", "steps", "first"] (spRun 146 adr) 10 := cal_of X F.f_run (fun _ F => ok_run F T B gbe gd gc) (fun _ _ _ _ _ _ us hl => match us, hl with | [_, _, _], _ => by kernel_rfl)
  have gset : Cal P w K mg base "answer_set" ["machine", "which", "value"] (spASet 146 adr) 3 := cal_of X F.f_answer_set (fun _ F => ok_aset F T Tn G.wr) (fun _ _ _ _ _ _ us hl => match us, hl with | [_, _, _], _ => by kernel_rfl)
  have gget : Cal P w K mg base "answer_get" ["machine", "which"] (spAGet 146 adr) 2 := cal_of X F.f_answer_get (fun _ F => ok_aget F T Tn G.rd) (fun _ _ _ _ _ _ us hl => match us, hl with | [_, _], _ => by kernel_rfl)
  have grun : Cal P w K mg base "answer_run" ["machine", "steps", "first"] (spARun 146 adr) 11 := cal_of X F.f_answer_run (fun _ F => ok_arun F Tn gr) (fun _ _ _ _ _ _ us hl => match us, hl with | [_, _, _], _ => by kernel_rfl)
  obtain ⟨mi, fdI, FI⟩ := M.m___init__
  exact ok_top F0 T B Tn ⟨c.mks, mi.at_, mi.fn, c.kp⟩ (X _ _ c.nC) (ok_init FI T) (FI.binds (fun _ _ _ _ _ _ us hl => match us, hl with | [_], _ => by kernel_rfl)) gset gget grun
end
end Sh
namespace Sh
open PySem PySem.W PySem.Spec PyProof.Rows L2
theorem reads_ints {R : WRecords} {cl : Str → Option Addr} {h : Heap} : ∀ {l : List Int} {us : List Value}, Vals (l.map V.int) us → ReadsAllW R cl h us (l.map WData.int) []
  | [], _, .nil => .nil
  | i :: l, _, .cons r v => by
    obtain ⟨t, rfl⟩ := r
    exact ReadsAllW.cons (as := []) (bs := []) (.int i t) (reads_ints v)
theorem call_ends {P : Program} {w : World} {K : Frag} {mg mb : Str → Option Value} {k : Nat} {fa a : Addr} {fd : FuncData} {s₁ : Shared} {vs : List Value} {ns : List Int}
    (KX : K.In s₁.heap) (hns : s₁.heap.Ns mainGlobals mg) (hb : s₁.heap.Ns builtinsNs mb) (hbb : ∀ x : Str, x ≠ "__name__" → mb x = bootBuiltins x) (hlim : s₁.heap.NoLimit) (hg : s₁.gens = #[])
    (ha : s₁.heap.get? a = some { cls := .type "list", data := .seq vs.toArray }) (hi : IntsAre vs ns) (hl : ns.length ≤ 30000) (hask : PyRa28.answers_asked ns = true) (hr : Room k callerA)
    (F : ∀ base : Heap, FnOk P w K mg base CX0 k fa fd ["calls"] (spAnswers K)) (hbind : Binds K fd ["calls"] []) :
    codeAny (model P w) callerA (.call (.ref fa) ⟨[.ref a], []⟩) (fun r s' => (∃ p us n, r = .ok (.ret (.ref p)) ∧ s'.heap.get? p = some { cls := .type "list", data := .seq us n } ∧ Vals ((PyRa28.answers ns).map V.int) us.toList) ∧ OldK s₁.heap s'.heap ∧ s'.os = s₁.os ∧ AllBare s'.gens) s₁ := by
  have rv := vals_ints hi
  have lenV := hi.length
  have hz : ns.length ≤ sizeLine := Nat.le_trans hl (by decide)
  have core : ∀ H : Hp, Only H → CaOk K H a (ns.map V.int) → HOk P w H s₁.heap → (∀ b, H b ≠ none → b = a) → (H a ≠ none → K.lookup a = none) →
      codeAny (model P w) callerA (.call (.ref fa) ⟨[.ref a], []⟩) (fun r s' => (∃ p us n, r = .ok (.ret (.ref p)) ∧ s'.heap.get? p = some { cls := .type "list", data := .seq us n } ∧ Vals ((PyRa28.answers ns).map V.int) us.toList) ∧ OldK s₁.heap s'.heap ∧ s'.os = s₁.os ∧ AllBare s'.gens) s₁ := by
    intro H hO hS hok hA hK
    have base_of : ∀ {b : Addr} {o : Obj}, s₁.heap.get? b = some o → H b = none → (hidT s₁.heap H).get? b = some o := fun e n => hidT_get e n
    have noA : ∀ {b : Addr} {o : Obj} {es : Array DictEntry} {ep : Nat}, s₁.heap.get? b = some o → o.data = .dict es ep → H b = none := fun {b o es ep} e d => by
      cases q : H b with
      | none => rfl
      | some u =>
        have e' : b = a := hA b (by rw [q]; simp)
        subst e'
        rw [ha] at e; cases e
        have d' : Data.seq vs.toArray _ = Data.dict es ep := d
        cases d'
    have nsK : ∀ {b : Addr} {m : Str → Option Value}, s₁.heap.Ns b m → (hidT s₁.heap H).Ns b m := fun {b m} ⟨o, es, ep, e, d, r⟩ => ⟨o, es, ep, base_of e (noA e d), d, r⟩
    have hKb : K.In (hidT s₁.heap H) := fun b o e => base_of (KX b o e) (by
      cases q : H b with
      | none => rfl
      | some u =>
        have e' : b = a := hA b (by rw [q]; simp)
        subst e'
        rw [hK (by rw [q]; simp)] at e; cases e)
    have hM : Mod K mg (hidT s₁.heap H) := ⟨hKb, nsK hns, ⟨mb, nsK hb, hbb⟩, let ⟨mc, h1, h2⟩ := hlim; ⟨mc, nsK h1, h2⟩⟩
    have e0 : Env0 P w K mg (hidT s₁.heap H) callerA [] s₁ H := ⟨rfl, hM, fun b o e => of_hidT e, Nat.le_of_eq (hidT_size _ _), trivial, fun b hb => absurd (show b ∈ ([] : List Addr) from hb) (by simp), hok, .of_eq hg⟩
    refine codeAny_mono ((F (hidT s₁.heap H)).run callerA [] s₁ H ⟨[.ref a], []⟩ [.ref a] [.ref a] (fun v H' => ∃ p, v = .ref p ∧ H' p = some (.lst ((PyRa28.answers ns).map V.int))) (fun _ _ _ => False) hr e0 ?_ (.cons rfl .nil) ⟨a, ns, rfl, hS, hask, hl, fun p H' h => ⟨p, rfl, h⟩⟩) fun r s' h => ?_
    · exact hbind s₁ [.ref a] KX rfl
    cases r with
    | error e => exact False.elim h
    | ok fl =>
      cases fl with
      | next => exact False.elim h
      | brk => exact False.elim h
      | cont => exact False.elim h
      | ret u =>
        obtain ⟨v, H', os, bare, un, hok', r', p, rfl, hp⟩ := h
        obtain rfl : u = Value.ref p := r'
        refine ⟨?_, OldK.of_keep fun b o e => ?_, os, bare⟩
        · obtain ⟨_, its, n, hv, hget⟩ := hok' p _ hp
          exact ⟨p, its.toArray, n, rfl, hget, by simpa using hv⟩
        · cases q : H b with
          | none => exact un.keep b o e q (by intro z; exact absurd (show b ∈ ([] : List Addr) from z) (by simp)) (by simp)
          | some u =>
            rcases hO b with z | ⟨ob, xs, z⟩
            · rw [q] at z; cases z
            · have z2 := un.frzs b ob _ z
              obtain ⟨e1, _⟩ := hok b _ z
              obtain ⟨e2, _⟩ := hok' b _ z2
              rw [e] at e1; cases e1
              exact e2
  cases hk : K.lookup a with
  | some o =>
    have e := KX a o hk
    rw [ha] at e
    cases e
    refine core (fun _ => none) (fun _ => .inl rfl) (.inr ⟨_, vs.toArray, _, hk, rfl, rfl, rfl, by rw [List.size_toArray, lenV]; exact hz, by simpa using rv⟩) (fun b u z => by have z' : (none : Option HO) = some u := z; cases z') (fun b z => absurd rfl z) fun z => absurd rfl z
  | none =>
    refine core (fun b => if b = a then some (.frz { cls := .type "list", data := .seq vs.toArray } (.lst (ns.map V.int))) else none) (fun b => ?_) (.inl ⟨{ cls := .type "list", data := .seq vs.toArray }, if_pos rfl⟩) (fun b u z => ?_) (fun b z => ?_) fun _ => hk
    · by_cases hb : b = a
      · exact .inr ⟨_, _, if_pos hb⟩
      · exact .inl (if_neg hb)
    · by_cases hb : b = a
      · have z' := (if_pos hb).symm.trans z
        cases z'
        subst hb
        exact ⟨ha, by rw [List.length_map]; exact hz, vs, _, rv, ha⟩
      · have z' := (if_neg hb).symm.trans z
        cases z'
    · by_cases hb : b = a
      · exact hb
      · exact absurd (if_neg hb) z
theorem args_of {P : Params} {h : Heap} {args : List WData} {vals : List Value} (hpre : PySem.Challenge.rw_slotchip_s01_answers.pre args = true) (hwl : WellAll P h vals args) :
    ∃ a vs ns, vals = [Value.ref a] ∧ h.get? a = some { cls := .type "list", data := .seq vs.toArray } ∧ IntsAre vs ns ∧ ns.length ≤ 30000 ∧ PyRa28.answers_asked ns = true ∧
      PySem.Challenge.rw_slotchip_s01_answers.post args (.list ((PyRa28.answers ns).map WData.int)) = true := by
  obtain ⟨⟨ns, u⟩, hdec, hask⟩ := os_pre_some hpre
  obtain ⟨hargs, hw⟩ := Codec.encAll_of_decAll PySem.Challenge.rw_slotchip_s01_answers.args args (ns, u) hdec
  have hw' : (Codec.inList 0 30000 (Codec.inInt (-2147483648) 4294967295) ns && true) = true := hw
  have hlen : ns.length ≤ 30000 := by
    unfold Codec.inList Codec.inLen Codec.inNat at hw'
    simp only [Bool.and_eq_true, decide_eq_true_eq] at hw'
    exact hw'.1.1.2
  have hargs' : args = [.list (ns.map WData.int)] := hargs
  have hpost : PySem.Challenge.rw_slotchip_s01_answers.post args (.list ((PyRa28.answers ns).map WData.int)) = true := os_post hdec (same_self _)
  have hask' : PyRa28.answers_asked ns = true := hask
  clear hdec hask hpre hw hw' hargs
  subst hargs'
  cases hwl with
  | cons w1 w2 =>
    cases w2
    cases w1 with
    | list ho hall => exact ⟨_, _, ns, rfl, ho, Att.ints_of_wellAll ns _ hall, hlen, hask', hpost⟩
theorem walk_done {q : Program} {loose : List Str} {XP : (Str → Option Value) → Heap → Prop} {YP : World → Heap → Prop} {d : DefRec} {K : Params → Frag} (hdn : d.name = "answers") (hdf : d.params.defaults = [])
    (hY : ∀ (w : World) (h : Heap), YP w h → (K w.params).In h)
    (W : ∀ p, FactsA (K p) ∧ FactsF (K p) ∧ FactsM (K p) ∧ FactsN (K p) ∧ FactsB (K p) ∧ FactsC (K p) ∧ FactsT (K p)) :
    WalkOS q loose XP YP PySem.Challenge.rw_slotchip_s01_answers d [] (fun f vs => PySem.call f vs) := by
  intro w s₀ s₁ mg mb G Y fa o pm cd doc dV kV ho hd hcd hD hmg hg args vals as hpre hlay hrd hwl hlo
  obtain ⟨a, vs, ns, rfl, hobj, hints, hlen, hask, hpost⟩ := args_of hpre hwl
  have KX := hY w _ Y
  obtain ⟨wA, wF, wM, wN, wB, wC, wT⟩ := W w.params
  have X : Xg (K w.params) mg := fun x v e => mg_of KX G.T.g e
  have X0 : ∀ x, nsIn (K w.params) mainGlobals x = some none → mg x = none := fun x e => mg_none_of KX G.T.g e
  obtain ⟨e1, fd, F0⟩ := wF.f_answers
  rw [hdn] at hmg
  have e0 := hmg.symm.trans (X _ _ e1)
  cases e0
  refine enter_call (codeAny_mono (call_ends KX G.T.g G.T.b G.T.builtins G.T.nolimit hg hobj hints hlen hask (k := 12) ⟨rfl, by decide, by decide⟩ (fun base => wire X X0 wA wF wM wN wB wC wT F0) (F0.binds (fun _ _ _ _ _ _ us hl => match us, hl with | [_], _ => by kernel_rfl))) fun r s' hq => ?_)
  obtain ⟨⟨p, us, n, rfl, hget, hv⟩, h2, h3, h4⟩ := hq
  exact ⟨.inl ⟨.ref p, .list ((PyRa28.answers ns).map WData.int), [p], rfl, fun _ => rfl, .list (as := []) hget rfl rfl (reads_ints hv), hpost, fun e => (nomatch e)⟩, h2, h3, h4⟩
end Sh
section
open PySem PySem.W PyProof.Rows
set_option maxHeartbeats 0 in
theorem PySem.Challenge.cw_slotchip_s01_answers_holds : PySem.Challenge.rw_slotchip_s01_answers.Holds := by
  apply Sh.head
  w_on
  k_fillS
  refine Sh.walk_done rfl rfl (fun w h Y => kIn_of Y) fun p => ⟨?A, ?F, ?M, ?N, ?B, ?C, ?T⟩
  case A =>
    constructor
    all_goals (apply Sh.fa_mk; k_is; k_is; k_is; k_is)
  case F =>
    constructor
    all_goals (apply Sh.fa_mk; k_is; k_is; k_is; k_is)
  case M =>
    constructor
    all_goals (apply Sh.ma_mk; k_is; k_is; k_is; k_is; k_is)
  case N =>
    constructor
    all_goals (apply Sh.na_mk; k_is)
  case B =>
    constructor
    all_goals k_is
  case C =>
    constructor
    case xt => constructor <;> kernel_rfl
    case xm => constructor <;> kernel_rfl
    all_goals kernel_rfl
  case T =>
    constructor
    case t6 => (apply Sh.tt_mk; k_is; k_is; kernel_rfl)
    case am => (apply Sh.tt_mk; k_is; k_is; kernel_rfl)
    all_goals (apply Sh.tb_mk; k_is; k_is; kernel_rfl; kernel_rfl)
end

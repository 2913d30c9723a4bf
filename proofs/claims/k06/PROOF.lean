import PyProof.Rows.All
import Wide.All
import OpenK.AllK
import Wide.FinOn
import KE.KStateDown
import HandS.ForMost
import HandS.Flow
import HandS.IsInst
import HandS.Defaults
import HandS.Zip
import HandS.TupAny
import HandS.WideBits
import HandS.HeadEnd
import HandS.AnyAll
import HandS.GenList
import HandS.More
import HandS.SortInts
import HandS.HeadHook4
import KE.KNestM
import HandS.Head0
import HandS.Head1
import HandS.Head2
import HandS.Style
import HandS.TupMul
import HandS.Text
import HandS.FStr
import PyProof.FString3
import PyProof.Rows.StrIntSpec
import HandS.EndTab
import KE.BitLaws
import PyProof.Rows.ReprShort
import PySem.Challenge.RW_suresieves_k06_packets_ends_writes
set_option Elab.async false
set_option linter.all false
set_option maxRecDepth 100000
/-! data as trees, and what a law's head must hold -/
namespace Ev
open PySem PySem.Spec PyProof.Rows L2
/-- data as trees; ref: a list or dict that may change, by its number in the store; fn: a def by its name; wd: a dict of the module -/
inductive D where
  | non | bl (b : Bool) | int (i : Int) | str (x : Str) | ty (n : String) | fn (g : Str)
  | tup (l : List D) | lst (l : List D) | rls (l : List D) | ref (n : Nat) | wd (ks : List Str) (l : List D)
  deriving Inhabited

structure DI where
  name : Str
  params : Arguments
  body : List Stmt
  scope : Scope
  ps : List Str
  N : List Str
  refs : Bool
  tab : Bool
  deriving Inhabited
structure Pg where
  ds : List DI
  glbs : List Str
  kws : List (Str × List Str × List Nat)
  fuel : Nat
def pickV {α : Type} (ix : List Nat) (ws : List α) : Option (List α) := match ix with
  | [] => some []
  | i :: is => match ws[i]? with
    | some w => (pickV is ws).map (w :: ·)
    | none => none
def Pg.fnD (p : Pg) : List He.DefD := p.ds.map fun d => ⟨(d.name, none), d.name, d.name, d.params, d.body, d.scope, [], []⟩
def Pg.fas (p : Pg) (free : List Str) : List He.Fa := (p.ds.map fun d => He.Fa.glo d.name) ++ free.map He.Fa.free
def frees : List Str := ["len", "isinstance", "int", "abs", "max", "min", "repr", "divmod", "all", "tuple", "list", "str", "range", "enumerate", "zip", "bool", "dict", "any", "sorted"]
/-! constants of the module: plain values, tuples of them, dicts with text keys -/
mutual
def dB (K : PySem.W.Frag) : D → Value → Bool
  | .non, u => u == .none
  | .bl b, u => u == .bool b
  | .int i, u => match u with
    | .int j _ => i == j
    | _ => false
  | .str x, u => match u with
    | .str y _ => x == y
    | _ => false
  | .ty n, u => u == .type n
  | .fn g, u => u == .ref (He.ga K g)
  | .tup ds, u => match u with
    | .ref a => match K.lookup a with
      | some ⟨.type c, _, .seq its _, _⟩ => decide (c = "tuple") && (decide (its.size ≤ sizeLine) && dsB K ds its.toList)
      | _ => false
    | _ => false
  | _, _ => false
def dsB (K : PySem.W.Frag) : List D → List Value → Bool
  | [], [] => true
  | d :: ds, u :: us => dB K d u && dsB K ds us
  | _, _ => false
end
/-- the written dict's values by key -/
def wdB (K : PySem.W.Frag) (a : Addr) : List Str → List D → Bool
  | [], [] => true
  | k :: ks, d :: ds => (match PySem.W.nsIn K a k with
    | some (some u) => dB K d u
    | _ => false) && wdB K a ks ds
  | _, _ => false
/-- what the head must hold of the constant g -/
def cstB (K : PySem.W.Frag) (g : Str) (d : D) : Bool := match PySem.W.nsIn K mainGlobals g with
  | some (some u) => match d with
    | .wd ks ds => u == .ref (He.ga K g) && wdB K (He.ga K g) ks ds
    | d => dB K d u
  | _ => false
def tabsOf : List (Str × D) → List He.Tab
  | [] => []
  | (g, .wd ks _) :: r => (fun K => He.ga K g, ks) :: tabsOf r
  | _ :: r => tabsOf r
/-- the constants by name -/
def lookD (x : Str) : List (Str × D) → Option D
  | [] => none
  | (y, d) :: r => if y = x then some d else lookD x r
def cstsB (cs : List (Str × D)) (K : PySem.W.Frag) : Bool := cs.all fun q => cstB K q.1 q.2
theorem lookD_mem {x : Str} {d : D} : ∀ {cs : List (Str × D)}, lookD x cs = some d → (x, d) ∈ cs
  | [], h => by cases h
  | (y, e) :: r, h => by
    simp only [lookD] at h
    split at h
    · rename_i q
      cases h
      subst q
      exact List.mem_cons_self
    · exact List.mem_cons_of_mem _ (lookD_mem h)
/-- how a def's parameters are bound -/
def BndOK (d : DI) : Prop := ∀ (kV doc pm : Value) (an : Option Addr) (cdv ct : Value) (us : List Value), us.length = d.ps.length →
  bindArgs (PySem.W.fnOf d.name d.name d.params d.body d.scope .none kV doc pm an cdv ct) ⟨us, []⟩ = pure (d.ps.zip us)
def KwdOK (d : DI) (ks : List Str) (ix : List Nat) : Prop := ∀ (kV doc pm : Value) (an : Option Addr) (cdv ct : Value) (ws us : List Value), ws.length = ks.length → pickV ix ws = some us →
  bindArgs (PySem.W.fnOf d.name d.name d.params d.body d.scope .none kV doc pm an cdv ct) ⟨[], ks.zip ws⟩ = pure (d.ps.zip us)
def scB (d : DI) : Bool := decide (d.scope.kind = .function) && (!d.scope.isCoroutine && (!d.scope.isGenerator && (decide d.N.Nodup && (decide (d.N.take d.ps.length = d.ps) &&
  ((d.ps.all fun x => decide (d.scope.names.lookup x = some .local) || decide (d.scope.names.lookup x = some .cell)) && d.scope.names.all fun y => decide (y.2 ≠ .free))))))
/-- all that is asked of the text -/
structure TxOK (p : Pg) (cs : List (Str × D)) : Prop where
  sc : (p.ds.all scB) = true
  bn : ∀ d ∈ p.ds, BndOK d
  kw : ∀ d ∈ p.ds, ∀ ks ix, (d.name, ks, ix) ∈ p.kws → KwdOK d ks ix
  gl : ∀ g d, lookD g cs = some d → g ∈ p.glbs
/-- the defs with tables -/
def Pg.tf (p : Pg) : List He.Defn := (p.ds.filter (·.tab)).map fun d => (d.name, none)
end Ev

namespace K06
open PySem PySem.Spec PyProof.Rows L2 Ev
def top (i : Nat) : Stmt := PySem.Challenge.pw_suresieves_k06_packets_ends_writes.main.body.getD i (.Pass ⟨0, 0, 0, 0⟩)
def d_is_whole : DI := ⟨"is_whole", defArgs (top 1), defBody (top 1), defScope (top 1), ["value"], ["value"], false, false⟩
def d_is_between : DI := ⟨"is_between", defArgs (top 2), defBody (top 2), defScope (top 2), ["value", "least", "most"], ["value", "least", "most"], false, false⟩
def d_is_from_nought : DI := ⟨"is_from_nought", defArgs (top 3), defBody (top 3), defScope (top 3), ["value"], ["value"], false, false⟩
def d_is_word : DI := ⟨"is_word", defArgs (top 4), defBody (top 4), defScope (top 4), ["value"], ["value"], false, false⟩
def d_is_flag : DI := ⟨"is_flag", defArgs (top 5), defBody (top 5), defScope (top 5), ["value"], ["value"], false, false⟩
def d_is_one_of : DI := ⟨"is_one_of", defArgs (top 6), defBody (top 6), defScope (top 6), ["value", "texts"], ["value", "texts"], false, false⟩
def d_is_tuple : DI := ⟨"is_tuple", defArgs (top 7), defBody (top 7), defScope (top 7), ["value", "least", "most"], ["value", "least", "most"], false, false⟩
def d_are_all : DI := ⟨"are_all", defArgs (top 8), defBody (top 8), defScope (top 8), ["value", "least", "most", "is_good"], ["value", "least", "most", "is_good"], false, false⟩
def d_first_bad : DI := ⟨"first_bad", defArgs (top 9), defBody (top 9), defScope (top 9), ["values", "is_good"], ["values", "is_good", "index", "value"], false, false⟩
def d_combined : DI := ⟨"combined", defArgs (top 18), defBody (top 18), defScope (top 18), ["op", "one", "two"], ["op", "one", "two"], false, false⟩
def d_related : DI := ⟨"related", defArgs (top 19), defBody (top 19), defScope (top 19), ["condition", "one", "two"], ["condition", "one", "two"], false, false⟩
def d_ones_in : DI := ⟨"ones_in", defArgs (top 20), defBody (top 20), defScope (top 20), ["number"], ["number"], false, false⟩
def d_mixed : DI := ⟨"mixed", defArgs (top 21), defBody (top 21), defScope (top 21), ["word"], ["word"], false, false⟩
def d_exchanged : DI := ⟨"exchanged", defArgs (top 23), defBody (top 23), defScope (top 23), ["row", "index", "value"], ["row", "index", "value"], false, false⟩
def d_pair_index : DI := ⟨"pair_index", defArgs (top 24), defBody (top 24), defScope (top 24), ["pairs", "key"], ["pairs", "key", "index", "pair"], false, false⟩
def d_table_fault : DI := ⟨"table_fault", defArgs (top 25), defBody (top 25), defScope (top 25), ["row", "run"], ["row", "run", "head", "t", "tables", "word", "sort", "many"], false, false⟩
def d_packet_fault : DI := ⟨"packet_fault", defArgs (top 26), defBody (top 26), defScope (top 26), ["row", "run"], ["row", "run", "head", "last"], false, false⟩
def d_next_fault : DI := ⟨"next_fault", defArgs (top 27), defBody (top 27), defScope (top 27), ["sieve", "run"], ["sieve", "run", "row"], false, false⟩
def d_set_word : DI := ⟨"set_word", defArgs (top 28), defBody (top 28), defScope (top 28), ["row", "run"], ["row", "run"], false, false⟩
def d_moved_word : DI := ⟨"moved_word", defArgs (top 29), defBody (top 29), defScope (top 29), ["row", "run"], ["row", "run"], false, false⟩
def d_length_word : DI := ⟨"length_word", defArgs (top 30), defBody (top 30), defScope (top 30), ["row", "run"], ["row", "run"], false, false⟩
def d_taken_word : DI := ⟨"taken_word", defArgs (top 31), defBody (top 31), defScope (top 31), ["row", "run"], ["row", "run"], false, false⟩
def d_combined_word : DI := ⟨"combined_word", defArgs (top 32), defBody (top 32), defScope (top 32), ["row", "run"], ["row", "run"], false, false⟩
def d_combined_number : DI := ⟨"combined_number", defArgs (top 33), defBody (top 33), defScope (top 33), ["row", "run"], ["row", "run"], false, false⟩
def d_byte_word : DI := ⟨"byte_word", defArgs (top 34), defBody (top 34), defScope (top 34), ["row", "run"], ["row", "run"], false, false⟩
def d_pair_word : DI := ⟨"pair_word", defArgs (top 35), defBody (top 35), defScope (top 35), ["row", "run"], ["row", "run", "at"], false, false⟩
def d_cell_word : DI := ⟨"cell_word", defArgs (top 36), defBody (top 36), defScope (top 36), ["row", "run"], ["row", "run"], false, false⟩
def d_found_word : DI := ⟨"found_word", defArgs (top 37), defBody (top 37), defScope (top 37), ["row", "run"], ["row", "run", "index"], false, false⟩
def d_value_word : DI := ⟨"value_word", defArgs (top 38), defBody (top 38), defScope (top 38), ["row", "run"], ["row", "run"], false, false⟩
def d_asked_word : DI := ⟨"asked_word", defArgs (top 39), defBody (top 39), defScope (top 39), ["row", "run"], ["row", "run", "word"], false, false⟩
def d_with_content : DI := ⟨"with_content", defArgs (top 41), defBody (top 41), defScope (top 41), ["run", "t", "content"], ["run", "t", "content", "table"], false, false⟩
def d_kept : DI := ⟨"kept", defArgs (top 42), defBody (top 42), defScope (top 42), ["row", "run"], ["row", "run"], false, false⟩
def d_written : DI := ⟨"written", defArgs (top 43), defBody (top 43), defScope (top 43), ["row", "run"], ["row", "run", "at"], false, false⟩
def d_filled : DI := ⟨"filled", defArgs (top 44), defBody (top 44), defScope (top 44), ["row", "run"], ["row", "run", "cells"], false, false⟩
def d_counted : DI := ⟨"counted", defArgs (top 45), defBody (top 45), defScope (top 45), ["row", "run"], ["row", "run", "cells", "index"], false, false⟩
def d_changed : DI := ⟨"changed", defArgs (top 46), defBody (top 46), defScope (top 46), ["row", "run"], ["row", "run", "pairs", "index", "pair"], false, false⟩
def d_begun_again : DI := ⟨"begun_again", defArgs (top 47), defBody (top 47), defScope (top 47), ["row", "run"], ["row", "run"], false, false⟩
def d_leads_to : DI := ⟨"leads_to", defArgs (top 49), defBody (top 49), defScope (top 49), ["row", "run"], ["row", "run", "registers", "two"], false, false⟩
def d_gone_on : DI := ⟨"gone_on", defArgs (top 50), defBody (top 50), defScope (top 50), ["row", "run"], ["row", "run", "place", "counters"], false, false⟩
def d_done : DI := ⟨"done", defArgs (top 51), defBody (top 51), defScope (top 51), ["row", "run"], ["row", "run", "head", "tell", "registers", "change"], false, false⟩
def d_stepped : DI := ⟨"stepped", defArgs (top 52), defBody (top 52), defScope (top 52), ["sieve", "run"], ["sieve", "run", "kind"], false, false⟩
def d_is_byte : DI := ⟨"is_byte", defArgs (top 54), defBody (top 54), defScope (top 54), ["value"], ["value"], false, false⟩
def d_is_packet : DI := ⟨"is_packet", defArgs (top 55), defBody (top 55), defScope (top 55), ["value"], ["value"], false, false⟩
def d_is_pair : DI := ⟨"is_pair", defArgs (top 56), defBody (top 56), defScope (top 56), ["value"], ["value"], false, false⟩
def d_are_pairs : DI := ⟨"are_pairs", defArgs (top 57), defBody (top 57), defScope (top 57), ["value"], ["value", "keys", "pair"], false, true⟩
def d_is_headed : DI := ⟨"is_headed", defArgs (top 58), defBody (top 58), defScope (top 58), ["value"], ["value"], false, false⟩
def d_is_table : DI := ⟨"is_table", defArgs (top 59), defBody (top 59), defScope (top 59), ["value"], ["value"], false, false⟩
def d_are_tables : DI := ⟨"are_tables", defArgs (top 60), defBody (top 60), defScope (top 60), ["value"], ["value"], false, false⟩
def d_has_fields : DI := ⟨"has_fields", defArgs (top 64), defBody (top 64), defScope (top 64), ["value"], ["value"], false, false⟩
def d_is_field : DI := ⟨"is_field", defArgs (top 65), defBody (top 65), defScope (top 65), ["kind", "value"], ["kind", "value", "least", "most"], false, false⟩
def d_is_row_form : DI := ⟨"is_row_form", defArgs (top 66), defBody (top 66), defScope (top 66), ["value"], ["value"], false, true⟩
def d_is_row : DI := ⟨"is_row", defArgs (top 70), defBody (top 70), defScope (top 70), ["value"], ["value"], false, false⟩
def d_is_count : DI := ⟨"is_count", defArgs (top 71), defBody (top 71), defScope (top 71), ["value"], ["value"], false, false⟩
def d_is_end : DI := ⟨"is_end", defArgs (top 72), defBody (top 72), defScope (top 72), ["value"], ["value"], false, false⟩
def d_run_parts : DI := ⟨"run_parts", defArgs (top 73), defBody (top 73), defScope (top 73), ["value"], ["value"], false, false⟩
def d_need_sieve : DI := ⟨"need_sieve", defArgs (top 74), defBody (top 74), defScope (top 74), ["sieve"], ["sieve", "wrong"], false, false⟩
def d_need_run : DI := ⟨"need_run", defArgs (top 75), defBody (top 75), defScope (top 75), ["run"], ["run", "index", "is_right"], false, false⟩
def d_need_steps : DI := ⟨"need_steps", defArgs (top 76), defBody (top 76), defScope (top 76), ["steps"], ["steps"], false, false⟩
def d_run_far : DI := ⟨"run_far", defArgs (top 77), defBody (top 77), defScope (top 77), ["sieve", "run", "steps"], ["sieve", "run", "steps", "left"], false, false⟩
def d_one_step : DI := ⟨"one_step", defArgs (top 78), defBody (top 78), defScope (top 78), ["sieve", "run"], ["sieve", "run"], false, false⟩
def d_run_on : DI := ⟨"run_on", defArgs (top 79), defBody (top 79), defScope (top 79), ["sieve", "run", "steps"], ["sieve", "run", "steps"], false, false⟩
def d_fault_of : DI := ⟨"fault_of", defArgs (top 80), defBody (top 80), defScope (top 80), ["sieve", "run"], ["sieve", "run"], false, false⟩
def d__law_jar : DI := ⟨"_law_jar", defArgs (top 82), defBody (top 82), defScope (top 82), ["script", "turn"], ["script", "turn", "mixed_v", "cell", "own"], true, false⟩
def d__law_dip : DI := ⟨"_law_dip", defArgs (top 83), defBody (top 83), defScope (top 83), ["jar", "top"], ["jar", "top", "figure", "stirred"], false, false⟩
def d__law_one_of : DI := ⟨"_law_one_of", defArgs (top 84), defBody (top 84), defScope (top 84), ["jar", "some"], ["jar", "some"], false, false⟩
def d__law_same : DI := ⟨"_law_same", defArgs (top 85), defBody (top 85), defScope (top 85), ["told", "due"], ["told", "due"], false, false⟩
def d__law_put : DI := ⟨"_law_put", defArgs (top 86), defBody (top 86), defScope (top 86), ["line", "at", "thing"], ["line", "at", "thing"], false, false⟩
def d__law_reckon : DI := ⟨"_law_reckon", defArgs (top 87), defBody (top 87), defScope (top 87), ["op", "one", "two"], ["op", "one", "two", "turns"], false, false⟩
def d__law_holds : DI := ⟨"_law_holds", defArgs (top 88), defBody (top 88), defScope (top 88), ["condition", "one", "two"], ["condition", "one", "two", "shared", "told"], false, false⟩
def d__law_table : DI := ⟨"_law_table", defArgs (top 89), defBody (top 89), defScope (top 89), ["run", "row"], ["run", "row", "at", "table", "sort"], false, false⟩
def d__law_fault : DI := ⟨"_law_fault", defArgs (top 90), defBody (top 90), defScope (top 90), ["sieve", "run"], ["sieve", "run", "row", "table", "here"], false, false⟩
def d__law_set : DI := ⟨"_law_set", defArgs (top 91), defBody (top 91), defScope (top 91), ["run", "at", "word"], ["run", "at", "word"], false, false⟩
def d__law_asked : DI := ⟨"_law_asked", defArgs (top 92), defBody (top 92), defScope (top 92), ["run", "help_word", "word"], ["run", "help_word", "word", "k"], false, false⟩
def d__law_plain : DI := ⟨"_law_plain", defArgs (top 93), defBody (top 93), defScope (top 93), ["run", "row"], ["run", "row", "word", "words"], false, false⟩
def d__law_reach : DI := ⟨"_law_reach", defArgs (top 94), defBody (top 94), defScope (top 94), ["run", "row"], ["run", "row", "word", "words", "packet", "at", "new", "spot", "table", "here", "inside", "found"], false, false⟩
def d__law_way : DI := ⟨"_law_way", defArgs (top 95), defBody (top 95), defScope (top 95), ["run", "row"], ["run", "row", "word", "words", "place", "other"], false, false⟩
def d__law_step : DI := ⟨"_law_step", defArgs (top 96), defBody (top 96), defScope (top 96), ["sieve", "run"], ["sieve", "run", "kind", "steps", "row", "done_v"], false, false⟩
def d__law_run : DI := ⟨"_law_run", defArgs (top 97), defBody (top 97), defScope (top 97), ["sieve", "run", "many"], ["sieve", "run", "many", "turn"], false, false⟩
def d__law_begun : DI := ⟨"_law_begun", defArgs (top 98), defBody (top 98), defScope (top 98), ["packet", "tables", "clock", "writable"], ["packet", "tables", "clock", "writable"], false, false⟩
def d__law_word : DI := ⟨"_law_word", defArgs (top 99), defBody (top 99), defScope (top 99), ["jar"], ["jar", "way"], false, false⟩
def d__law_bytes : DI := ⟨"_law_bytes", defArgs (top 100), defBody (top 100), defScope (top 100), ["jar", "many"], ["jar", "many", "found", "at"], true, false⟩
def d__law_right : DI := ⟨"_law_right", defArgs (top 101), defBody (top 101), defScope (top 101), ["jar"], ["jar", "size", "packet", "writable", "word", "far", "turn", "more", "start", "run", "sieve", "due"], false, false⟩
def d_law : DI := ⟨"law", defArgs (top 102), defBody (top 102), defScope (top 102), ["script"], ["script", "turn"], false, false⟩
def cs : List (Str × D) := [("CONDITIONS", .tup [.str "same", .str "other", .str "below", .str "from", .str "bit", .str "nobit"]), ("HELPERS", .tup [.str "clock", .str "ones", .str "mix"]), ("WORDS", .wd ([("set" : Str), ("move" : Str), ("length" : Str), ("take" : Str), ("add" : Str), ("sub" : Str), ("and" : Str), ("or" : Str), ("xor" : Str), ("left" : Str), ("right" : Str), ("addn" : Str), ("andn" : Str), ("orn" : Str), ("xorn" : Str), ("leftn" : Str), ("rightn" : Str), ("byte" : Str), ("pair" : Str), ("cell" : Str), ("find" : Str), ("value" : Str), ("ask" : Str)] : List Str) [.fn "set_word", .fn "moved_word", .fn "length_word", .fn "taken_word", .fn "combined_word", .fn "combined_word", .fn "combined_word", .fn "combined_word", .fn "combined_word", .fn "combined_word", .fn "combined_word", .fn "combined_number", .fn "combined_number", .fn "combined_number", .fn "combined_number", .fn "combined_number", .fn "combined_number", .fn "byte_word", .fn "pair_word", .fn "cell_word", .fn "found_word", .fn "value_word", .fn "asked_word"]), ("CHANGES", .wd ([("keep" : Str), ("write" : Str), ("fill" : Str), ("count" : Str), ("change" : Str), ("begin" : Str)] : List Str) [.fn "kept", .fn "written", .fn "filled", .fn "counted", .fn "changed", .fn "begun_again"]), ("FIELDS", .wd ([("set" : Str), ("move" : Str), ("length" : Str), ("take" : Str), ("keep" : Str), ("add" : Str), ("sub" : Str), ("and" : Str), ("or" : Str), ("xor" : Str), ("left" : Str), ("right" : Str), ("addn" : Str), ("andn" : Str), ("orn" : Str), ("xorn" : Str), ("leftn" : Str), ("rightn" : Str), ("byte" : Str), ("pair" : Str), ("write" : Str), ("cell" : Str), ("fill" : Str), ("count" : Str), ("find" : Str), ("value" : Str), ("change" : Str), ("ask" : Str), ("jump" : Str), ("when" : Str), ("whenn" : Str), ("begin" : Str), ("again" : Str), ("answer" : Str)] : List Str) [.tup [.str "reg", .str "word"], .tup [.str "reg", .str "reg"], .tup [.str "reg"], .tup [.str "reg", .str "slot"], .tup [.str "reg", .str "slot"], .tup [.str "reg", .str "reg"], .tup [.str "reg", .str "reg"], .tup [.str "reg", .str "reg"], .tup [.str "reg", .str "reg"], .tup [.str "reg", .str "reg"], .tup [.str "reg", .str "reg"], .tup [.str "reg", .str "reg"], .tup [.str "reg", .str "word"], .tup [.str "reg", .str "word"], .tup [.str "reg", .str "word"], .tup [.str "reg", .str "word"], .tup [.str "reg", .str "shift"], .tup [.str "reg", .str "shift"], .tup [.str "reg", .str "reg", .str "ahead"], .tup [.str "reg", .str "reg", .str "ahead"], .tup [.str "reg", .str "reg", .str "ahead"], .tup [.str "reg", .str "table", .str "reg"], .tup [.str "reg", .str "table", .str "reg"], .tup [.str "table", .str "reg"], .tup [.str "reg", .str "table", .str "reg"], .tup [.str "reg", .str "table", .str "reg"], .tup [.str "reg", .str "table", .str "reg"], .tup [.str "reg", .str "helper", .str "reg"], .tup [.str "place"], .tup [.str "condition", .str "reg", .str "reg", .str "place"], .tup [.str "condition", .str "reg", .str "word", .str "place"], .tup [.str "counter"], .tup [.str "counter", .str "times", .str "place"], .tup [.str "reg"]]), ("BOUNDS", .wd ([("reg" : Str), ("word" : Str), ("shift" : Str), ("slot" : Str), ("ahead" : Str), ("table" : Str), ("counter" : Str), ("times" : Str), ("place" : Str)] : List Str) [.tup [.int 0, .int 7], .tup [.int 0, .int 65535], .tup [.int 0, .int 15], .tup [.int 0, .int 15], .tup [.int 0, .int 255], .tup [.int 0, .int 5], .tup [.int 0, .int 3], .tup [.int 1, .int 100], .tup [.int 0, .int 119]]), ("FAULTS", .tup [.str "place", .str "table", .str "index", .str "handle", .str "packet", .str "grant"]), ("MOST_STEPS", .int 20000)]
def pg : Pg := ⟨[d_is_whole, d_is_between, d_is_from_nought, d_is_word, d_is_flag, d_is_one_of, d_is_tuple, d_are_all, d_first_bad, d_combined, d_related, d_ones_in, d_mixed, d_exchanged, d_pair_index, d_table_fault, d_packet_fault, d_next_fault, d_set_word, d_moved_word, d_length_word, d_taken_word, d_combined_word, d_combined_number, d_byte_word, d_pair_word, d_cell_word, d_found_word, d_value_word, d_asked_word, d_with_content, d_kept, d_written, d_filled, d_counted, d_changed, d_begun_again, d_leads_to, d_gone_on, d_done, d_stepped, d_is_byte, d_is_packet, d_is_pair, d_are_pairs, d_is_headed, d_is_table, d_are_tables, d_has_fields, d_is_field, d_is_row_form, d_is_row, d_is_count, d_is_end, d_run_parts, d_need_sieve, d_need_run, d_need_steps, d_run_far, d_one_step, d_run_on, d_fault_of, d__law_jar, d__law_dip, d__law_one_of, d__law_same, d__law_put, d__law_reckon, d__law_holds, d__law_table, d__law_fault, d__law_set, d__law_asked, d__law_plain, d__law_reach, d__law_way, d__law_step, d__law_run, d__law_begun, d__law_word, d__law_bytes, d__law_right, d_law], ["CONDITIONS", "HELPERS", "WORDS", "CHANGES", "FIELDS", "BOUNDS", "FAULTS", "MOST_STEPS"], [], 60⟩
abbrev R : PySem.W.OpenRow := PySem.W.OpenLaw.row PySem.Challenge.rw_suresieves_k06_packets_ends_writes
abbrev hk : PySem.W.Hook := He.hookX 2 (pg.fas frees) pg.fnD (tabsOf cs) pg.tf (cstsB cs)
def ob (s : PySem.W.SharedT) : He.AlX := He.obsX 2 (pg.fas frees) pg.fnD (tabsOf cs) pg.tf (cstsB cs) (HandSHeadRun.getT s)
theorem ob_eq (s : PySem.W.SharedT) : ob s = hk.obs s.abs := He.obsX_eq (HandSHeadRun.getT_eq s)
def loose : List Str := (["is_whole", "is_between", "is_from_nought", "is_word", "is_flag", "is_one_of", "is_tuple", "are_all", "first_bad", "combined", "related", "ones_in", "mixed", "exchanged", "pair_index", "table_fault", "packet_fault", "next_fault", "set_word", "moved_word", "length_word", "taken_word", "combined_word", "combined_number", "byte_word", "pair_word", "cell_word", "found_word", "value_word", "asked_word"] : List Str) ++ (["with_content", "kept", "written", "filled", "counted", "changed", "begun_again", "leads_to", "gone_on", "done", "stepped", "is_byte", "is_packet", "is_pair", "are_pairs", "is_headed", "is_table", "are_tables", "has_fields", "is_field", "is_row_form", "is_row", "is_count", "is_end", "run_parts", "need_sieve", "need_run", "need_steps", "run_far", "one_step"] : List Str) ++ (["run_on", "fault_of", "_law_jar", "_law_dip", "_law_one_of", "_law_same", "_law_put", "_law_reckon", "_law_holds", "_law_table", "_law_fault", "_law_set", "_law_asked", "_law_plain", "_law_reach", "_law_way", "_law_step", "_law_run", "_law_begun", "_law_word", "_law_bytes", "_law_right", "SieveError", "InvalidNumber", "InvalidSieve", "InvalidRun", "CONDITIONS", "HELPERS", "WORDS", "CHANGES"] : List Str) ++ (["FIELDS", "BOUNDS", "FAULTS", "MOST_STEPS"] : List Str)
theorem runF (w : World) : HandSHeadRun.RunEq R (PySem.W.view R.prog [102]) hk ob 6000 loose (w.withFollow "special-get-raises" false) := by
  intro os
  kernel_rfl
theorem runT (w : World) : HandSHeadRun.RunEq R (PySem.W.view R.prog [102]) hk ob 6000 loose (w.withFollow "special-get-raises" true) := by
  intro os
  kernel_rfl
theorem run (w : World) : HandSHeadRun.RunEq R (PySem.W.view R.prog [102]) hk ob 6000 loose w :=
  PySem.W.byRow2 "special-get-raises" (P := fun w => HandSHeadRun.RunEq R (PySem.W.view R.prog [102]) hk ob 6000 loose w) runF runT w
theorem scs : (pg.ds.all scB) = true := by decide +kernel
theorem b_is_whole : BndOK d_is_whole := fun _ _ _ _ _ _ us hl => match us, hl with | [_], _ => rfl
theorem b_is_between : BndOK d_is_between := fun _ _ _ _ _ _ us hl => match us, hl with | [_, _, _], _ => rfl
theorem b_is_from_nought : BndOK d_is_from_nought := fun _ _ _ _ _ _ us hl => match us, hl with | [_], _ => rfl
theorem b_is_word : BndOK d_is_word := fun _ _ _ _ _ _ us hl => match us, hl with | [_], _ => rfl
theorem b_is_flag : BndOK d_is_flag := fun _ _ _ _ _ _ us hl => match us, hl with | [_], _ => rfl
theorem b_is_one_of : BndOK d_is_one_of := fun _ _ _ _ _ _ us hl => match us, hl with | [_, _], _ => rfl
theorem b_is_tuple : BndOK d_is_tuple := fun _ _ _ _ _ _ us hl => match us, hl with | [_, _, _], _ => rfl
theorem b_are_all : BndOK d_are_all := fun _ _ _ _ _ _ us hl => match us, hl with | [_, _, _, _], _ => rfl
theorem b_first_bad : BndOK d_first_bad := fun _ _ _ _ _ _ us hl => match us, hl with | [_, _], _ => rfl
theorem b_combined : BndOK d_combined := fun _ _ _ _ _ _ us hl => match us, hl with | [_, _, _], _ => rfl
theorem b_related : BndOK d_related := fun _ _ _ _ _ _ us hl => match us, hl with | [_, _, _], _ => rfl
theorem b_ones_in : BndOK d_ones_in := fun _ _ _ _ _ _ us hl => match us, hl with | [_], _ => rfl
theorem b_mixed : BndOK d_mixed := fun _ _ _ _ _ _ us hl => match us, hl with | [_], _ => rfl
theorem b_exchanged : BndOK d_exchanged := fun _ _ _ _ _ _ us hl => match us, hl with | [_, _, _], _ => rfl
theorem b_pair_index : BndOK d_pair_index := fun _ _ _ _ _ _ us hl => match us, hl with | [_, _], _ => rfl
theorem b_table_fault : BndOK d_table_fault := fun _ _ _ _ _ _ us hl => match us, hl with | [_, _], _ => rfl
theorem b_packet_fault : BndOK d_packet_fault := fun _ _ _ _ _ _ us hl => match us, hl with | [_, _], _ => rfl
theorem b_next_fault : BndOK d_next_fault := fun _ _ _ _ _ _ us hl => match us, hl with | [_, _], _ => rfl
theorem b_set_word : BndOK d_set_word := fun _ _ _ _ _ _ us hl => match us, hl with | [_, _], _ => rfl
theorem b_moved_word : BndOK d_moved_word := fun _ _ _ _ _ _ us hl => match us, hl with | [_, _], _ => rfl
theorem b_length_word : BndOK d_length_word := fun _ _ _ _ _ _ us hl => match us, hl with | [_, _], _ => rfl
theorem b_taken_word : BndOK d_taken_word := fun _ _ _ _ _ _ us hl => match us, hl with | [_, _], _ => rfl
theorem b_combined_word : BndOK d_combined_word := fun _ _ _ _ _ _ us hl => match us, hl with | [_, _], _ => rfl
theorem b_combined_number : BndOK d_combined_number := fun _ _ _ _ _ _ us hl => match us, hl with | [_, _], _ => rfl
theorem b_byte_word : BndOK d_byte_word := fun _ _ _ _ _ _ us hl => match us, hl with | [_, _], _ => rfl
theorem b_pair_word : BndOK d_pair_word := fun _ _ _ _ _ _ us hl => match us, hl with | [_, _], _ => rfl
theorem b_cell_word : BndOK d_cell_word := fun _ _ _ _ _ _ us hl => match us, hl with | [_, _], _ => rfl
theorem b_found_word : BndOK d_found_word := fun _ _ _ _ _ _ us hl => match us, hl with | [_, _], _ => rfl
theorem b_value_word : BndOK d_value_word := fun _ _ _ _ _ _ us hl => match us, hl with | [_, _], _ => rfl
theorem b_asked_word : BndOK d_asked_word := fun _ _ _ _ _ _ us hl => match us, hl with | [_, _], _ => rfl
theorem b_with_content : BndOK d_with_content := fun _ _ _ _ _ _ us hl => match us, hl with | [_, _, _], _ => rfl
theorem b_kept : BndOK d_kept := fun _ _ _ _ _ _ us hl => match us, hl with | [_, _], _ => rfl
theorem b_written : BndOK d_written := fun _ _ _ _ _ _ us hl => match us, hl with | [_, _], _ => rfl
theorem b_filled : BndOK d_filled := fun _ _ _ _ _ _ us hl => match us, hl with | [_, _], _ => rfl
theorem b_counted : BndOK d_counted := fun _ _ _ _ _ _ us hl => match us, hl with | [_, _], _ => rfl
theorem b_changed : BndOK d_changed := fun _ _ _ _ _ _ us hl => match us, hl with | [_, _], _ => rfl
theorem b_begun_again : BndOK d_begun_again := fun _ _ _ _ _ _ us hl => match us, hl with | [_, _], _ => rfl
theorem b_leads_to : BndOK d_leads_to := fun _ _ _ _ _ _ us hl => match us, hl with | [_, _], _ => rfl
theorem b_gone_on : BndOK d_gone_on := fun _ _ _ _ _ _ us hl => match us, hl with | [_, _], _ => rfl
theorem b_done : BndOK d_done := fun _ _ _ _ _ _ us hl => match us, hl with | [_, _], _ => rfl
theorem b_stepped : BndOK d_stepped := fun _ _ _ _ _ _ us hl => match us, hl with | [_, _], _ => rfl
theorem b_is_byte : BndOK d_is_byte := fun _ _ _ _ _ _ us hl => match us, hl with | [_], _ => rfl
theorem b_is_packet : BndOK d_is_packet := fun _ _ _ _ _ _ us hl => match us, hl with | [_], _ => rfl
theorem b_is_pair : BndOK d_is_pair := fun _ _ _ _ _ _ us hl => match us, hl with | [_], _ => rfl
theorem b_are_pairs : BndOK d_are_pairs := fun _ _ _ _ _ _ us hl => match us, hl with | [_], _ => rfl
theorem b_is_headed : BndOK d_is_headed := fun _ _ _ _ _ _ us hl => match us, hl with | [_], _ => rfl
theorem b_is_table : BndOK d_is_table := fun _ _ _ _ _ _ us hl => match us, hl with | [_], _ => rfl
theorem b_are_tables : BndOK d_are_tables := fun _ _ _ _ _ _ us hl => match us, hl with | [_], _ => rfl
theorem b_has_fields : BndOK d_has_fields := fun _ _ _ _ _ _ us hl => match us, hl with | [_], _ => rfl
theorem b_is_field : BndOK d_is_field := fun _ _ _ _ _ _ us hl => match us, hl with | [_, _], _ => rfl
theorem b_is_row_form : BndOK d_is_row_form := fun _ _ _ _ _ _ us hl => match us, hl with | [_], _ => rfl
theorem b_is_row : BndOK d_is_row := fun _ _ _ _ _ _ us hl => match us, hl with | [_], _ => rfl
theorem b_is_count : BndOK d_is_count := fun _ _ _ _ _ _ us hl => match us, hl with | [_], _ => rfl
theorem b_is_end : BndOK d_is_end := fun _ _ _ _ _ _ us hl => match us, hl with | [_], _ => rfl
theorem b_run_parts : BndOK d_run_parts := fun _ _ _ _ _ _ us hl => match us, hl with | [_], _ => rfl
theorem b_need_sieve : BndOK d_need_sieve := fun _ _ _ _ _ _ us hl => match us, hl with | [_], _ => rfl
theorem b_need_run : BndOK d_need_run := fun _ _ _ _ _ _ us hl => match us, hl with | [_], _ => rfl
theorem b_need_steps : BndOK d_need_steps := fun _ _ _ _ _ _ us hl => match us, hl with | [_], _ => rfl
theorem b_run_far : BndOK d_run_far := fun _ _ _ _ _ _ us hl => match us, hl with | [_, _, _], _ => rfl
theorem b_one_step : BndOK d_one_step := fun _ _ _ _ _ _ us hl => match us, hl with | [_, _], _ => rfl
theorem b_run_on : BndOK d_run_on := fun _ _ _ _ _ _ us hl => match us, hl with | [_, _, _], _ => rfl
theorem b_fault_of : BndOK d_fault_of := fun _ _ _ _ _ _ us hl => match us, hl with | [_, _], _ => rfl
theorem b__law_jar : BndOK d__law_jar := fun _ _ _ _ _ _ us hl => match us, hl with | [_, _], _ => rfl
theorem b__law_dip : BndOK d__law_dip := fun _ _ _ _ _ _ us hl => match us, hl with | [_, _], _ => rfl
theorem b__law_one_of : BndOK d__law_one_of := fun _ _ _ _ _ _ us hl => match us, hl with | [_, _], _ => rfl
theorem b__law_same : BndOK d__law_same := fun _ _ _ _ _ _ us hl => match us, hl with | [_, _], _ => rfl
theorem b__law_put : BndOK d__law_put := fun _ _ _ _ _ _ us hl => match us, hl with | [_, _, _], _ => rfl
theorem b__law_reckon : BndOK d__law_reckon := fun _ _ _ _ _ _ us hl => match us, hl with | [_, _, _], _ => rfl
theorem b__law_holds : BndOK d__law_holds := fun _ _ _ _ _ _ us hl => match us, hl with | [_, _, _], _ => rfl
theorem b__law_table : BndOK d__law_table := fun _ _ _ _ _ _ us hl => match us, hl with | [_, _], _ => rfl
theorem b__law_fault : BndOK d__law_fault := fun _ _ _ _ _ _ us hl => match us, hl with | [_, _], _ => rfl
theorem b__law_set : BndOK d__law_set := fun _ _ _ _ _ _ us hl => match us, hl with | [_, _, _], _ => rfl
theorem b__law_asked : BndOK d__law_asked := fun _ _ _ _ _ _ us hl => match us, hl with | [_, _, _], _ => rfl
theorem b__law_plain : BndOK d__law_plain := fun _ _ _ _ _ _ us hl => match us, hl with | [_, _], _ => rfl
theorem b__law_reach : BndOK d__law_reach := fun _ _ _ _ _ _ us hl => match us, hl with | [_, _], _ => rfl
theorem b__law_way : BndOK d__law_way := fun _ _ _ _ _ _ us hl => match us, hl with | [_, _], _ => rfl
theorem b__law_step : BndOK d__law_step := fun _ _ _ _ _ _ us hl => match us, hl with | [_, _], _ => rfl
theorem b__law_run : BndOK d__law_run := fun _ _ _ _ _ _ us hl => match us, hl with | [_, _, _], _ => rfl
theorem b__law_begun : BndOK d__law_begun := fun _ _ _ _ _ _ us hl => match us, hl with | [_, _, _, _], _ => rfl
theorem b__law_word : BndOK d__law_word := fun _ _ _ _ _ _ us hl => match us, hl with | [_], _ => rfl
theorem b__law_bytes : BndOK d__law_bytes := fun _ _ _ _ _ _ us hl => match us, hl with | [_, _], _ => rfl
theorem b__law_right : BndOK d__law_right := fun _ _ _ _ _ _ us hl => match us, hl with | [_], _ => rfl
theorem b_law : BndOK d_law := fun _ _ _ _ _ _ us hl => match us, hl with | [_], _ => rfl
theorem bnd : ∀ d ∈ pg.ds, BndOK d := by
  intro d hd
  simp only [pg, List.mem_cons, List.not_mem_nil, or_false] at hd
  rcases hd with rfl | rfl | rfl | rfl | rfl | rfl | rfl | rfl | rfl | rfl | rfl | rfl | rfl | rfl | rfl | rfl | rfl | rfl | rfl | rfl | rfl | rfl | rfl | rfl | rfl | rfl | rfl | rfl | rfl | rfl | rfl | rfl | rfl | rfl | rfl | rfl | rfl | rfl | rfl | rfl | rfl | rfl | rfl | rfl | rfl | rfl | rfl | rfl | rfl | rfl | rfl | rfl | rfl | rfl | rfl | rfl | rfl | rfl | rfl | rfl | rfl | rfl | rfl | rfl | rfl | rfl | rfl | rfl | rfl | rfl | rfl | rfl | rfl | rfl | rfl | rfl | rfl | rfl | rfl | rfl | rfl | rfl | rfl
  · exact b_is_whole
  · exact b_is_between
  · exact b_is_from_nought
  · exact b_is_word
  · exact b_is_flag
  · exact b_is_one_of
  · exact b_is_tuple
  · exact b_are_all
  · exact b_first_bad
  · exact b_combined
  · exact b_related
  · exact b_ones_in
  · exact b_mixed
  · exact b_exchanged
  · exact b_pair_index
  · exact b_table_fault
  · exact b_packet_fault
  · exact b_next_fault
  · exact b_set_word
  · exact b_moved_word
  · exact b_length_word
  · exact b_taken_word
  · exact b_combined_word
  · exact b_combined_number
  · exact b_byte_word
  · exact b_pair_word
  · exact b_cell_word
  · exact b_found_word
  · exact b_value_word
  · exact b_asked_word
  · exact b_with_content
  · exact b_kept
  · exact b_written
  · exact b_filled
  · exact b_counted
  · exact b_changed
  · exact b_begun_again
  · exact b_leads_to
  · exact b_gone_on
  · exact b_done
  · exact b_stepped
  · exact b_is_byte
  · exact b_is_packet
  · exact b_is_pair
  · exact b_are_pairs
  · exact b_is_headed
  · exact b_is_table
  · exact b_are_tables
  · exact b_has_fields
  · exact b_is_field
  · exact b_is_row_form
  · exact b_is_row
  · exact b_is_count
  · exact b_is_end
  · exact b_run_parts
  · exact b_need_sieve
  · exact b_need_run
  · exact b_need_steps
  · exact b_run_far
  · exact b_one_step
  · exact b_run_on
  · exact b_fault_of
  · exact b__law_jar
  · exact b__law_dip
  · exact b__law_one_of
  · exact b__law_same
  · exact b__law_put
  · exact b__law_reckon
  · exact b__law_holds
  · exact b__law_table
  · exact b__law_fault
  · exact b__law_set
  · exact b__law_asked
  · exact b__law_plain
  · exact b__law_reach
  · exact b__law_way
  · exact b__law_step
  · exact b__law_run
  · exact b__law_begun
  · exact b__law_word
  · exact b__law_bytes
  · exact b__law_right
  · exact b_law
theorem kwd : ∀ d ∈ pg.ds, ∀ ks ix, (d.name, ks, ix) ∈ pg.kws → KwdOK d ks ix := by
  intro d hd ks ix hk
  simp only [pg, List.mem_cons, List.not_mem_nil, or_false] at hk
theorem glo : ∀ g d, lookD g cs = some d → g ∈ pg.glbs := by
  intro g d h
  have z := lookD_mem h
  have h2 : g ∈ cs.map (·.1) := List.mem_map_of_mem (f := fun q : Str × D => q.1) z
  exact h2
theorem tx : TxOK pg cs := ⟨scs, bnd, kwd, glo⟩
end K06

namespace K06
open PySem PySem.W PySem.Calls PyProof.Rows
set_option maxHeartbeats 0 in
theorem early (hc : WalkO (view R.prog [102]) loose (XL (view R.prog [102]) []) hk.says R.toRowW (HandSHeadRun.topDef R.prog 102) [] (fun f vs => PySem.call f vs)) : PySem.Challenge.rw_suresieves_k06_packets_ends_writes.Holds := by
  w_on; o_law
  refine HandSHeadRun.head_any (r := R) (q := view R.prog [102]) (H := hk) (ob := ob) (M := 6000) (loose := loose) (d := HandSHeadRun.topDef R.prog 102) (kwd := []) ob_eq
    (by kernel_rfl) (fun s => by kernel_rfl) run (by kernel_rfl) (by kernel_rfl) (by kernel_rfl) (by rfl) (by first | assumption | decide +kernel) (by decide +kernel) ⟨rfl, rfl, rfl, rfl, rfl, by decide +kernel⟩ ?hw ?hc
  case hw => w_witness2
  case hc => exact hc
end K06

/-! words that fit a mask: the least one from a word on (pure mathematics of numbers) -/
namespace Fit
/-- bits behind a raised bit k: those of b below, of s above -/
def cand (s b k : Nat) : Nat := 2 ^ k * (2 * (s / 2 ^ (k + 1)) + 1) + b % 2 ^ k
theorem bit_div (x i : Nat) : x.testBit i = decide (x / 2 ^ i % 2 = 1) := by
  rw [Nat.testBit_eq_decide_div_mod_eq]
theorem cand_bit (s b k i : Nat) : (cand s b k).testBit i = if i < k then b.testBit i else if i = k then true else s.testBit i := by
  unfold cand
  rw [Nat.testBit_two_pow_mul_add _ (Nat.mod_lt _ (Nat.two_pow_pos k))]
  split
  · rename_i h
    rw [Nat.testBit_mod_two_pow]
    simp [h]
  · rename_i h
    split
    · rename_i h2
      subst h2
      rw [Nat.sub_self, Nat.testBit_zero]
      simp
    · rename_i h2
      obtain ⟨j, rfl⟩ : ∃ j, i = k + 1 + j := ⟨i - (k + 1), by omega⟩
      have e : k + 1 + j - k = j + 1 := by omega
      rw [e, Nat.testBit_succ]
      have e2 : (2 * (s / 2 ^ (k + 1)) + 1) / 2 = s / 2 ^ (k + 1) := by omega
      rw [e2, Nat.testBit_div_two_pow]
      rw [Nat.add_comm]
theorem cand_div (s b k : Nat) : cand s b k / 2 ^ k = 2 * (s / 2 ^ (k + 1)) + 1 := by
  unfold cand
  rw [Nat.mul_add_div (Nat.two_pow_pos k), Nat.div_eq_of_lt (Nat.mod_lt _ (Nat.two_pow_pos k)), Nat.add_zero]
theorem div_succ (s k : Nat) : s / 2 ^ (k + 1) = s / 2 ^ k / 2 := by
  rw [Nat.div_div_eq_div_mul, Nat.pow_succ]
theorem lt_of_div {a b n : Nat} (h : a / 2 ^ n < b / 2 ^ n) : a < b := by
  apply Nat.lt_of_not_le
  intro h2
  exact absurd (Nat.div_le_div_right (c := 2 ^ n) h2) (by omega)
/-- raised above s where s has a 0 -/
theorem cand_gt {s b k : Nat} (h : s.testBit k = false) : s < cand s b k := by
  apply lt_of_div (n := k)
  rw [cand_div, div_succ]
  rw [bit_div] at h
  have : s / 2 ^ k % 2 ≠ 1 := of_decide_eq_false h
  omega
theorem cand_lt {s b k : Nat} (hs : s < 65536) (hb : b < 65536) (hk : k < 16) : cand s b k < 65536 := by
  have e : cand s b k < 2 ^ 16 := by
    apply Nat.lt_pow_two_of_testBit
    intro i hi
    rw [cand_bit, if_neg (by omega), if_neg (by omega)]
    have h2 : 2 ^ 16 ≤ 2 ^ i := Nat.pow_le_pow_right (show 2 > 0 by decide) hi
    exact Nat.testBit_lt_two_pow (Nat.lt_of_lt_of_le hs h2)
  exact e
/-- lower places give lesser words -/
theorem cand_mono {s b c k l : Nat} (h : k < l) (hl : s.testBit l = false) : cand s b k < cand s c l := by
  apply lt_of_div (n := l)
  rw [cand_div]
  have e : cand s b k / 2 ^ l = s / 2 ^ l := by
    obtain ⟨j, rfl⟩ : ∃ j, l = k + 1 + j := ⟨l - (k + 1), by omega⟩
    have e1 : cand s b k / 2 ^ (k + 1) = s / 2 ^ (k + 1) := by
      rw [div_succ, cand_div]
      omega
    rw [Nat.pow_add, ← Nat.div_div_eq_div_mul, ← Nat.div_div_eq_div_mul, e1]
  rw [e]
  rw [bit_div] at hl
  have : s / 2 ^ l % 2 ≠ 1 := of_decide_eq_false hl
  have := div_succ s l
  omega
/-- the highest place where two words part -/
theorem part : ∀ (n : Nat) {s x : Nat}, s / 2 ^ n = x / 2 ^ n → s < x → ∃ k, k < n ∧ s / 2 ^ (k + 1) = x / 2 ^ (k + 1) ∧ s / 2 ^ k < x / 2 ^ k
  | 0, s, x, h, h2 => by simp at h; omega
  | n + 1, s, x, h, h2 => by
    by_cases e : s / 2 ^ n = x / 2 ^ n
    · obtain ⟨k, h3, h4⟩ := part n e h2
      exact ⟨k, by omega, h4⟩
    · have := Nat.div_le_div_right (c := 2 ^ n) (Nat.le_of_lt h2)
      exact ⟨n, by omega, h, by omega⟩
theorem bit_of_div {s x k i : Nat} (h : s / 2 ^ k = x / 2 ^ k) (hi : k ≤ i) : s.testBit i = x.testBit i := by
  obtain ⟨j, rfl⟩ : ∃ j, i = k + j := ⟨i - k, by omega⟩
  have e1 : (s / 2 ^ k).testBit j = s.testBit (k + j) := by rw [Nat.testBit_div_two_pow, Nat.add_comm]
  have e2 : (x / 2 ^ k).testBit j = x.testBit (k + j) := by rw [Nat.testBit_div_two_pow, Nat.add_comm]
  rw [← e1, ← e2, h]
/-- x fits m, b -/
abbrev Fits (m b x : Nat) : Prop := x &&& m = b
theorem fits_bit {m b x : Nat} (h : Fits m b x) (i : Nat) : (x.testBit i && m.testBit i) = b.testBit i := by
  rw [← Nat.testBit_and, h]
theorem sub_of_fits {m b x : Nat} (h : Fits m b x) : b &&& m = b := by
  rw [← h, Nat.and_assoc, Nat.and_self]
theorem le_of_bits {r x : Nat} (h : ∀ i, r.testBit i = true → x.testBit i = true) : r ≤ x := by
  have e : r &&& x = r := by
    apply Nat.eq_of_testBit_eq
    intro i
    rw [Nat.testBit_and]
    cases q : r.testBit i with
    | false => rfl
    | true => rw [h i q]; rfl
  rw [← e]
  exact Nat.and_le_right
/-- the word that is looked for at a place fits -/
def Q (s m b k : Nat) : Prop := s.testBit k = false ∧ Fits m b (cand s b k)
instance (s m b k : Nat) : Decidable (Q s m b k) := by unfold Q; infer_instance
/-- a greater word that fits has a place -/
theorem Q_of {s m b x : Nat} (hx : x < 65536) (hsx : s < x) (h : Fits m b x) : ∃ k, k < 16 ∧ Q s m b k ∧ cand s b k ≤ x := by
  obtain ⟨k, hk, h1, h2⟩ := part 16 (s := s) (x := x) (by rw [Nat.div_eq_of_lt (by omega), Nat.div_eq_of_lt (by omega)]) hsx
  have hb := fits_bit h
  have d1 := div_succ s k
  have d2 := div_succ x k
  have s0 : s.testBit k = false := by
    rw [bit_div]
    exact decide_eq_false (by omega)
  have x1 : x.testBit k = true := by
    rw [bit_div]
    exact decide_eq_true (by omega)
  have cx : ∀ i, k ≤ i → (cand s b k).testBit i = x.testBit i := by
    intro i hi
    rw [cand_bit, if_neg (by omega)]
    split
    · rename_i e
      rw [e, x1]
    · exact bit_of_div h1 (by omega)
  refine ⟨k, hk, ⟨s0, ?_⟩, ?_⟩
  · apply Nat.eq_of_testBit_eq
    intro i
    rw [Nat.testBit_and]
    by_cases hi : k ≤ i
    · rw [cx i hi, hb]
    · rw [cand_bit, if_pos (by omega), ← hb i]
      cases x.testBit i <;> cases m.testBit i <;> rfl
  · apply le_of_bits
    intro i q
    by_cases hi : k ≤ i
    · rw [cx i hi] at q
      exact q
    · rw [cand_bit, if_pos (by omega), ← hb i] at q
      simp only [Bool.and_eq_true] at q
      exact q.1
/-- the first place -/
def firstQ (s m b : Nat) : Nat → Nat → Option Nat
  | 0, _ => none
  | n + 1, k => if Q s m b k then some (cand s b k) else firstQ s m b n (k + 1)
def least (s m b : Nat) : Option Nat := if Fits m b s then some s else firstQ s m b 16 0
theorem firstQ_some {s m b : Nat} : ∀ {n k r : Nat}, firstQ s m b n k = some r → ∃ j, k ≤ j ∧ j < k + n ∧ Q s m b j ∧ r = cand s b j ∧ ∀ i, k ≤ i → i < j → ¬ Q s m b i
  | 0, k, r, h => by cases h
  | n + 1, k, r, h => by
    unfold firstQ at h
    split at h
    · rename_i q
      cases h
      exact ⟨k, by omega, by omega, q, rfl, fun i h1 h2 => by omega⟩
    · rename_i q
      obtain ⟨j, h1, h2, h3, h4, h5⟩ := firstQ_some h
      refine ⟨j, by omega, by omega, h3, h4, fun i h6 h7 => ?_⟩
      by_cases e : i = k
      · rw [e]
        exact q
      · exact h5 i (by omega) h7
theorem firstQ_none {s m b : Nat} : ∀ {n k : Nat}, firstQ s m b n k = none → ∀ i, k ≤ i → i < k + n → ¬ Q s m b i
  | 0, k, h, i, h1, h2 => by omega
  | n + 1, k, h, i, h1, h2 => by
    unfold firstQ at h
    split at h
    · cases h
    · rename_i q
      by_cases e : i = k
      · rw [e]
        exact q
      · exact firstQ_none h i (by omega) (by omega)
theorem least_some {s m b r : Nat} (hs : s < 65536) (hb : b < 65536) (h : least s m b = some r) : s ≤ r ∧ r < 65536 ∧ Fits m b r ∧ ∀ x, s ≤ x → x < 65536 → Fits m b x → r ≤ x := by
  unfold least at h
  split at h
  · rename_i q
    cases h
    exact ⟨Nat.le_refl _, hs, q, fun x h1 _ _ => h1⟩
  · rename_i q
    obtain ⟨j, _, h2, h3, rfl, h5⟩ := firstQ_some h
    refine ⟨Nat.le_of_lt (cand_gt h3.1), cand_lt hs hb (by omega), h3.2, fun x h6 h7 h8 => ?_⟩
    have hne : s ≠ x := fun e => q (e ▸ h8)
    obtain ⟨k, k1, k2, k3⟩ := Q_of (s := s) h7 (by omega) h8
    by_cases e : k = j
    · rw [← e]
      exact k3
    · have hjk : j < k := by
        apply Nat.lt_of_not_le
        intro hle
        exact h5 k (by omega) (by omega) k2
      have := cand_mono (b := b) (c := b) hjk k2.1
      omega
theorem least_none {s m b : Nat} (h : least s m b = none) (x : Nat) (h1 : s ≤ x) (h2 : x < 65536) : ¬ Fits m b x := by
  unfold least at h
  split at h
  · cases h
  · rename_i q
    intro hf
    have hne : s ≠ x := fun e => q (e ▸ hf)
    obtain ⟨k, k1, k2, _⟩ := Q_of (s := s) h2 (by omega) hf
    exact firstQ_none h k (by omega) (by omega) k2
/-- a word by what it is -/
theorem least_eq {s m b r : Nat} (hs : s < 65536) (hb : b < 65536) (h1 : s ≤ r) (h2 : r < 65536) (h3 : Fits m b r) (h4 : ∀ x, s ≤ x → x < 65536 → Fits m b x → r ≤ x) : least s m b = some r := by
  cases e : least s m b with
  | none => exact absurd h3 (least_none e r h1 h2)
  | some r2 =>
    obtain ⟨g1, g2, g3, g4⟩ := least_some hs hb e
    have := g4 r h1 h2 h3
    have := h4 r2 g1 g2 g3
    rw [show r2 = r by omega]
/-! ### the program's own test and word -/
theorem Q_iff {s m b k : Nat} (hm : b &&& m = b) : Q s m b k ↔ s.testBit k = false ∧ ((s / 2 ^ (k + 1) * 2 ^ (k + 1)) ||| 2 ^ k) &&& (m / 2 ^ k * 2 ^ k) = b &&& (m / 2 ^ k * 2 ^ k) := by
  have rb : ∀ i, ((s / 2 ^ (k + 1) * 2 ^ (k + 1)) ||| 2 ^ k).testBit i = if i < k then false else if i = k then true else s.testBit i := by
    intro i
    rw [Nat.testBit_or, Nat.testBit_two_pow, Nat.mul_comm, Nat.testBit_two_pow_mul, Nat.testBit_div_two_pow]
    by_cases h1 : i < k
    · rw [if_pos h1]
      have e1 : decide (i ≥ k + 1) = false := decide_eq_false (by omega)
      have e2 : decide (k = i) = false := decide_eq_false (by omega)
      rw [e1, e2]
      rfl
    · rw [if_neg h1]
      by_cases h2 : i = k
      · subst h2
        simp
      · have e1 : decide (i ≥ k + 1) = true := decide_eq_true (by omega)
        have e2 : decide (k = i) = false := decide_eq_false (by omega)
        have e3 : i - (k + 1) + (k + 1) = i := by omega
        rw [e1, e2, if_neg h2, e3]
        simp
  have fb : ∀ i, (m / 2 ^ k * 2 ^ k).testBit i = (decide (k ≤ i) && m.testBit i) := by
    intro i
    rw [Nat.mul_comm, Nat.testBit_two_pow_mul, Nat.testBit_div_two_pow]
    by_cases h1 : k ≤ i
    · have e3 : i - k + k = i := by omega
      rw [e3]
    · have e1 : decide (i ≥ k) = false := decide_eq_false (by omega)
      have e2 : decide (k ≤ i) = false := decide_eq_false (by omega)
      rw [e1]
      rfl
  have mb : ∀ i, (b.testBit i && m.testBit i) = b.testBit i := fun i => by rw [← Nat.testBit_and, hm]
  unfold Q
  constructor
  · rintro ⟨h1, h2⟩
    refine ⟨h1, Nat.eq_of_testBit_eq fun i => ?_⟩
    have h3 := fits_bit h2 i
    rw [cand_bit] at h3
    rw [Nat.testBit_and, Nat.testBit_and, rb, fb]
    by_cases h4 : i < k
    · have e2 : decide (k ≤ i) = false := decide_eq_false (by omega)
      rw [e2]
      simp
    · have e2 : decide (k ≤ i) = true := decide_eq_true (by omega)
      rw [if_neg h4] at h3
      rw [e2, if_neg h4, Bool.true_and, h3, mb]
  · rintro ⟨h1, h2⟩
    refine ⟨h1, Nat.eq_of_testBit_eq fun i => ?_⟩
    rw [Nat.testBit_and, cand_bit]
    by_cases h4 : i < k
    · rw [if_pos h4, mb]
    · have e2 : decide (k ≤ i) = true := decide_eq_true (by omega)
      have h3 : (((s / 2 ^ (k + 1) * 2 ^ (k + 1)) ||| 2 ^ k) &&& (m / 2 ^ k * 2 ^ k)).testBit i = (b &&& (m / 2 ^ k * 2 ^ k)).testBit i := by rw [h2]
      rw [Nat.testBit_and, Nat.testBit_and, rb, fb, e2, if_neg h4, Bool.true_and, mb] at h3
      rw [if_neg h4]
      exact h3
theorem cand_or {s m b k : Nat} (hm : b &&& m = b) (h : Q s m b k) : (s / 2 ^ (k + 1) * 2 ^ (k + 1)) ||| 2 ^ k ||| b = cand s b k := by
  have mb : ∀ i, (b.testBit i && m.testBit i) = b.testBit i := fun i => by rw [← Nat.testBit_and, hm]
  apply Nat.eq_of_testBit_eq
  intro i
  rw [Nat.testBit_or, Nat.testBit_or, Nat.testBit_two_pow, Nat.mul_comm, Nat.testBit_two_pow_mul, Nat.testBit_div_two_pow, cand_bit]
  have h3 := fits_bit h.2 i
  rw [cand_bit] at h3
  by_cases h1 : i < k
  · have e1 : decide (i ≥ k + 1) = false := decide_eq_false (by omega)
    have e2 : decide (k = i) = false := decide_eq_false (by omega)
    rw [e1, e2, if_pos h1]
    simp
  · rw [if_neg h1] at h3
    rw [if_neg h1]
    by_cases h2 : i = k
    · subst h2
      simp
    · have e1 : decide (i ≥ k + 1) = true := decide_eq_true (by omega)
      have e2 : decide (k = i) = false := decide_eq_false (by omega)
      have e3 : i - (k + 1) + (k + 1) = i := by omega
      rw [if_neg h2] at h3
      rw [e1, e2, if_neg h2, e3]
      have := mb i
      revert h3 this
      cases s.testBit i <;> cases b.testBit i <;> cases m.testBit i <;> simp
/-! ### the mirror: the greatest one up to a word -/
theorem comp_bit {x i : Nat} (h : x < 65536) (hi : i < 16) : (65535 - x).testBit i = !x.testBit i := by
  have e : 65535 - x = 2 ^ 16 - (x + 1) := by omega
  rw [e, Nat.testBit_two_pow_sub_succ (by omega)]
  simp [hi]
/-- the bits that a mirrored word has at the mask -/
def mir (m b : Nat) : Nat := m &&& (65535 - b)
theorem mir_bit {m b i : Nat} (hm : m < 65536) (hb : b < 65536) : (mir m b).testBit i = (m.testBit i && !b.testBit i) := by
  unfold mir
  rw [Nat.testBit_and]
  by_cases hi : i < 16
  · rw [comp_bit hb hi]
  · have h2 : 2 ^ 16 ≤ 2 ^ i := Nat.pow_le_pow_right (show 2 > 0 by decide) (by omega)
    have e : m.testBit i = false := Nat.testBit_lt_two_pow (Nat.lt_of_lt_of_le hm h2)
    rw [e]
    rfl
theorem mir_lt {m b : Nat} (hm : m < 65536) : mir m b < 65536 := Nat.lt_of_le_of_lt Nat.and_le_left hm
theorem fits_mir {m b x : Nat} (hm : m < 65536) (hb : b < 65536) (hx : x < 65536) (hs : b &&& m = b) : Fits m (mir m b) (65535 - x) ↔ Fits m b x := by
  have mb : ∀ i, (b.testBit i && m.testBit i) = b.testBit i := fun i => by rw [← Nat.testBit_and, hs]
  constructor
  · intro h
    apply Nat.eq_of_testBit_eq
    intro i
    have h1 := fits_bit h i
    rw [mir_bit hm hb] at h1
    rw [Nat.testBit_and]
    by_cases hi : i < 16
    · rw [comp_bit hx hi] at h1
      have := mb i
      revert h1 this
      cases x.testBit i <;> cases b.testBit i <;> cases m.testBit i <;> simp
    · have h2 : 2 ^ 16 ≤ 2 ^ i := Nat.pow_le_pow_right (show 2 > 0 by decide) (by omega)
      rw [Nat.testBit_lt_two_pow (Nat.lt_of_lt_of_le hx h2), Nat.testBit_lt_two_pow (Nat.lt_of_lt_of_le hb h2)]
      rfl
  · intro h
    apply Nat.eq_of_testBit_eq
    intro i
    have h1 := fits_bit h i
    rw [mir_bit hm hb, Nat.testBit_and]
    by_cases hi : i < 16
    · rw [comp_bit hx hi]
      have := mb i
      revert h1 this
      cases x.testBit i <;> cases b.testBit i <;> cases m.testBit i <;> simp
    · have h2 : 2 ^ 16 ≤ 2 ^ i := Nat.pow_le_pow_right (show 2 > 0 by decide) (by omega)
      rw [Nat.testBit_lt_two_pow (Nat.lt_of_lt_of_le hm h2), Bool.and_false]
      rfl
def greatest (h m b : Nat) : Option Nat := (least (65535 - h) m (mir m b)).map fun r => 65535 - r
theorem greatest_some {h m b r : Nat} (hh : h < 65536) (hm : m < 65536) (hb : b < 65536) (hs : b &&& m = b) (e : greatest h m b = some r) : r ≤ h ∧ Fits m b r ∧ ∀ x, x ≤ h → Fits m b x → x ≤ r := by
  unfold greatest at e
  obtain ⟨q, e1, rfl⟩ := Option.map_eq_some_iff.mp e
  obtain ⟨g1, g2, g3, g4⟩ := least_some (by omega) (mir_lt hm) e1
  have e2 : 65535 - (65535 - q) = q := by omega
  refine ⟨by omega, ?_, fun x hx hf => ?_⟩
  · rw [← fits_mir hm hb (by omega) hs, e2]
    exact g3
  · have := g4 (65535 - x) (by omega) (by omega) ((fits_mir hm hb (by omega) hs).mpr hf)
    omega
theorem greatest_eq {h m b r : Nat} (hh : h < 65536) (hm : m < 65536) (hb : b < 65536) (hs : b &&& m = b) (h1 : r ≤ h) (h2 : Fits m b r) (h3 : ∀ x, x ≤ h → Fits m b x → x ≤ r) : greatest h m b = some r := by
  unfold greatest
  rw [least_eq (r := 65535 - r) (by omega) (mir_lt hm) (by omega) (by omega) ((fits_mir hm hb (by omega) hs).mpr h2) fun x g1 g2 g3 => ?_]
  · have e2 : 65535 - (65535 - r) = r := by omega
    rw [Option.map_some, e2]
  · have e2 : 65535 - (65535 - x) = x := by omega
    have := h3 (65535 - x) (by omega) ((fits_mir hm hb (by omega) hs).mp (by rw [e2]; exact g3))
    omega
/-! ### all places, as a list -/
def fs (s m b : Nat) : Nat → Nat → List Nat
  | 0, _ => []
  | n + 1, k => if Q s m b k then cand s b k :: fs s m b n (k + 1) else fs s m b n (k + 1)
theorem fs_mem {s m b : Nat} : ∀ {n k y : Nat}, y ∈ fs s m b n k → ∃ j, k ≤ j ∧ Q s m b j ∧ y = cand s b j
  | 0, k, y, h => by cases h
  | n + 1, k, y, h => by
    unfold fs at h
    split at h
    · rename_i q
      rcases List.mem_cons.mp h with rfl | h
      · exact ⟨k, Nat.le_refl _, q, rfl⟩
      · obtain ⟨j, h1, h2⟩ := fs_mem h
        exact ⟨j, by omega, h2⟩
    · obtain ⟨j, h1, h2⟩ := fs_mem h
      exact ⟨j, by omega, h2⟩
theorem fs_first {s m b : Nat} : ∀ {n k : Nat}, (firstQ s m b n k = none ∧ fs s m b n k = []) ∨ ∃ r, firstQ s m b n k = some r ∧ r ∈ fs s m b n k ∧ ∀ y ∈ fs s m b n k, r ≤ y
  | 0, k => .inl ⟨rfl, rfl⟩
  | n + 1, k => by
    unfold firstQ fs
    by_cases q : Q s m b k
    · rw [if_pos q, if_pos q]
      refine .inr ⟨_, rfl, List.mem_cons_self, fun y hy => ?_⟩
      rcases List.mem_cons.mp hy with rfl | hy
      · exact Nat.le_refl _
      · obtain ⟨j, h1, h2, rfl⟩ := fs_mem hy
        exact Nat.le_of_lt (cand_mono (by omega) h2.1)
    · rw [if_neg q, if_neg q]
      exact fs_first
/-- the word that is looked for at a place, from above -/
def gw (h m b k : Nat) : Nat := 2 ^ (k + 1) * (h / 2 ^ (k + 1)) + (b ||| (65535 - m)) % 2 ^ k
theorem gw_bit (h m b k i : Nat) : (gw h m b k).testBit i = if i < k then (b ||| (65535 - m)).testBit i else if i = k then false else h.testBit i := by
  unfold gw
  rw [Nat.testBit_two_pow_mul_add _ (Nat.lt_of_lt_of_le (Nat.mod_lt _ (Nat.two_pow_pos k)) (Nat.pow_le_pow_right (show 2 > 0 by decide) (Nat.le_succ k)))]
  by_cases h1 : i < k
  · rw [if_pos (by omega), if_pos h1, Nat.testBit_mod_two_pow, decide_eq_true h1, Bool.true_and]
  · rw [if_neg h1]
    by_cases h2 : i = k
    · subst h2
      rw [if_pos (by omega), if_pos rfl, Nat.testBit_mod_two_pow, decide_eq_false (by omega), Bool.false_and]
    · rw [if_neg (by omega), if_neg h2, Nat.testBit_div_two_pow]
      have e : i - (k + 1) + (k + 1) = i := by omega
      rw [e]
theorem big_bit {x i : Nat} (h : x < 65536) (hi : 16 ≤ i) : x.testBit i = false := by
  have h2 : 2 ^ 16 ≤ 2 ^ i := Nat.pow_le_pow_right (show 2 > 0 by decide) hi
  exact Nat.testBit_lt_two_pow (Nat.lt_of_lt_of_le h h2)
theorem lt_of_bits {x : Nat} (h : ∀ i, 16 ≤ i → x.testBit i = false) : x < 65536 := by
  have e : x < 2 ^ 16 := Nat.lt_pow_two_of_testBit _ fun i hi => h i hi
  exact e
theorem gw_lt {h m b k : Nat} (hh : h < 65536) (hb : b < 65536) (hk : k < 16) : gw h m b k < 65536 := by
  apply lt_of_bits
  intro i hi
  rw [gw_bit, if_neg (by omega), if_neg (by omega), big_bit hh hi]
theorem gw_cand {h m b k : Nat} (hh : h < 65536) (hm : m < 65536) (hb : b < 65536) (hk : k < 16) : cand (65535 - h) (mir m b) k = 65535 - gw h m b k := by
  have g := gw_lt (m := m) hh hb hk
  apply Nat.eq_of_testBit_eq
  intro i
  by_cases hi : i < 16
  · rw [comp_bit g hi, gw_bit, cand_bit, mir_bit hm hb, Nat.testBit_or, comp_bit hm hi, comp_bit hh hi]
    by_cases h1 : i < k
    · rw [if_pos h1, if_pos h1]
      cases b.testBit i <;> cases m.testBit i <;> rfl
    · rw [if_neg h1, if_neg h1]
      by_cases h2 : i = k
      · rw [if_pos h2, if_pos h2]
        rfl
      · rw [if_neg h2, if_neg h2]
  · rw [big_bit (cand_lt (by omega) (mir_lt hm) hk) (by omega), big_bit (by omega) (by omega)]
theorem gw_Q {h m b k : Nat} (hh : h < 65536) (hm : m < 65536) (hb : b < 65536) (hk : k < 16) (hs : b &&& m = b) : Q (65535 - h) m (mir m b) k ↔ h.testBit k = true ∧ Fits m b (gw h m b k) := by
  unfold Q
  rw [gw_cand hh hm hb hk, fits_mir hm hb (gw_lt hh hb hk) hs, comp_bit hh hk]
  cases h.testBit k <;> simp
/-! ### high bits that two words share -/
theorem xor_div (a b n : Nat) : (a ^^^ b) / 2 ^ n = 0 ↔ a / 2 ^ n = b / 2 ^ n := by
  have e : (a ^^^ b) / 2 ^ n = a / 2 ^ n ^^^ b / 2 ^ n := by
    have := Nat.shiftRight_xor_distrib (a := a) (b := b) (i := n)
    simpa [Nat.shiftRight_eq_div_pow] using this
  rw [e]
  constructor
  · intro h
    apply Nat.eq_of_testBit_eq
    intro i
    have h1 : (a / 2 ^ n ^^^ b / 2 ^ n).testBit i = (0 : Nat).testBit i := by rw [h]
    rw [Nat.testBit_xor, Nat.zero_testBit] at h1
    revert h1
    cases (a / 2 ^ n).testBit i <;> cases (b / 2 ^ n).testBit i <;> simp
  · intro h
    rw [h, Nat.xor_self]
/-- the mask of the bits from n on -/
def top (n : Nat) : Nat := 65535 / 2 ^ n * 2 ^ n
theorem top_bit {n i : Nat} : (top n).testBit i = (decide (n ≤ i) && decide (i < 16)) := by
  unfold top
  rw [Nat.mul_comm, Nat.testBit_two_pow_mul, Nat.testBit_div_two_pow]
  by_cases h : n ≤ i
  · have e : i - n + n = i := by omega
    have e2 : (65535 : Nat) = 2 ^ 16 - 1 := by decide
    rw [e, e2, Nat.testBit_two_pow_sub_one]
  · have e : decide (i ≥ n) = false := decide_eq_false (by omega)
    rw [e]
    rfl
theorem top_lt (n : Nat) : top n < 65536 := by
  have := Nat.div_mul_le_self 65535 (2 ^ n)
  unfold top
  omega
theorem top_sub {n : Nat} (h : n ≤ 16) : top n = 65536 - 2 ^ n := by
  obtain ⟨k, rfl⟩ : ∃ k : Fin 17, k.val = n := ⟨⟨n, by omega⟩, rfl⟩
  have key : ∀ k : Fin 17, top k.val = 65536 - 2 ^ k.val := by decide +kernel
  exact key k
/-- a word between two that share bits shares them -/
theorem between {a b x n : Nat} (h : a / 2 ^ n = b / 2 ^ n) (h1 : a ≤ x) (h2 : x ≤ b) : x / 2 ^ n = a / 2 ^ n := by
  have := Nat.div_le_div_right (c := 2 ^ n) h1
  have := Nat.div_le_div_right (c := 2 ^ n) h2
  omega
theorem and_top {a x n : Nat} (h : x / 2 ^ n = a / 2 ^ n) : x &&& top n = a &&& top n := by
  apply Nat.eq_of_testBit_eq
  intro i
  rw [Nat.testBit_and, Nat.testBit_and, top_bit]
  by_cases hi : n ≤ i
  · rw [bit_of_div h hi]
  · rw [decide_eq_false hi]
    simp
/-- the told bits behind: the same words between -/
theorem more_fits {m b a x n : Nat} (hs : b &&& m = b) (hx : x / 2 ^ n = a / 2 ^ n) (ha : Fits m b a) : Fits (m ||| top n) (b ||| (a &&& top n)) x ↔ Fits m b x := by
  have ht := and_top hx
  have tb : ∀ i, (x.testBit i && (top n).testBit i) = (a.testBit i && (top n).testBit i) := fun i => by rw [← Nat.testBit_and, ht, Nat.testBit_and]
  have ab := fits_bit ha
  constructor
  · intro h
    apply Nat.eq_of_testBit_eq
    intro i
    have h1 := fits_bit h i
    have h2 := tb i
    have h3 := ab i
    rw [Nat.testBit_or, Nat.testBit_or, Nat.testBit_and] at h1
    rw [Nat.testBit_and]
    revert h1 h2 h3
    cases x.testBit i <;> cases m.testBit i <;> cases b.testBit i <;> cases a.testBit i <;> cases (top n).testBit i <;> simp
  · intro h
    have xb := fits_bit h
    apply Nat.eq_of_testBit_eq
    intro i
    have h1 := xb i
    have h2 := tb i
    rw [Nat.testBit_and, Nat.testBit_or, Nat.testBit_or, Nat.testBit_and]
    revert h1 h2
    cases x.testBit i <;> cases m.testBit i <;> cases b.testBit i <;> cases a.testBit i <;> cases (top n).testBit i <;> simp
/-! how many bits; made tight -/
def bl (x : Nat) : Nat := if x = 0 then 0 else x.log2 + 1
theorem bl_le {x n : Nat} : bl x ≤ n ↔ x / 2 ^ n = 0 := by
  rw [Nat.div_eq_zero_iff_lt (Nat.two_pow_pos n)]
  unfold bl
  split
  · rename_i h
    subst h
    exact ⟨fun _ => Nat.two_pow_pos n, fun _ => Nat.zero_le _⟩
  · rename_i h
    rw [← Nat.log2_lt h]
    omega
theorem bl_16 {x : Nat} (h : x < 65536) : bl x ≤ 16 := bl_le.mpr (Nat.div_eq_of_lt h)
def tightN (lo hi m b : Nat) : Option (Nat × Nat × Nat × Nat) := match least lo m b, greatest hi m b with
  | some l, some h => if h < l then none else some (l, h, m ||| top (bl (l ^^^ h)), b ||| (l &&& top (bl (l ^^^ h))))
  | _, _ => none
theorem or_add : ∀ (n a b : Nat), a < 2 ^ n → b < 2 ^ n → (a ||| b) + (a &&& b) = a + b
  | 0, a, b, h1, h2 => by
    have e1 : a = 0 := by simpa using h1
    have e2 : b = 0 := by simpa using h2
    subst e1 e2
    rfl
  | n + 1, a, b, h1, h2 => by
    have ih := or_add n (a / 2) (b / 2) (by rw [Nat.pow_succ] at h1; omega) (by rw [Nat.pow_succ] at h2; omega)
    have e1 := Nat.or_div_two (a := a) (b := b)
    have e2 := Nat.and_div_two (a := a) (b := b)
    have e3 := Nat.or_mod_two_eq_one (a := a) (b := b)
    have e4 := Nat.and_mod_two_eq_one (a := a) (b := b)
    rw [← e1, ← e2] at ih
    omega
theorem and_sub {m b : Nat} (hm : m < 65536) (hb : b < 65536) : mir m b + (m &&& b) = m := by
  have h1 : mir m b ||| (m &&& b) = m := by
    apply Nat.eq_of_testBit_eq
    intro i
    rw [Nat.testBit_or, mir_bit hm hb, Nat.testBit_and]
    cases m.testBit i <;> cases b.testBit i <;> rfl
  have h2 : mir m b &&& (m &&& b) = 0 := by
    apply Nat.eq_of_testBit_eq
    intro i
    rw [Nat.testBit_and, mir_bit hm hb, Nat.testBit_and, Nat.zero_testBit]
    cases m.testBit i <;> cases b.testBit i <;> rfl
  have h3 := or_add 16 (mir m b) (m &&& b) (mir_lt hm) (Nat.lt_of_le_of_lt Nat.and_le_left hm)
  omega
theorem fs_snoc {s m b : Nat} : ∀ {n k : Nat}, fs s m b (n + 1) k = fs s m b n k ++ (if Q s m b (k + n) then [cand s b (k + n)] else [])
  | 0, k => by
    unfold fs fs
    simp
  | n + 1, k => by
    have ih := fs_snoc (s := s) (m := m) (b := b) (n := n) (k := k + 1)
    have e : k + 1 + n = k + (n + 1) := by omega
    rw [e] at ih
    rw [fs]
    rw [show fs s m b (n + 1) k = if Q s m b k then cand s b k :: fs s m b n (k + 1) else fs s m b n (k + 1) from rfl, ih]
    by_cases q : Q s m b k
    · rw [if_pos q, if_pos q, List.cons_append]
    · rw [if_neg q, if_neg q]
theorem cand_sum (s b k : Nat) : s / 2 ^ (k + 1) * 2 ^ (k + 1) + 2 ^ k + (b &&& (2 ^ k - 1)) = cand s b k := by
  unfold cand
  rw [Nat.and_two_pow_sub_one_eq_mod, Nat.mul_add, Nat.mul_one, ← Nat.mul_assoc, ← Nat.pow_succ, Nat.mul_comm (2 ^ (k + 1))]
theorem gw_sum (h m b k : Nat) : h / 2 ^ (k + 1) * 2 ^ (k + 1) + ((b ||| (65535 - m)) &&& (2 ^ k - 1)) = gw h m b k := by
  unfold gw
  rw [Nat.and_two_pow_sub_one_eq_mod, Nat.mul_comm]
theorem fs_len {s m b : Nat} : ∀ {n k : Nat}, (fs s m b n k).length ≤ n
  | 0, k => Nat.le_refl _
  | n + 1, k => by
    unfold fs
    have ih := fs_len (s := s) (m := m) (b := b) (n := n) (k := k + 1)
    split
    · rw [List.length_cons]
      omega
    · omega
/-- the least of all that are found -/
theorem all_least {s m b l : Nat} (h : least s m b = some l) : l ∈ (if Fits m b s then [s] else []) ++ fs s m b 16 0 ∧ ∀ y ∈ (if Fits m b s then [s] else []) ++ fs s m b 16 0, l ≤ y := by
  unfold least at h
  by_cases q : Fits m b s
  · rw [if_pos q] at h ⊢
    cases h
    refine ⟨by simp, fun y hy => ?_⟩
    rcases List.mem_append.mp hy with hy | hy
    · have : y = s := by simpa using hy
      omega
    · obtain ⟨j, _, h2, rfl⟩ := fs_mem hy
      exact Nat.le_of_lt (cand_gt h2.1)
  · rw [if_neg q] at h ⊢
    rcases fs_first (s := s) (m := m) (b := b) (n := 16) (k := 0) with ⟨h1, _⟩ | ⟨r, h1, h2, h3⟩
    · rw [h1] at h
      cases h
    · rw [h1] at h
      cases h
      rw [List.nil_append]
      exact ⟨h2, h3⟩
end Fit

/-! a small evaluator over trees: data, how they lie in the abstract heap -/
namespace Ev
open PySem PySem.Spec PyProof.Rows L2

/-- what may change -/
inductive MO where
  | lst (l : List D)
  | dct (l : List (Key × D))
  deriving Inhabited
abbrev Sto := List MO
abbrev EnvD := List (Option D)

/-- what is fixed: the written part, where the defs stand -/
structure Fx where
  K : PySem.W.Frag
  fa : Str → Addr
  /-- lists that are being made -/
  lk : List Addr
  /-- tables of code objects -/
  tb : List Addr
  w : World

/-- a written dict's values, by key -/
def WDv (K : PySem.W.Frag) (a : Addr) (ks : List Str) (us : List V) : Prop := ks.length = us.length ∧ (∀ (i : Nat) k u, ks[i]? = some k → us[i]? = some u → ∃ u', PySem.W.nsIn K a k = some (some u') ∧ RelV u u') ∧ ∀ z, z ∉ ks → PySem.W.nsIn K a z = some none
/-- a written list -/
def KL (K : PySem.W.Frag) (a : Addr) (xs : List V) : Prop :=
  ∃ (ob : Obj) (its : Array Value) (n : Nat), K.lookup a = some ob ∧ ob.cls = .type "list" ∧ ob.dict = none ∧ ob.data = .seq its n ∧ its.size ≤ sizeLine ∧ Vals xs its.toList

mutual
inductive Rep (F : Fx) (io : List Addr) (H : Hp) : D → V → Prop
  | non : Rep F io H .non .non
  | bl (b : Bool) : Rep F io H (.bl b) (.bl b)
  | int (i : Int) : Rep F io H (.int i) (.int i)
  | str (x : Str) : Rep F io H (.str x) (.str x)
  | ty (n : String) : Rep F io H (.ty n) (.ty n)
  | fn (g : Str) : Rep F io H (.fn g) (.ref (F.fa g))
  | tup {a : Addr} {xs : List V} {ds : List D} : SqT F.K H a xs → Reps F io H ds xs → Rep F io H (.tup ds) (.ref a)
  | lst {a : Addr} {xs : List V} {ds : List D} : a ∉ io → a ∉ F.lk → H a = some (.lst xs) → Reps F io H ds xs → Rep F io H (.lst ds) (.ref a)
  | rlsF {a : Addr} {ob : Obj} {xs : List V} {ds : List D} : H a = some (.frz ob (.lst xs)) → Reps F io H ds xs → Rep F io H (.rls ds) (.ref a)
  | rlsK {a : Addr} {xs : List V} {ds : List D} : KL F.K a xs → Reps F io H ds xs → Rep F io H (.rls ds) (.ref a)
  | ref {n : Nat} {a : Addr} : io[n]? = some a → Rep F io H (.ref n) (.ref a)
  | wd {a : Addr} {es : Array DictEntry} {n : Nat} {ks : List Str} {us : List V} {ds : List D} : KDict F.K F.w a es n → WDv F.K a ks us → Reps F io H ds us → Rep F io H (.wd ks ds) (.ref a)
inductive Reps (F : Fx) (io : List Addr) (H : Hp) : List D → List V → Prop
  | nil : Reps F io H [] []
  | cons {d : D} {v : V} {ds : List D} {vs : List V} : Rep F io H d v → Reps F io H ds vs → Reps F io H (d :: ds) (v :: vs)
end

/-- what evaluation leaves of the abstract heap -/
structure Grow (F : Fx) (io : List Addr) (H : Hp) (io' : List Addr) (H' : Hp) : Prop where
  more : ∃ js, io' = io ++ js ∧ ∀ j ∈ js, H j = none
  keep : ∀ a o, H a = some o → a ∉ io → (∀ ps, o ≠ .tbl ps) → H' a = some o
  tups : ∀ a xs, H a = some (.tup xs) → H' a = some (.tup xs)
  frzs : ∀ a o u, H a = some (.frz o u) → H' a = some (.frz o u)
  lsts : ∀ a, H' a = none → H a = none
  tabs : ∀ a, GxR.TabG H a → GxR.TabG H' a

theorem Grow.refl {F : Fx} (io : List Addr) (H : Hp) : Grow F io H io H := ⟨⟨[], by simp, fun _ h => by simp at h⟩, fun _ _ h _ _ => h, fun _ _ h => h, fun _ _ _ h => h, fun _ h => h, fun _ h => h⟩
theorem Grow.trans {F : Fx} {io io1 io2 : List Addr} {H H1 H2 : Hp} (g : Grow F io H io1 H1) (k : Grow F io1 H1 io2 H2) : Grow F io H io2 H2 := by
  obtain ⟨js, e1, n1⟩ := g.more
  obtain ⟨ks, e2, n2⟩ := k.more
  refine ⟨⟨js ++ ks, by rw [e2, e1, List.append_assoc], fun j hj => ?_⟩, fun a o h na nt => ?_, fun a xs h => k.tups _ _ (g.tups _ _ h), fun a o u h => k.frzs _ _ _ (g.frzs _ _ _ h), fun a h => g.lsts _ (k.lsts _ h), fun a h => k.tabs _ (g.tabs _ h)⟩
  · rcases List.mem_append.mp hj with h | h
    · exact n1 j h
    · exact g.lsts j (n2 j h)
  · refine k.keep a o (g.keep a o h na nt) (fun hm => ?_) nt
    rw [e1] at hm
    rcases List.mem_append.mp hm with q | q
    · exact na q
    · have := n1 a q
      rw [h] at this
      cases this
theorem Grow.io_get {F : Fx} {io io' : List Addr} {H H' : Hp} (g : Grow F io H io' H') {n : Nat} {a : Addr} (h : io[n]? = some a) : io'[n]? = some a := by
  obtain ⟨js, e, _⟩ := g.more
  obtain ⟨hl, _⟩ := List.getElem?_eq_some_iff.mp h
  rw [e, List.getElem?_append_left hl]
  exact h
theorem Grow.nin {F : Fx} {io io' : List Addr} {H H' : Hp} (g : Grow F io H io' H') {a : Addr} {o : HO} (h : H a = some o) (na : a ∉ io) : a ∉ io' := fun hm => by
  obtain ⟨js, e, n⟩ := g.more
  rw [e] at hm
  rcases List.mem_append.mp hm with q | q
  · exact na q
  · have := n a q
    rw [h] at this
    cases this
theorem Grow.sqT {F : Fx} {io io' : List Addr} {H H' : Hp} (g : Grow F io H io' H') {a : Addr} {xs : List V} (h : SqT F.K H a xs) : SqT F.K H' a xs := by
  rcases h with (h | ⟨o, h⟩) | h
  · exact .inl (.inl (g.tups _ _ h))
  · exact .inl (.inr ⟨o, g.frzs _ _ _ h⟩)
  · exact .inr h

/-- what a value leans on -/
structure Kp (F F' : Fx) (io : List Addr) (H : Hp) (io' : List Addr) (H' : Hp) : Prop where
  hK : F'.K = F.K
  hf : F'.fa = F.fa
  hw : F'.w = F.w
  get : ∀ (n : Nat) a, io[n]? = some a → io'[n]? = some a
  lst : ∀ a xs, H a = some (.lst xs) → a ∉ io → a ∉ F.lk → a ∉ io' ∧ a ∉ F'.lk ∧ H' a = some (.lst xs)
  tups : ∀ a xs, H a = some (.tup xs) → H' a = some (.tup xs)
  frzs : ∀ a o u, H a = some (.frz o u) → H' a = some (.frz o u)
theorem Grow.kp {F : Fx} {io io' : List Addr} {H H' : Hp} (g : Grow F io H io' H') : Kp F F io H io' H' :=
  ⟨rfl, rfl, rfl, fun n a h => g.io_get h, fun a xs h n m => ⟨g.nin h n, m, g.keep _ _ h n (fun _ z => nomatch z)⟩, g.tups, g.frzs⟩
theorem Kp.sqT {F F' : Fx} {io io' : List Addr} {H H' : Hp} (g : Kp F F' io H io' H') {a : Addr} {xs : List V} (h : SqT F.K H a xs) : SqT F'.K H' a xs := by
  rw [g.hK]
  rcases h with (h | ⟨o, h⟩) | h
  · exact .inl (.inl (g.tups _ _ h))
  · exact .inl (.inr ⟨o, g.frzs _ _ _ h⟩)
  · exact .inr h
mutual
theorem Rep.kp {F F' : Fx} {io io' : List Addr} {H H' : Hp} (g : Kp F F' io H io' H') : ∀ (d : D) (v : V), Rep F io H d v → Rep F' io' H' d v
  | .non, _, h => by cases h; exact .non
  | .bl _, _, h => by cases h; exact .bl _
  | .int _, _, h => by cases h; exact .int _
  | .str _, _, h => by cases h; exact .str _
  | .ty _, _, h => by cases h; exact .ty _
  | .fn _, _, h => by cases h; rw [← g.hf]; exact .fn _
  | .ref _, _, h => by
    cases h with
    | ref e => exact .ref (g.get _ _ e)
  | .tup ds, _, h => by
    cases h with
    | tup s r => exact .tup (g.sqT s) (Reps.kp g ds _ r)
  | .lst ds, _, h => by
    cases h with
    | lst n m s r =>
      obtain ⟨h1, h2, h3⟩ := g.lst _ _ s n m
      exact .lst h1 h2 h3 (Reps.kp g ds _ r)
  | .rls ds, _, h => by
    cases h with
    | rlsF s r => exact .rlsF (g.frzs _ _ _ s) (Reps.kp g ds _ r)
    | rlsK s r => exact .rlsK (by rw [g.hK]; exact s) (Reps.kp g ds _ r)
  | .wd ks ds, _, h => by
    cases h with
    | wd k z r => exact .wd (by rw [g.hK, g.hw]; exact k) (by rw [g.hK]; exact z) (Reps.kp g ds _ r)
theorem Reps.kp {F F' : Fx} {io io' : List Addr} {H H' : Hp} (g : Kp F F' io H io' H') : ∀ (ds : List D) (vs : List V), Reps F io H ds vs → Reps F' io' H' ds vs
  | [], _, h => by cases h; exact .nil
  | d :: ds, _, h => by
    cases h with
    | cons a b => exact .cons (Rep.kp g d _ a) (Reps.kp g ds _ b)
end
theorem Rep.grow {F : Fx} {io io' : List Addr} {H H' : Hp} (g : Grow F io H io' H') (d : D) (v : V) (h : Rep F io H d v) : Rep F io' H' d v := Rep.kp g.kp d v h
theorem Reps.grow {F : Fx} {io io' : List Addr} {H H' : Hp} (g : Grow F io H io' H') (ds : List D) (vs : List V) (h : Reps F io H ds vs) : Reps F io' H' ds vs := Reps.kp g.kp ds vs h
section
variable {F : Fx} {io io' : List Addr} {H H' : Hp}
theorem Rep.up {d : D} {v : V} (h : Rep F io H d v) (g : Grow F io H io' H') : Rep F io' H' d v := Rep.grow g d v h
theorem Reps.up {d : List D} {v : List V} (h : Reps F io H d v) (g : Grow F io H io' H') : Reps F io' H' d v := Reps.grow g d v h
theorem Reps.len : ∀ {ds : List D} {vs : List V}, Reps F io H ds vs → ds.length = vs.length
  | _, _, .nil => rfl
  | _, _, .cons _ t => by rw [List.length_cons, List.length_cons, Reps.len t]
theorem Reps.get : ∀ {ds : List D} {vs : List V} {i : Nat} {d : D}, Reps F io H ds vs → ds[i]? = some d → ∃ v, vs[i]? = some v ∧ Rep F io H d v
  | _, _, _, _, .nil, e => by simp at e
  | _, _, 0, _, .cons r _, e => by simp at e; subst e; exact ⟨_, rfl, r⟩
  | _, _, i + 1, d, .cons _ t, e => by
    obtain ⟨v, h1, h2⟩ := Reps.get (i := i) (d := d) t (by simpa using e)
    exact ⟨v, by simpa using h1, h2⟩
theorem Reps.getV : ∀ {ds : List D} {vs : List V} {i : Nat} {v : V}, Reps F io H ds vs → vs[i]? = some v → ∃ d, ds[i]? = some d ∧ Rep F io H d v
  | _, _, _, _, .nil, e => by simp at e
  | _, _, 0, _, .cons r _, e => by simp at e; subst e; exact ⟨_, rfl, r⟩
  | _, _, i + 1, d, .cons _ t, e => by
    obtain ⟨v, h1, h2⟩ := Reps.getV (i := i) (v := d) t (by simpa using e)
    exact ⟨v, by simpa using h1, h2⟩
theorem Reps.app : ∀ {ds es : List D} {vs ws : List V}, Reps F io H ds vs → Reps F io H es ws → Reps F io H (ds ++ es) (vs ++ ws)
  | _, _, _, _, .nil, s => s
  | _, _, _, _, .cons r t, s => .cons r (Reps.app t s)
theorem Reps.take : ∀ {ds : List D} {vs : List V} (n : Nat), Reps F io H ds vs → Reps F io H (ds.take n) (vs.take n)
  | _, _, 0, _ => .nil
  | _, _, _ + 1, .nil => .nil
  | _, _, n + 1, .cons r t => .cons r (Reps.take n t)
theorem Reps.drop : ∀ {ds : List D} {vs : List V} (n : Nat), Reps F io H ds vs → Reps F io H (ds.drop n) (vs.drop n)
  | _, _, 0, r => r
  | _, _, _ + 1, .nil => .nil
  | _, _, n + 1, .cons _ t => Reps.drop n t
theorem Reps.set {d : D} {v : V} (r : Rep F io H d v) : ∀ {ds : List D} {vs : List V} (i : Nat), Reps F io H ds vs → Reps F io H (ds.set i d) (vs.set i v)
  | _, _, _, .nil => .nil
  | _, _, 0, .cons _ t => .cons r t
  | _, _, i + 1, .cons q t => .cons q (Reps.set r i t)
end

/-! ### the store -/
def MOk (F : Fx) (io : List Addr) (H : Hp) (a : Addr) : MO → Prop
  | .lst ds => ∃ xs, H a = some (.lst xs) ∧ Reps F io H ds xs
  | .dct kvs => ∃ ys : List (Key × V), H a = some (.dK ys) ∧ ys.map (·.1) = kvs.map (·.1) ∧ Reps F io H (kvs.map (·.2)) (ys.map (·.2))
structure StOK (F : Fx) (io : List Addr) (H : Hp) (S : Sto) : Prop where
  len : io.length = S.length
  nd : io.Nodup
  lk : ∀ a ∈ F.lk, a ∉ io ∧ ∃ o, H a = some o
  at_ : ∀ (n : Nat) (a : Addr) (m : MO), io[n]? = some a → S[n]? = some m → MOk F io H a m
  tb : ∀ a ∈ F.tb, GxR.TabG H a
theorem tab_ne {H : Hp} {a p : Addr} {o : HO} (h : GxR.TabG H a) (hp : ∀ ps, H p ≠ some (.tbl ps)) : GxR.TabG (upd H p o) a := by
  obtain ⟨ps, e, t⟩ := h
  exact ⟨ps, by rw [upd_ne (fun z => hp ps (by rw [← z]; exact e))]; exact e, t⟩
theorem tab_none {H : Hp} {a p : Addr} {o : HO} (h : GxR.TabG H a) (hp : H p = none) : GxR.TabG (upd H p o) a := tab_ne h fun ps z => by rw [hp] at z; cases z
section
variable {F : Fx} {io io' : List Addr} {H H' : Hp} {S : Sto}
theorem MOk.some_ {a : Addr} {m : MO} (h : MOk F io H a m) : ∃ o, H a = some o ∧ (∀ xs, o ≠ .tup xs) ∧ (∀ b u, o ≠ .frz b u) ∧ ∀ ps, o ≠ .tbl ps := by
  cases m with
  | lst ds => obtain ⟨xs, e, _⟩ := h; exact ⟨_, e, fun _ z => (nomatch z), fun _ _ z => (nomatch z), fun _ z => (nomatch z)⟩
  | dct ds => obtain ⟨xs, e, _⟩ := h; exact ⟨_, e, fun _ z => (nomatch z), fun _ _ z => (nomatch z), fun _ z => (nomatch z)⟩
theorem StOK.of_mem (k : StOK F io H S) {a : Addr} (h : a ∈ io) : ∃ (n : Nat) (m : MO), io[n]? = some a ∧ S[n]? = some m ∧ MOk F io H a m := by
  obtain ⟨n, hn, e⟩ := List.mem_iff_getElem.mp h
  have h1 : io[n]? = some a := by rw [List.getElem?_eq_getElem hn, e]
  have h2 : n < S.length := by rw [← k.len]; exact hn
  have h3 : S[n]? = some S[n] := List.getElem?_eq_getElem h2
  exact ⟨n, _, h1, h3, k.at_ n a _ h1 h3⟩
theorem StOK.fresh (k : StOK F io H S) {p : Addr} (h : H p = none) : p ∉ io := fun hm => by
  obtain ⟨n, m, _, _, q⟩ := k.of_mem hm
  obtain ⟨o, e, _⟩ := q.some_
  rw [h] at e
  cases e
theorem StOK.ntup (k : StOK F io H S) {p : Addr} {xs : List V} (h : H p = some (.tup xs)) : p ∉ io := fun hm => by
  obtain ⟨n, m, _, _, q⟩ := k.of_mem hm
  obtain ⟨o, e, z, _⟩ := q.some_
  rw [h] at e
  exact z xs (Option.some.inj e).symm
theorem StOK.nlk (k : StOK F io H S) {p : Addr} (h : H p = none) : p ∉ F.lk := fun hm => by
  obtain ⟨_, o, e⟩ := k.lk p hm
  rw [h] at e
  cases e
/-- a new immutable object -/
theorem grow_new (k : StOK F io H S) {p : Addr} (h : H p = none) (o : HO) : Grow F io H io (upd H p o) := by
  refine ⟨⟨[], by simp, fun _ z => by simp at z⟩, fun a u e _ _ => ?_, fun a u e => ?_, fun a u v e => ?_, fun a e => ?_, fun a e => tab_none e h⟩
  · rw [upd_ne (ne_of_none e h)]; exact e
  · rw [upd_ne (ne_of_none e h)]; exact e
  · rw [upd_ne (ne_of_none e h)]; exact e
  · by_cases q : a = p
    · rw [q]; exact h
    · rw [upd_ne q] at e; exact e
theorem MOk.grow {a : Addr} {m : MO} (h : MOk F io H a m) (g : Grow F io H io' H') (e : H' a = H a) : MOk F io' H' a m := by
  cases m with
  | lst ds => obtain ⟨xs, q, r⟩ := h; exact ⟨xs, by rw [e]; exact q, r.up g⟩
  | dct ds => obtain ⟨xs, q, r1, r⟩ := h; exact ⟨xs, by rw [e]; exact q, r1, r.up g⟩
theorem StOK.new (k : StOK F io H S) {p : Addr} (h : H p = none) (o : HO) : StOK F io (upd H p o) S :=
  ⟨k.len, k.nd, fun a ha => by
    obtain ⟨ni, u, e⟩ := k.lk a ha
    exact ⟨ni, u, by rw [upd_ne (ne_of_none e h)]; exact e⟩, fun n a m h1 h2 => by
    have q := k.at_ n a m h1 h2
    obtain ⟨u, e, _⟩ := q.some_
    exact q.grow (grow_new k h o) (upd_ne (ne_of_none e h)), fun a ha => tab_none (k.tb a ha) h⟩
/-- a new object of the store -/
theorem grow_newR (k : StOK F io H S) {p : Addr} (h : H p = none) (o : HO) : Grow F io H (io ++ [p]) (upd H p o) := by
  have g := grow_new k h o
  exact ⟨⟨[p], rfl, fun j hj => by simp at hj; rw [hj]; exact h⟩, g.keep, g.tups, g.frzs, g.lsts, g.tabs⟩
theorem StOK.newR (k : StOK F io H S) {p : Addr} (h : H p = none) {o : HO} {m : MO} (hm : MOk F (io ++ [p]) (upd H p o) p m) : StOK F (io ++ [p]) (upd H p o) (S ++ [m]) := by
  refine ⟨by rw [List.length_append, List.length_append, k.len]; rfl, ?_, fun a ha => by
    obtain ⟨ni, u, e⟩ := k.lk a ha
    refine ⟨fun z => ?_, u, by rw [upd_ne (ne_of_none e h)]; exact e⟩
    rcases List.mem_append.mp z with z | z
    · exact ni z
    · simp at z
      rw [z, h] at e
      exact absurd e (by simp), fun n a x h1 h2 => ?_, fun a ha => tab_none (k.tb a ha) h⟩
  · refine List.nodup_append.mpr ⟨k.nd, by simp, fun a ha b hb z => ?_⟩
    simp at hb
    subst hb
    subst z
    exact k.fresh h ha
  · by_cases hn : n < io.length
    · rw [List.getElem?_append_left hn] at h1
      rw [List.getElem?_append_left (by rw [← k.len]; exact hn)] at h2
      have q := k.at_ n a x h1 h2
      obtain ⟨u, e, _⟩ := q.some_
      exact q.grow (grow_newR k h o) (upd_ne (ne_of_none e h))
    · have hn2 : n = io.length := by
        obtain ⟨hl, _⟩ := List.getElem?_eq_some_iff.mp h1
        rw [List.length_append] at hl
        simp at hl
        omega
      subst hn2
      rw [List.getElem?_append_right (Nat.le_refl _)] at h1
      rw [k.len, List.getElem?_append_right (Nat.le_refl _)] at h2
      simp at h1 h2
      subst h1
      subst h2
      exact hm
/-- an object of the store changed -/
theorem grow_set (k : StOK F io H S) {n : Nat} {p : Addr} (h : io[n]? = some p) (hn : n < S.length) (o : HO) : Grow F io H io (upd H p o) := by
  have hp : p ∈ io := List.mem_of_getElem? h
  obtain ⟨n', m, _, _, q⟩ := k.of_mem hp
  obtain ⟨u, e, z1, z2, z3⟩ := q.some_
  refine ⟨⟨[], by simp, fun _ z => by simp at z⟩, fun a u e' na _ => ?_, fun a u' e' => ?_, fun a u' v e' => ?_, fun a e' => ?_, fun a e' => tab_ne e' fun ps z => z3 ps (by rw [e] at z; exact Option.some.inj z)⟩
  · rw [upd_ne (fun z => na (by rw [z]; exact hp))]; exact e'
  · rw [upd_ne (fun z => by rw [z, e] at e'; exact z1 _ (Option.some.inj e'))]; exact e'
  · rw [upd_ne (fun z => by rw [z, e] at e'; exact z2 _ _ (Option.some.inj e'))]; exact e'
  · by_cases q : a = p
    · rw [q, upd_same] at e'; cases e'
    · rw [upd_ne q] at e'; exact e'
theorem StOK.set (k : StOK F io H S) {n : Nat} {p : Addr} (h : io[n]? = some p) (hn : n < S.length) {o : HO} {m : MO} (hm : MOk F io (upd H p o) p m) : StOK F io (upd H p o) (S.set n m) := by
  refine ⟨by rw [List.length_set]; exact k.len, k.nd, fun a ha => by
    obtain ⟨ni, u, e⟩ := k.lk a ha
    refine ⟨ni, ?_⟩
    by_cases q : a = p
    · exact ⟨_, by rw [q]; exact upd_same⟩
    · exact ⟨u, by rw [upd_ne q]; exact e⟩, fun i a x h1 h2 => ?_, fun a ha => (grow_set k h hn o).tabs a (k.tb a ha)⟩
  by_cases e : i = n
  · subst e
    rw [h] at h1
    cases h1
    rw [List.getElem?_set_self hn] at h2
    cases h2
    exact hm
  · rw [List.getElem?_set_ne (Ne.symm e)] at h2
    have q := k.at_ i a x h1 h2
    have ne : a ≠ p := fun z => by
      subst z
      obtain ⟨hi, ei⟩ := List.getElem?_eq_some_iff.mp h1
      obtain ⟨hj, ej⟩ := List.getElem?_eq_some_iff.mp h
      exact e ((List.getElem_inj k.nd).mp (ei.trans ej.symm))
    exact q.grow (grow_set k h hn o) (upd_ne ne)
end

theorem MOk.kp {F F' : Fx} {io io' : List Addr} {H H' : Hp} {a : Addr} {m : MO} (h : MOk F io H a m) (g : Kp F F' io H io' H') (e : H' a = H a) : MOk F' io' H' a m := by
  cases m with
  | lst ds => obtain ⟨xs, q, r⟩ := h; exact ⟨xs, by rw [e]; exact q, Reps.kp g _ _ r⟩
  | dct ds => obtain ⟨xs, q, r1, r⟩ := h; exact ⟨xs, by rw [e]; exact q, r1, Reps.kp g _ _ r⟩
/-! ### the slots -/
structure SlOK (F : Fx) (io : List Addr) (H : Hp) (st : L2.St) (env : EnvD) : Prop where
  len : env.length = st.length
  at_ : ∀ (i : Nat) (d : D), env[i]? = some (some d) → ∃ v, st[i]? = some (some v) ∧ Rep F io H d v
section
variable {F : Fx} {io io' : List Addr} {H H' : Hp} {st : L2.St} {env : EnvD}
theorem SlOK.up (k : SlOK F io H st env) (g : Grow F io H io' H') : SlOK F io' H' st env := ⟨k.len, fun i d e => by
  obtain ⟨v, h1, h2⟩ := k.at_ i d e
  exact ⟨v, h1, h2.up g⟩⟩
theorem SlOK.kp {F F' : Fx} {io io' : List Addr} {H H' : Hp} {st : L2.St} {env : EnvD} (k : SlOK F io H st env) (g : Kp F F' io H io' H') : SlOK F' io' H' st env := ⟨k.len, fun i d e => by
  obtain ⟨v, h1, h2⟩ := k.at_ i d e
  exact ⟨v, h1, Rep.kp g _ _ h2⟩⟩
theorem SlOK.set (k : SlOK F io H st env) {d : D} {v : V} (r : Rep F io H d v) (i : Nat) : SlOK F io H (st.set i (some v)) (env.set i (some d)) := by
  refine ⟨by rw [List.length_set, List.length_set]; exact k.len, fun j e hj => ?_⟩
  by_cases q : i = j
  · subst q
    obtain ⟨hl, _⟩ := List.getElem?_eq_some_iff.mp hj
    rw [List.length_set] at hl
    rw [List.getElem?_set_self hl] at hj
    cases hj
    exact ⟨v, List.getElem?_set_self (by rw [← k.len]; exact hl), r⟩
  · rw [List.getElem?_set_ne q] at hj
    rw [List.getElem?_set_ne q]
    exact k.at_ j e hj
end
end Ev

/-! the evaluator -/
namespace Ev
open PySem PySem.Spec PyProof.Rows L2

mutual
def py : D → Option PyData
  | .non => some .none
  | .bl b => some (.bool b)
  | .int i => some (.int i)
  | .str x => some (.str x)
  | .tup l => (pys l).map .tuple
  | .lst l => (pys l).map .list
  | .rls l => (pys l).map .list
  | .ty _ => none
  | .fn _ => none
  | .ref _ => none
  | .wd _ _ => none
def pys : List D → Option (List PyData)
  | [] => some []
  | d :: ds => (py d).bind fun p => (pys ds).map (p :: ·)
end
mutual
def same : D → D → Bool
  | .non, .non => true
  | .bl a, .bl b => decide (a = b)
  | .int a, .int b => decide (a = b)
  | .str a, .str b => decide (a = b)
  | .ty a, .ty b => decide (a = b)
  | .fn a, .fn b => decide (a = b)
  | .ref a, .ref b => decide (a = b)
  | .tup a, .tup b => sames a b
  | .lst a, .lst b => sames a b
  | .rls a, .rls b => sames a b
  | .wd ks a, .wd ls b => decide (ks = ls) && sames a b
  | _, _ => false
def sames : List D → List D → Bool
  | [], [] => true
  | a :: as, b :: bs => same a b && sames as bs
  | _, _ => false
end
/-- a list of the store as a list -/
def der (S : Sto) : D → D
  | .ref n => match S[n]? with
    | some (.lst l) => .lst l
    | _ => .ref n
  | d => d
/-- the items of a list (false), of a tuple (true) -/
def seqOf (S : Sto) : D → Option (Bool × List D)
  | .tup l => some (true, l)
  | .lst l => some (false, l)
  | .rls l => some (false, l)
  | .ref n => match S[n]? with
    | some (.lst l) => some (false, l)
    | _ => none
  | _ => none
def truth (S : Sto) : D → Option Bool
  | .non => some false
  | .bl b => some b
  | .int i => some (i != 0)
  | .str x => if x.length ≤ sizeLine then some ((x.length : Int) != 0) else none
  | .tup l => some (!l.isEmpty)
  | .lst l => some (!l.isEmpty)
  | .rls l => some (!l.isEmpty)
  | .ref n => match S[n]? with
    | some (.lst l) => some (!l.isEmpty)
    | _ => none
  | _ => none
/-- what == of scalars tells -/
def scalEq : D → D → Option Bool
  | .int i, .int j => some (decide (i = j))
  | .str x, .str y => some (decide (x = y))
  | .bl a, .bl b => some (decide (a = b))
  | .non, .non => some true
  | .non, .int _ => some false
  | .int _, .non => some false
  | .non, .bl _ => some false
  | .bl _, .non => some false
  | .non, .str _ => some false
  | .str _, .non => some false
  | .int _, .str _ => some false
  | .str _, .int _ => some false
  | .bl _, .str _ => some false
  | .str _, .bl _ => some false
  | _, _ => none
def dataEq (p q : Option PyData) : Option Bool := match p, q with
  | some p, some q => if SeqAt.shaped p = true ∧ SeqAt.shaped q = true then some (PyData.eqv p q) else none
  | _, _ => none
def deq (S : Sto) (a b : D) : Option Bool := match scalEq a b with
  | some r => some r
  | none => dataEq (py (der S a)) (py (der S b))
def flatD : D → Bool
  | .non => true
  | .bl _ => true
  | .int _ => true
  | .str _ => true
  | _ => false
def flatEq : D → D → Bool
  | .non, .non => true
  | .bl a, .bl b => a == b
  | .bl a, .int b => (if a then 1 else 0) == b
  | .int a, .bl b => a == (if b then 1 else 0)
  | .int a, .int b => a == b
  | .str a, .str b => a == b
  | _, _ => false
def din (S : Sto) (a b : D) : Option Bool := match b with
  | .str y => match a with
    | .str x => some (!(Builtin.Str.occurrences y x 0 y.length 1).isEmpty)
    | _ => none
  | .wd ks _ => match a with
    | .str x => some (decide (x ∈ ks))
    | _ => none
  | _ => match seqOf S b with
    | some (_, l) => if flatD a = true ∧ l.all flatD = true then some (l.any fun y => flatEq y a) else none
    | none => none
def isNon : D → Bool
  | .non => true
  | _ => false
def intLt (f : Int → Int → Bool) : D → D → Option Bool
  | .int i, .int j => some (f i j)
  | _, _ => none
def cop (S : Sto) (op : CmpOp) (a b : D) : Option Bool := match op with
  | .Eq => deq S a b
  | .NotEq => (deq S a b).map (!·)
  | .Lt => intLt (fun i j => decide (i < j)) a b
  | .LtE => intLt (fun i j => decide (i ≤ j)) a b
  | .Gt => intLt (fun i j => decide (j < i)) a b
  | .GtE => intLt (fun i j => decide (j ≤ i)) a b
  | .Is => match b with
    | .non => some (isNon a)
    | .bl b => match a with
      | .bl a => some (decide (a = b))
      | _ => none
    | _ => none
  | .IsNot => match b with
    | .non => some (!isNon a)
    | _ => none
  | .In => din S a b
  | .NotIn => (din S a b).map (!·)
def ibop (op : Operator) (i j : Int) : Option Int := match op with
  | .Add => some (i + j)
  | .Sub => some (i - j)
  | .Mult => if (-(2 ^ 64) < i ∧ i < 2 ^ 64) ∨ (-(2 ^ 64) < j ∧ j < 2 ^ 64) then some (i * j) else none
  | .FloorDiv => if 0 < j ∧ j < 1073741824 then some (i / j) else none
  | .Mod => if 0 < j then some (i % j) else none
  | .Pow => if 0 ≤ j ∧ j ≤ 1000000 ∧ i.natAbs < 2 ^ 64 then some (i ^ j.toNat) else none
  | .LShift => if 0 ≤ j ∧ j ≤ 1000000 ∧ i.natAbs < 2 ^ 64 then some (i * 2 ^ j.toNat) else none
  | .RShift => if 0 ≤ j then some (i / 2 ^ j.toNat) else none
  | .BitAnd => some (Builtin.bitAnd i j)
  | .BitOr => some (Builtin.bitOr i j)
  | .BitXor => some (Builtin.bitXor i j)
  | _ => none
def bop (op : Operator) (a b : D) : Option D := match a, b with
  | .tup x, .int k => match op with
    | .Mult => if x ≠ [] ∧ 2 ≤ k ∧ k ≤ 1000 ∧ x.length ≤ 1000 then some (.tup (List.replicate k.toNat x).flatten) else none
    | _ => none
  | .int i, .int j => (ibop op i j).map .int
  | .str x, .str y => match op with
    | .Add => if x.length + y.length ≤ sizeLine then some (.str (x ++ y)) else none
    | _ => none
  | .tup x, .tup y => match op with
    | .Add => if x.length + y.length ≤ sizeLine then some (.tup (x ++ y)) else none
    | _ => none
  | .lst x, .lst y => match op with
    | .Add => if x.length + y.length ≤ sizeLine then some (.lst (x ++ y)) else none
    | _ => none
  | _, _ => none
/-- x op= y where x never changes -/
def augF (op : Operator) (a b : D) : Option D := match a, b with
  | .int i, .int j => (ibop op i j).map .int
  | .str x, .str y => bop op (.str x) (.str y)
  | .tup x, .tup y => bop op (.tup x) (.tup y)
  | _, _ => none
def refL (S : Sto) : D → Option (List D)
  | .lst l => some l
  | .ref n => match S[n]? with
    | some (.lst l) => some l
    | _ => none
  | _ => none
/-- with the store: lists of it joined -/
def catS (S : Sto) (op : Operator) (a b : D) : Option D := match op with
  | .Add => match refL S a, refL S b with
    | some l, some m => if l.length + m.length ≤ sizeLine then some (.lst (l ++ m)) else none
    | _, _ => none
  | _ => none
def binS (S : Sto) (op : Operator) (a b : D) : Option D := match bop op a b with
  | some d => some d
  | none => catS S op a b
def tyn (S : Sto) : D → Option String
  | .non => some "NoneType"
  | .bl _ => some "bool"
  | .int _ => some "int"
  | .str _ => some "str"
  | .tup _ => some "tuple"
  | .lst _ => some "list"
  | .rls _ => some "list"
  | .ref n => match S[n]? with
    | some (.lst _) => some "list"
    | some (.dct _) => some "dict"
    | none => none
  | _ => none
def toInt : D → Option Int
  | .int i => some i
  | _ => none
def toBl : D → Option Bool
  | .bl i => some i
  | _ => none
def toInts : List D → Option (List Int)
  | [] => some []
  | d :: ds => (toInt d).bind fun i => (toInts ds).map (i :: ·)
def mxI : List Int → Option Int
  | [] => none
  | x :: r => some (r.foldl (fun a b => if b > a then b else a) x)
def mnI : List Int → Option Int
  | [] => none
  | x :: r => some (r.foldl (fun a b => if b < a then b else a) x)
def bls : List D → Option (List Bool)
  | [] => some []
  | d :: ds => (toBl d).bind fun b => (bls ds).map (b :: ·)
/-- repr -/
def shw (p : Option PyData) : Option D := match p with
  | some p => if p.showable = true ∧ p.shown.length ≤ sizeLine ∧ p.depth ≤ 60 then some (.str p.shown) else none
  | none => none
inductive Bf where
  | len | isinstance | int | abs | max | min | repr | divmod | all | tuple | list | str | sorted
  deriving DecidableEq
def Bf.name : Bf → Str
  | .len => "len" | .isinstance => "isinstance" | .int => "int" | .abs => "abs" | .max => "max" | .min => "min" | .repr => "repr" | .divmod => "divmod" | .all => "all" | .tuple => "tuple" | .list => "list" | .str => "str" | .sorted => "sorted"
def insI (x : Int) : List Int → List Int
  | [] => [x]
  | y :: r => if x ≤ y then x :: y :: r else y :: insI x r
def isort : List Int → List Int
  | [] => []
  | x :: r => insI x (isort r)
theorem insI_perm (x : Int) : ∀ l : List Int, (insI x l).Perm (x :: l)
  | [] => List.Perm.refl _
  | y :: r => by
    unfold insI
    split
    · exact List.Perm.refl _
    · exact ((insI_perm x r).cons y).trans (List.Perm.swap x y r)
theorem isort_perm : ∀ l : List Int, (isort l).Perm l
  | [] => List.Perm.refl _
  | x :: r => (insI_perm x _).trans ((isort_perm r).cons x)
theorem insI_srt (x : Int) : ∀ l : List Int, l.Pairwise (· ≤ ·) → (insI x l).Pairwise (· ≤ ·)
  | [], _ => List.pairwise_singleton _ _
  | y :: r, h => by
    obtain ⟨h1, h2⟩ := List.pairwise_cons.mp h
    unfold insI
    split
    · rename_i z
      exact List.pairwise_cons.mpr ⟨fun a ha => by
        rcases List.mem_cons.mp ha with rfl | ha
        · exact z
        · exact Int.le_trans z (h1 a ha), h⟩
    · rename_i z
      refine List.pairwise_cons.mpr ⟨fun a ha => ?_, insI_srt x r h2⟩
      rcases List.mem_cons.mp ((insI_perm x r).mem_iff.mp ha) with rfl | ha
      · omega
      · exact h1 a ha
theorem isort_srt : ∀ l : List Int, (isort l).Pairwise (· ≤ ·)
  | [] => List.Pairwise.nil
  | x :: r => insI_srt x _ (isort_srt r)
theorem isort_of {l ys : List Int} (h : ys.Perm l) (hs : ys.Pairwise (· ≤ ·)) : ys = isort l :=
  List.Perm.eq_of_pairwise (fun a b _ _ h1 h2 => Int.le_antisymm h1 h2) hs (isort_srt l) (h.trans (isort_perm l).symm)
/-- a dict's keys, all ints -/
def keyI : List Key → Option (List Int)
  | [] => some []
  | .inl i :: r => (keyI r).map (i :: ·)
  | .inr _ :: _ => none
def srtOf (S : Sto) (d : D) : Option (List Int) := match d with
  | .ref n => match S[n]? with
    | some (.dct kvs) => keyI (kvs.map (·.1))
    | some (.lst l) => toInts l
    | none => none
  | .lst l => toInts l
  | _ => none
def bfun (S : Sto) (f : Bf) (as : List D) : Option D := match f, as with
  | .sorted, [d] => match srtOf S d with
    | some ns => if ns.length < 64 then some (.lst ((isort ns).map .int)) else none
    | none => none
  | .len, [.str x] => if x.length ≤ sizeLine then some (.int x.length) else none
  | .len, [d] => (seqOf S d).map fun p => .int p.2.length
  | .isinstance, [d, .ty n] => (tyn S d).bind fun t => (kitB t n).map .bl
  | .int, [.int i] => some (.int i)
  | .int, [.bl b] => some (.int (if b then 1 else 0))
  | .max, [d] => match seqOf S d with
    | some (false, l) => (toInts l).bind fun ns => (mxI ns).map .int
    | _ => none
  | .min, [d] => match seqOf S d with
    | some (false, l) => (toInts l).bind fun ns => (mnI ns).map .int
    | _ => none
  | .abs, [.int i] => some (.int (if i < 0 then -i else i))
  | .max, [.int i, .int j] => some (.int (if j > i then j else i))
  | .min, [.int i, .int j] => some (.int (if j < i then j else i))
  | .repr, [d] => match seqOf S d with
    | some _ => shw (py (der S d))
    | none => match d with
      | .bl b => some (.str (if b then "True" else "False"))
      | _ => none
  | .str, [.int i] => if i.natAbs.log2 < 1920 then some (.str (Str.ofString (toString i))) else none
  | .divmod, [.int i, .int j] => if 0 < j ∧ j < 1073741824 then some (.tup [.int (i / j), .int (i % j)]) else none
  | .all, [d] => match seqOf S d with
    | some (false, l) => (bls l).map fun bs => .bl (bs.all id)
    | _ => none
  | .tuple, [d] => (seqOf S d).map fun p => .tup p.2
  | .list, [d] => (seqOf S d).map fun p => .lst p.2
  | _, _ => none
def atD (l : List D) (i : Int) : Option D := atI l i
def cutD (xs : List D) (lo hi : Option Int) : List D := (xs.drop (HT.sIx xs.length 0 lo)).take (HT.sIx xs.length xs.length hi - HT.sIx xs.length 0 lo)
def look (x : Key) : List (Key × D) → Option D
  | [] => none
  | (k, d) :: r => if k = x then some d else look x r
def lookW (x : Str) : List Str → List D → Option D
  | k :: ks, d :: ds => if k = x then some d else lookW x ks ds
  | _, _ => none
def ixf (S : Sto) (a b : D) : Option D := match a, b with
  | .wd ks vs, .str x => lookW x ks vs
  | .ref n, .str x => match S[n]? with
    | some (.dct kvs) => look (.inr x) kvs
    | _ => none
  | .ref n, .int i => match S[n]? with
    | some (.dct kvs) => look (.inl i) kvs
    | some (.lst l) => atD l i
    | none => none
  | .str z, .int i => if z.length ≤ sizeLine then (atI z.cps.toList i).map fun c => .str ⟨#[c]⟩ else none
  | d, .int i => (seqOf S d).bind fun p => atD p.2 i
  | _, _ => none
def slf (S : Sto) (a : D) (lo hi : Option Int) : Option D := match a with
  | .str z => if z.length ≤ sizeLine then some (.str (cutS z lo hi)) else none
  | d => match seqOf S d with
    | some (true, l) => some (.tup (cutD l lo hi))
    | some (false, l) => some (.lst (cutD l lo hi))
    | none => none

def onesF : Nat → Nat → Nat
  | 0, _ => 0
  | k + 1, n => n % 2 + onesF k (n / 2)
/-- how many bits are 1 -/
def onesN (n : Nat) : Nat := onesF 64 n
/-- targets: a name's slot; o[i]; several -/
inductive E where
  | var (i : Nat) | cst (d : D) | glob (g : Str)
  | bin (op : Operator) (a b : E) | neg (a : E) | not' (a : E) | inv (a : E) | blen (a : E) | ones (a : E) | calll (i : Nat) (as : List E)
  | cmp (op : CmpOp) (a b : E) | chain (op op' : CmpOp) (a b c : E)
  | and' (a b : E) | or' (a b : E) | ife (c a b : E)
  | call (f : Str) (as : List E) | callk (f : Str) (ks : List Str) (ix : List Nat) (ws : List E)
  | blt (f : Bf) (as : List E)
  | tup (as : List E) | lst (as : List E) | newl (as : List E) | newc (as : List E) | newb (a b : E) | newd (ks : List Key) (as : List E)
  | idx (a b : E) | sl (a : E) (fl fh : Bool) (lo hi : E)
  | comp (vs : List Nat) (tg : List Nat) (one : Bool) (k : Nat) (its : List E) (fi : Bool) (cd elt : E)
  | gen (st : Bool) (cap : List (Option Nat)) (tg : List Nat) (one : Bool) (k : Nat) (its : List E) (elt : E)
  deriving Inhabited

def wipeD (env : EnvD) : List Nat → EnvD
  | [] => env
  | v :: vs => (wipeD env vs).set v none
def setAll : List Nat → List D → EnvD → Option EnvD
  | [], [], env => some env
  | i :: is, d :: ds, env => setAll is ds (env.set i (some d))
  | _, _, _ => none
/-- a target of one name, or of several -/
def bindT (tg : List Nat) (one : Bool) (d : D) (env : EnvD) : Option EnvD := match one with
  | true => setAll tg [d] env
  | false => match d with
    | .tup l => setAll tg l env
    | _ => none
def rangeD (lo hi : Int) : List D := (List.range (hi - lo).toNat).map fun (i : Nat) => D.int (lo + i)
def inR (i : Int) : Bool := decide (-(2 ^ 62) ≤ i ∧ i < 2 ^ 62)
/-- what is walked, and whether it still stands so: 0 a list or tuple, 1 a range, 2 enumerate, 3 zip -/
def stays (n : Nat) (l : List D) (S : Sto) : Bool := match S[n]? with
  | some (.lst l2) => sames l l2
  | _ => false
def enumD (n : Nat) : List D → List D
  | [] => []
  | d :: r => .tup [.int n, d] :: enumD (n + 1) r
def zipD : List D → List D → List D
  | a :: as, b :: bs => .tup [a, b] :: zipD as bs
  | _, _ => []
def itemsOf (S : Sto) (k : Nat) (as : List D) : Option (List D × (Sto → Bool)) := match k, as with
  | 0, [.tup l] => some (l, fun _ => true)
  | 0, [.lst l] => some (l, fun _ => true)
  | 0, [.rls l] => some (l, fun _ => true)
  | 0, [.ref n] => match S[n]? with
    | some (.lst l) => some (l, stays n l)
    | _ => none
  | 3, [.tup l, .tup m] => some (zipD l m, fun _ => true)
  | 3, [.lst l, .lst m] => some (zipD l m, fun _ => true)
  | 2, [.tup l] => some (enumD 0 l, fun _ => true)
  | 2, [.lst l] => some (enumD 0 l, fun _ => true)
  | 2, [.rls l] => some (enumD 0 l, fun _ => true)
  | 1, [.int j] => if inR j = true then some (rangeD 0 j, fun _ => true) else none
  | 1, [.int i, .int j] => if inR i = true ∧ inR j = true then some (rangeD i j, fun _ => true) else none
  | _, _ => none
/-- the def's own call -/
abbrev CallF := Str → List D → Sto → Option (D × Sto)
def compLoop (gd : Sto → Bool) (bd : D → EnvD → Option EnvD) (cd : EnvD → Sto → Option (Bool × Sto)) (el : EnvD → Sto → Option (D × Sto)) (env : EnvD) : List D → Sto → List D → Option (List D × Sto)
  | [], S, acc => if gd S = true then some (acc, S) else none
  | d :: ds, S, acc => if gd S = true then match bd d env with
      | none => none
      | some env1 => match cd env1 S with
        | none => none
        | some (false, S1) => compLoop gd bd cd el env ds S1 acc
        | some (true, S1) => match el env1 S1 with
          | none => none
          | some (x, S2) => if acc.length < sizeLine then compLoop gd bd cd el env ds S2 (acc ++ [x]) else none
    else none
def pick (ix : List Nat) (ds : List D) : Option (List D) := match ix with
  | [] => some []
  | i :: is => match ds[i]? with
    | some d => (pick is ds).map (d :: ·)
    | none => none
def putD (x : Key) (d : D) (l : List (Key × D)) : List (Key × D) :=
  if (l.any fun p => decide (p.1 = x)) = true then l.map (fun p => if p.1 = x then (p.1, d) else p) else l ++ [(x, d)]
def putAll : List (Key × D) → List (Key × D) → List (Key × D)
  | l, [] => l
  | l, (k, d) :: r => putAll (putD k d l) r
def capS {α : Type} (cap : List (Option Nat)) (σ : List (Option α)) : List (Option α) := cap.map fun
  | none => none
  | some j => (σ[j]?).join
/-- all (st = false), any (st = true) of tests -/
def genLoop (st : Bool) (gd : Sto → Bool) (bd : D → EnvD → Option EnvD) (el : EnvD → Sto → Option (D × Sto)) (env : EnvD) : List D → Sto → Option (Bool × Sto)
  | [], S => if gd S = true then some (!st, S) else none
  | d :: ds, S => if gd S = true then match bd d env with
      | none => none
      | some env1 => match el env1 S with
        | some (.bl b, S2) => if b = st then some (st, S2) else genLoop st gd bd el env ds S2
        | _ => none
    else none
/-- two lists, one behind the other -/
def catL (S : Sto) (a b : D) : Option (List D) := match refL S a, refL S b with
  | some l, some m => if l.length + m.length ≤ sizeLine then some (l ++ m) else none
  | _, _ => none
/-- what list(..) makes a list of -/
def lst1 (S : Sto) : List D → Option (List D)
  | [d] => (seqOf S d).map fun p => p.2
  | _ => none
structure Gb where
  cl : CallF
  /-- one level deeper: in a generator's frame -/
  cl1 : CallF
  glb : Str → Option D
mutual
def ev (G : Gb) : E → EnvD → Sto → Option (D × Sto)
  | .var i, env, S => match env[i]? with
    | some (some d) => some (d, S)
    | _ => none
  | .cst d, _, S => some (d, S)
  | .glob g, _, S => match G.glb g with
    | some d => some (d, S)
    | none => none
  | .bin op a b, env, S => match ev G a env S with
    | none => none
    | some (x, S1) => match ev G b env S1 with
      | none => none
      | some (y, S2) => match binS S2 op x y with
        | none => none
        | some d => some (d, S2)
  | .neg a, env, S => match ev G a env S with
    | some (.int i, S1) => some (.int (-i), S1)
    | _ => none
  | .inv a, env, S => match ev G a env S with
    | some (.int i, S1) => some (.int (Builtin.bitNot i), S1)
    | _ => none
  | .blen a, env, S => match ev G a env S with
    | some (.int i, S1) => some (.int (Builtin.Int.intBits i : Nat), S1)
    | _ => none
  | .ones a, env, S => match ev G a env S with
    | some (.int i, S1) => if 0 ≤ i ∧ i < 2 ^ 64 then some (.int (onesN i.toNat : Nat), S1) else none
    | _ => none
  | .calll i as, env, S => match env[i]? with
    | some (some (.fn g)) => match evs G as env S with
      | none => none
      | some (ds, S1) => G.cl g ds S1
    | _ => none
  | .not' a, env, S => match ev G a env S with
    | none => none
    | some (x, S1) => match truth S1 x with
      | none => none
      | some t => some (.bl (!t), S1)
  | .cmp op a b, env, S => match ev G a env S with
    | none => none
    | some (x, S1) => match ev G b env S1 with
      | none => none
      | some (y, S2) => match cop S2 op x y with
        | none => none
        | some t => some (.bl t, S2)
  | .chain op op' a b c, env, S => match ev G a env S with
    | none => none
    | some (x, S1) => match ev G b env S1 with
      | none => none
      | some (y, S2) => match cop S2 op x y with
        | none => none
        | some false => some (.bl false, S2)
        | some true => match ev G c env S2 with
          | none => none
          | some (z, S3) => match cop S3 op' y z with
            | none => none
            | some t => some (.bl t, S3)
  | .and' a b, env, S => match ev G a env S with
    | none => none
    | some (x, S1) => match truth S1 x with
      | none => none
      | some true => ev G b env S1
      | some false => some (x, S1)
  | .or' a b, env, S => match ev G a env S with
    | none => none
    | some (x, S1) => match truth S1 x with
      | none => none
      | some true => some (x, S1)
      | some false => ev G b env S1
  | .ife c a b, env, S => match ev G c env S with
    | none => none
    | some (x, S1) => match truth S1 x with
      | none => none
      | some true => ev G a env S1
      | some false => ev G b env S1
  | .call f as, env, S => match evs G as env S with
    | none => none
    | some (ds, S1) => G.cl f ds S1
  | .callk f _ ix ws, env, S => match evs G ws env S with
    | none => none
    | some (ds, S1) => match pick ix ds with
      | none => none
      | some as => G.cl f as S1
  | .blt f as, env, S => match evs G as env S with
    | none => none
    | some (ds, S1) => match bfun S1 f ds with
      | none => none
      | some d => some (d, S1)
  | .tup as, env, S => match evs G as env S with
    | none => none
    | some (ds, S1) => if ds.length ≤ sizeLine then some (.tup ds, S1) else none
  | .lst as, env, S => match evs G as env S with
    | none => none
    | some (ds, S1) => if ds.length ≤ sizeLine then some (.lst ds, S1) else none
  | .newl as, env, S => match evs G as env S with
    | none => none
    | some (ds, S1) => if ds.length ≤ sizeLine then some (.ref S1.length, S1 ++ [.lst ds]) else none
  | .newc as, env, S => match evs G as env S with
    | none => none
    | some (ds, S1) => match lst1 S1 ds with
      | none => none
      | some l => some (.ref S1.length, S1 ++ [.lst l])
  | .newb a b, env, S => match ev G a env S with
    | none => none
    | some (x, S1) => match ev G b env S1 with
      | none => none
      | some (y, S2) => match catL S2 x y with
        | none => none
        | some l => some (.ref S2.length, S2 ++ [.lst l])
  | .newd ks as, env, S => match evs G as env S with
    | none => none
    | some (ds, S1) => if ks.length = ds.length then some (.ref S1.length, S1 ++ [.dct (putAll [] (ks.zip ds))]) else none
  | .idx a b, env, S => match ev G a env S with
    | none => none
    | some (x, S1) => match ev G b env S1 with
      | none => none
      | some (y, S2) => match ixf S2 x y with
        | none => none
        | some d => some (d, S2)
  | .sl a fl fh lo hi, env, S => match ev G a env S with
    | none => none
    | some (x, S1) => match (match fl with
        | false => some (none, S1)
        | true => match ev G lo env S1 with
          | some (.int i, S2) => some (some i, S2)
          | _ => none) with
      | none => none
      | some (l, S2) => match (match fh with
          | false => some (none, S2)
          | true => match ev G hi env S2 with
            | some (.int i, S3) => some (some i, S3)
            | _ => none) with
        | none => none
        | some (h, S3) => match slf S3 x l h with
          | none => none
          | some d => some (d, S3)
  | .comp vs tg one k its fi cd elt, env, S => match evs G its env S with
    | none => none
    | some (as, S1) => match itemsOf S1 k as with
      | none => none
      | some (ds, gd) => match compLoop gd (bindT tg one) (fun e S => match fi with
          | false => some (true, S)
          | true => match ev G cd e S with
            | none => none
            | some (x, S1) => match truth S1 x with
              | none => none
              | some t => some (t, S1)) (ev G elt) (wipeD env vs) ds S1 [] with
        | none => none
        | some (l, S2) => some (.lst l, S2)
  | .gen st cap tg one k its elt, env, S => match evs G its env S with
    | none => none
    | some (as, S1) => match itemsOf S1 k as with
      | none => none
      | some (ds, gd) => match genLoop st gd (bindT tg one) (ev ⟨G.cl1, fun _ _ _ => none, G.glb⟩ elt) (capS cap env) ds S1 with
        | none => none
        | some (b, S2) => some (.bl b, S2)
def evs (G : Gb) : List E → EnvD → Sto → Option (List D × Sto)
  | [], _, S => some ([], S)
  | e :: es, env, S => match ev G e env S with
    | none => none
    | some (d, S1) => match evs G es env S1 with
      | none => none
      | some (ds, S2) => some (d :: ds, S2)
end

/-- a target of names within one another -/
inductive Pt where
  | nm (i : Nat) | tp (ps : List Pt)
mutual
def bindP : Pt → D → EnvD → Option EnvD
  | .nm i, d, env => some (env.set i (some d))
  | .tp ps, d, env => match d with
    | .tup l => bindPs ps l env
    | _ => none
def bindPs : List Pt → List D → EnvD → Option EnvD
  | [], [], env => some env
  | p :: ps, d :: ds, env => match bindP p d env with
    | some env1 => bindPs ps ds env1
    | none => none
  | _, _, _ => none
end
/-! ### statements -/
inductive Tg where
  | name (i : Nat) | sub (o i : E)
  deriving Inhabited
inductive T where
  | asg (t : Tg) (e : E) | tup (ts : List Tg) (e : E) | par (is : List Nat) (es : List E)
  | aug (i : Nat) (op : Operator) (e : E)
  | expr (e : E) | ret (e : E) | retN | pass | brk | cont | stop
  | append (o e : E) | update (o e : E)
  | ife (c : E) (a b : List T)
  | for' (tg : List Nat) (one : Bool) (k : Nat) (its : List E) (body : List T)
  | forN (ps : Pt) (k : Nat) (its : List E) (body : List T)
  | while' (c : E) (body : List T)
  deriving Inhabited
def isL (S : Sto) (n : Nat) : Bool := match S[n]? with
  | some (.lst _) => true
  | _ => false
def isDc (S : Sto) (n : Nat) : Bool := match S[n]? with
  | some (.dct _) => true
  | _ => false
inductive Fl where
  | nx | bk | ct | rt (d : D)
/-- a key -/
def keyD : D → Option Key
  | .int i => some (.inl i)
  | .str x => some (.inr x)
  | _ => none
def asgT (G : Gb) (t : Tg) (d : D) (env : EnvD) (S : Sto) : Option (EnvD × Sto) := match t with
  | .name i => some (env.set i (some d), S)
  | .sub o i => match ev G o env S with
    | some (.ref n, S1) => match ev G i env S1 with
      | some (b, S2) => match S2[n]? with
        | some (.lst l) => match b with
          | .int j => match ixN l.length j with
            | some k => some (env, S2.set n (.lst (l.set k d)))
            | none => none
          | _ => none
        | some (.dct kvs) => match keyD b with
          | some x => if kvs.length < sizeLine then some (env, S2.set n (.dct (putD x d kvs))) else none
          | none => none
        | none => none
      | none => none
    | _ => none
def asgTs (G : Gb) : List Tg → List D → EnvD → Sto → Option (EnvD × Sto)
  | [], [], env, S => some (env, S)
  | t :: ts, d :: ds, env, S => match asgT G t d env S with
    | none => none
    | some (env1, S1) => asgTs G ts ds env1 S1
  | _, _, _, _ => none
def forLoop (gd : Sto → Bool) (bd : D → EnvD → Option EnvD) (body : EnvD → Sto → Option (Fl × EnvD × Sto)) : List D → EnvD → Sto → Option (Fl × EnvD × Sto)
  | [], env, S => if gd S = true then some (.nx, env, S) else none
  | d :: ds, env, S => if gd S = true then match bd d env with
      | none => none
      | some env1 => match body env1 S with
        | none => none
        | some (.nx, env2, S2) => forLoop gd bd body ds env2 S2
        | some (.ct, env2, S2) => forLoop gd bd body ds env2 S2
        | some (.bk, env2, S2) => some (.nx, env2, S2)
        | some (.rt d, env2, S2) => some (.rt d, env2, S2)
    else none
def whileLoop (cd : EnvD → Sto → Option (Bool × Sto)) (body : EnvD → Sto → Option (Fl × EnvD × Sto)) : Nat → EnvD → Sto → Option (Fl × EnvD × Sto)
  | 0, _, _ => none
  | n + 1, env, S => match cd env S with
    | none => none
    | some (false, S1) => some (.nx, env, S1)
    | some (true, S1) => match body env S1 with
      | none => none
      | some (.nx, env2, S2) => whileLoop cd body n env2 S2
      | some (.ct, env2, S2) => whileLoop cd body n env2 S2
      | some (.bk, env2, S2) => some (.nx, env2, S2)
      | some (.rt d, env2, S2) => some (.rt d, env2, S2)
def cond (G : Gb) (c : E) (env : EnvD) (S : Sto) : Option (Bool × Sto) := match ev G c env S with
  | none => none
  | some (x, S1) => match truth S1 x with
    | none => none
    | some t => some (t, S1)
mutual
def ex (G : Gb) (w : Nat) : T → EnvD → Sto → Option (Fl × EnvD × Sto)
  | .asg t e, env, S => match ev G e env S with
    | none => none
    | some (d, S1) => match asgT G t d env S1 with
      | none => none
      | some (env1, S2) => some (.nx, env1, S2)
  | .tup ts e, env, S => match ev G e env S with
    | some (.tup l, S1) => match asgTs G ts l env S1 with
      | none => none
      | some (env1, S2) => some (.nx, env1, S2)
    | _ => none
  | .par is es, env, S => match evs G es env S with
    | none => none
    | some (ds, S1) => match setAll is ds env with
      | none => none
      | some env1 => some (.nx, env1, S1)
  | .aug i op e, env, S => match env[i]? with
    | some (some x) => match ev G e env S with
      | some (y, S1) => match augF op x y with
        | some z => some (.nx, env.set i (some z), S1)
        | none => none
      | none => none
    | _ => none
  | .expr e, env, S => match ev G e env S with
    | none => none
    | some (_, S1) => some (.nx, env, S1)
  | .ret e, env, S => match ev G e env S with
    | none => none
    | some (d, S1) => some (.rt d, env, S1)
  | .retN, env, S => some (.rt .non, env, S)
  | .pass, env, S => some (.nx, env, S)
  | .brk, env, S => some (.bk, env, S)
  | .cont, env, S => some (.ct, env, S)
  | .stop, _, _ => none
  | .append o e, env, S => match ev G o env S with
    | some (.ref n, S1) => if isL S1 n = true then match ev G e env S1 with
      | some (d, S2) => match S2[n]? with
        | some (.lst l) => if l.length < sizeLine then some (.nx, env, S2.set n (.lst (l ++ [d]))) else none
        | _ => none
      | none => none
      else none
    | _ => none
  | .update o e, env, S => match ev G o env S with
    | some (.ref n, S1) => if isDc S1 n = true then match ev G e env S1 with
      | some (.ref m, S2) => match S2[n]?, S2[m]? with
        | some (.dct kvs), some (.dct more) => if n ≠ m ∧ kvs.length + more.length ≤ sizeLine then some (.nx, env, S2.set n (.dct (putAll kvs more))) else none
        | _, _ => none
      | _ => none
      else none
    | _ => none
  | .ife c a b, env, S => match cond G c env S with
    | none => none
    | some (true, S1) => exs G w a env S1
    | some (false, S1) => exs G w b env S1
  | .for' tg one k its body, env, S => match evs G its env S with
    | none => none
    | some (as, S1) => match itemsOf S1 k as with
      | none => none
      | some (ds, gd) => forLoop gd (bindT tg one) (exs G w body) ds env S1
  | .forN ps k its body, env, S => match evs G its env S with
    | none => none
    | some (as, S1) => match itemsOf S1 k as with
      | none => none
      | some (ds, gd) => forLoop gd (bindP ps) (exs G w body) ds env S1
  | .while' c body, env, S => whileLoop (cond G c) (exs G w body) w env S
def exs (G : Gb) (w : Nat) : List T → EnvD → Sto → Option (Fl × EnvD × Sto)
  | [], env, S => some (.nx, env, S)
  | t :: ts, env, S => match ex G w t env S with
    | none => none
    | some (.nx, env1, S1) => exs G w ts env1 S1
    | some r => some r
end
/-- a def: how many slots, its parameters, its body -/
structure Df where
  ps : List Str
  n : Nat
  body : List T
def startD (d : Df) (as : List D) : EnvD := as.map some ++ List.replicate (d.n - as.length) none
def callN (df : Str → Option Df) (glb : Str → Option D) (w : Nat) : Nat → CallF
  | 0, _, _, _ => none
  | k + 1, f, as, S => match df f with
    | none => none
    | some d => if as.length = d.ps.length then match exs ⟨callN df glb w k, callN df glb w (k - 1), glb⟩ w d.body (startD d as) S with
        | some (.rt r, _, S1) => some (r, S1)
        | some (.nx, _, S1) => some (.non, S1)
        | _ => none
      else none
end Ev

/-! what the evaluator tells is what is done: operations by values -/
namespace Ev
open PySem PySem.Spec PyProof.Rows L2
section
variable {X : Cx}
theorem PEw {e : Expr} {t t' : TE} (h : PE X e t) (k : ∀ st H Q, t' st H Q → t st H Q) : PE X e t' := ⟨fun pins s st H Q I q => h.run pins s st H Q I (k st H Q q)⟩
theorem PTw {e : Expr} {t t' : TT} (h : PT X e t) (k : ∀ st H Q, t' st H Q → t st H Q) : PT X e t' := ⟨fun pins s st H Q I q => h.run pins s st H Q I (k st H Q q)⟩
theorem PWw {e : Expr} {t t' : TT} (h : PW X e t) (k : ∀ st H Q, t' st H Q → t st H Q) : PW X e t' := ⟨fun w pins s st H Q I q => h.run w pins s st H Q I (k st H Q q)⟩
theorem PAw {e : List Expr} {t t' : TA} (h : PA X e t) (k : ∀ st H Q, t' st H Q → t st H Q) : PA X e t' := ⟨fun pos pins s st H Q I q => h.run pos pins s st H Q I (k st H Q q)⟩
theorem PSw {e : Stmt} {t t' : TS} (h : PS X e t) (k : ∀ D st H, t' D st H → t D st H) : PS X e t' := ⟨fun pins s st H D I q => h.run pins s st H D I (k D st H q)⟩
theorem PSsw {e : List Stmt} {t t' : TS} (h : PSs X e t) (k : ∀ D st H, t' D st H → t D st H) : PSs X e t' := ⟨fun pins s st H D I q => h.run pins s st H D I (k D st H q)⟩
theorem OpRw {f : Value → Value → Sem Value} {r r' : R2} (h : OpR X f r) (k : ∀ x y H Q, r' x y H Q → r x y H Q) : OpR X f r' := fun pins s st H x y v u Q I rx ry q => h pins s st H x y v u Q I rx ry (k x y H Q q)
theorem OpRno {f : Value → Value → Sem Value} {r : R2} (k : ∀ x y H Q, ¬ r x y H Q) : OpR X f r := fun pins s st H x y v u Q I rx ry q => (k _ _ _ _ q).elim
theorem CallRw {f : Value} {r r' : List V → Hp → VK → Prop} (h : CallR X f r) (k : ∀ x H Q, r' x H Q → r x H Q) : CallR X f r' := fun pins s st H x v Q I rx q => h pins s st H x v Q I rx (k x H Q q)
theorem IxRw {r r' : R2} (h : IxR X r) (k : ∀ x y H Q, r' x y H Q → r x y H Q) : IxR X r' := fun a b pins s st H x y v u Q I rx ry q hs => h a b pins s st H x y v u Q I rx ry (k x y H Q q) hs
theorem SlRw {r r' : V → Option Int → Option Int → Hp → VK → Prop} (h : SlR X r) (k : ∀ x a b H Q, r' x a b H Q → r x a b H Q) : SlR X r' := fun pins s st H x v vl vu lo hi sl Q I rx hs pl pu q => h pins s st H x v vl vu lo hi sl Q I rx hs pl pu (k x lo hi H Q q)
end

/-! ### data -/
section
variable {F : Fx} {io : List Addr} {H : Hp} {S : Sto}
mutual
theorem Rep.dp : ∀ (d : D) (v : V) (p : PyData), py d = some p → Rep F io H d v → Dp F.K H v p
  | .non, _, _, e, h => by cases h; simp only [py, Option.some.injEq] at e; subst e; exact .non
  | .bl b, _, _, e, h => by cases h; simp only [py, Option.some.injEq] at e; subst e; exact .bl b
  | .int b, _, _, e, h => by cases h; simp only [py, Option.some.injEq] at e; subst e; exact .int b
  | .str b, _, _, e, h => by cases h; simp only [py, Option.some.injEq] at e; subst e; exact .str b
  | .ty _, _, _, e, _ => by simp [py] at e
  | .fn _, _, _, e, _ => by simp [py] at e
  | .ref _, _, _, e, _ => by simp [py] at e
  | .tup l, _, _, e, h => by
    simp only [py, Option.map_eq_some_iff] at e
    obtain ⟨ps, e1, e2⟩ := e
    subst e2
    cases h with
    | tup s r => exact .tup s (Reps.dp l _ ps e1 r)
  | .lst l, _, _, e, h => by
    simp only [py, Option.map_eq_some_iff] at e
    obtain ⟨ps, e1, e2⟩ := e
    subst e2
    cases h with
    | lst n m s r => exact .lst (.inl (.inl s)) (Reps.dp l _ ps e1 r)
  | .rls l, _, _, e, h => by
    simp only [py, Option.map_eq_some_iff] at e
    obtain ⟨ps, e1, e2⟩ := e
    subst e2
    cases h with
    | rlsF s r => exact .lst (.inl (.inr ⟨_, s⟩)) (Reps.dp l _ ps e1 r)
    | rlsK s r => exact .lst (.inr s) (Reps.dp l _ ps e1 r)
theorem Reps.dp : ∀ (ds : List D) (vs : List V) (ps : List PyData), pys ds = some ps → Reps F io H ds vs → DpAll F.K H vs ps
  | [], _, _, e, h => by cases h; simp only [pys, Option.some.injEq] at e; subst e; exact .nil
  | d :: ds, _, _, e, h => by
    simp only [pys] at e
    obtain ⟨p, e1, e2⟩ := Option.bind_eq_some_iff.mp e
    obtain ⟨ps, e3, e4⟩ := Option.map_eq_some_iff.mp e2
    subst e4
    cases h with
    | cons a b => exact .cons (Rep.dp d _ p e1 a) (Reps.dp ds _ ps e3 b)
end
theorem StOK.lst_at (k : StOK F io H S) {n : Nat} {a : Addr} {l : List D} (h1 : io[n]? = some a) (h2 : S[n]? = some (.lst l)) : ∃ xs, H a = some (.lst xs) ∧ Reps F io H l xs := k.at_ n a _ h1 h2
theorem der_dp (k : StOK F io H S) {d : D} {v : V} {p : PyData} (e : py (der S d) = some p) (r : Rep F io H d v) : Dp F.K H v p := by
  cases d with
  | ref n =>
    cases r with
    | ref h =>
      simp only [der] at e
      cases q : S[n]? with
      | none => rw [q] at e; simp [py] at e
      | some m =>
        cases m with
        | dct l => rw [q] at e; simp [py] at e
        | lst l =>
          rw [q] at e
          simp only [py, Option.map_eq_some_iff] at e
          obtain ⟨ps, e1, e2⟩ := e
          subst e2
          obtain ⟨xs, h1, h2⟩ := k.lst_at h q
          exact .lst (.inl (.inl h1)) (Reps.dp l _ ps e1 h2)
  | _ => exact Rep.dp _ _ _ e r
/-- a list or a tuple, by its items -/
theorem seq_of (k : StOK F io H S) {d : D} {v : V} {b : Bool} {l : List D} (e : seqOf S d = some (b, l)) (r : Rep F io H d v) :
    ∃ a xs, v = .ref a ∧ Reps F io H l xs ∧ ((b = true ∧ SqT F.K H a xs) ∨ (b = false ∧ SqL F.K H a xs)) := by
  cases d with
  | tup l' =>
    simp only [seqOf, Option.some.injEq, Prod.mk.injEq] at e
    obtain ⟨rfl, rfl⟩ := e
    cases r with
    | tup s r => exact ⟨_, _, rfl, r, .inl ⟨rfl, s⟩⟩
  | lst l' =>
    simp only [seqOf, Option.some.injEq, Prod.mk.injEq] at e
    obtain ⟨rfl, rfl⟩ := e
    cases r with
    | lst n m s r => exact ⟨_, _, rfl, r, .inr ⟨rfl, .inl (.inl s)⟩⟩
  | rls l' =>
    simp only [seqOf, Option.some.injEq, Prod.mk.injEq] at e
    obtain ⟨rfl, rfl⟩ := e
    cases r with
    | rlsF s r => exact ⟨_, _, rfl, r, .inr ⟨rfl, .inl (.inr ⟨_, s⟩)⟩⟩
    | rlsK s r => exact ⟨_, _, rfl, r, .inr ⟨rfl, .inr s⟩⟩
  | ref n =>
    cases r with
    | ref h =>
      simp only [seqOf] at e
      cases q : S[n]? with
      | none => rw [q] at e; cases e
      | some m =>
        rw [q] at e
        cases m with
        | dct l => cases e
        | lst l2 =>
          simp only [Option.some.injEq, Prod.mk.injEq] at e
          obtain ⟨rfl, rfl⟩ := e
          obtain ⟨xs, h1, h2⟩ := k.lst_at h q
          exact ⟨_, _, rfl, h2, .inr ⟨rfl, .inl (.inl h1)⟩⟩
  | _ => simp [seqOf] at e
theorem Reps.isEmpty {ds : List D} {vs : List V} (r : Reps F io H ds vs) : ds.isEmpty = vs.isEmpty := by
  cases r <;> rfl
theorem truth_ok (k : StOK F io H S) {d : D} {v : V} {t : Bool} (e : truth S d = some t) (r : Rep F io H d v) : TruV F.K v H t := by
  cases d with
  | non => cases r; simp only [truth, Option.some.injEq] at e; exact e.symm
  | bl b => cases r; simp only [truth, Option.some.injEq] at e; exact e.symm
  | int b => cases r; simp only [truth, Option.some.injEq] at e; exact e.symm
  | str x =>
    cases r
    simp only [truth] at e
    split at e
    · rename_i hz
      exact ⟨hz, (Option.some.inj e).symm⟩
    · cases e
  | tup l =>
    simp only [truth, Option.some.injEq] at e
    obtain ⟨a, xs, rfl, r2, q⟩ := seq_of k (d := .tup l) (b := true) (l := l) rfl r
    rcases q with ⟨_, q⟩ | ⟨q, _⟩
    · exact .inr (.inl ⟨xs, q, by rw [← r2.isEmpty]; exact e.symm⟩)
    · cases q
  | lst l =>
    simp only [truth, Option.some.injEq] at e
    obtain ⟨a, xs, rfl, r2, q⟩ := seq_of k (d := .lst l) (b := false) (l := l) rfl r
    rcases q with ⟨q, _⟩ | ⟨_, q⟩
    · cases q
    · exact .inl ⟨xs, q, by rw [← r2.isEmpty]; exact e.symm⟩
  | rls l =>
    simp only [truth, Option.some.injEq] at e
    obtain ⟨a, xs, rfl, r2, q⟩ := seq_of k (d := .rls l) (b := false) (l := l) rfl r
    rcases q with ⟨q, _⟩ | ⟨_, q⟩
    · cases q
    · exact .inl ⟨xs, q, by rw [← r2.isEmpty]; exact e.symm⟩
  | ref n =>
    simp only [truth] at e
    cases q : S[n]? with
    | none => rw [q] at e; cases e
    | some m =>
      rw [q] at e
      cases m with
      | dct l => cases e
      | lst l =>
        simp only [Option.some.injEq] at e
        obtain ⟨a, xs, rfl, r2, q⟩ := seq_of k (d := .ref n) (b := false) (l := l) (by simp [seqOf, q]) r
        rcases q with ⟨q, _⟩ | ⟨_, q⟩
        · cases q
        · exact .inl ⟨xs, q, by rw [← r2.isEmpty]; exact e.symm⟩
  | _ => simp [truth] at e
end

/-! ### two-place operations -/
section
variable {X : Cx} {F : Fx}
/-- by values, for what the evaluator tells -/
def rB (F : Fx) (f : D → D → Option D) : R2 := fun x y H Q => ∃ io S a b d, StOK F io H S ∧ Rep F io H a x ∧ Rep F io H b y ∧ f a b = some d ∧ ∀ io' H' v, Grow F io H io' H' → StOK F io' H' S → Rep F io' H' d v → Q v H'
def rC (F : Fx) (f : Sto → D → D → Option Bool) : R2 := fun x y H Q => ∃ io S a b t, StOK F io H S ∧ Rep F io H a x ∧ Rep F io H b y ∧ f S a b = some t ∧ Q (.bl t) H
theorem int_case {op : Operator} {C : Int → Int → Prop} {g : Int → Int → Int} (h : OpR X (binaryOp op) (rI C fun i j => .int (g i j))) (he : ∀ i j z, ibop op i j = some z → C i j ∧ z = g i j)
    (hno : ∀ a b d, bop op a b = some d → ∃ i j, a = .int i ∧ b = .int j) : OpR X (binaryOp op) (rB F (bop op)) := by
  refine OpRw h fun x y H Q q => ?_
  obtain ⟨io, S, a, b, d, so, ra, rb, e, k⟩ := q
  obtain ⟨i, j, rfl, rfl⟩ := hno a b d e
  cases ra
  cases rb
  simp only [bop, Option.map_eq_some_iff] at e
  obtain ⟨z, e1, rfl⟩ := e
  obtain ⟨c, rfl⟩ := he i j z e1
  exact ⟨i, j, rfl, rfl, c, k io H _ (Grow.refl _ _) so (.int _)⟩
theorem of_rI0 {f : Value → Value → Sem Value} {g : Int → Int → V} (h : OpR X f (rI0 g)) : OpR X f (rI (fun _ _ => True) g) := OpRw h fun x y H Q ⟨i, j, e1, e2, _, q⟩ => ⟨i, j, e1, e2, q⟩
theorem only_ints {op : Operator} (h : op ≠ .Add ∧ op ≠ .Mult) (a b d : D) (e : bop op a b = some d) : ∃ i j, a = .int i ∧ b = .int j := by
  cases a <;> cases b <;> first
    | exact ⟨_, _, rfl, rfl⟩
    | (simp only [bop] at e; cases e; done)
    | (exfalso; simp only [bop] at e; split at e; exact h.1 rfl; cases e)
    | (exfalso; simp only [bop] at e; split at e; exact h.2 rfl; cases e)
theorem Reps.rep {io : List Addr} {H : Hp} {ds : List D} {vs : List V} (r : Reps F io H ds vs) : ∀ n : Nat, Reps F io H (List.replicate n ds).flatten (List.replicate n vs).flatten
  | 0 => .nil
  | n + 1 => by
    rw [List.replicate_succ, List.replicate_succ, List.flatten_cons, List.flatten_cons]
    exact r.app (Reps.rep r n)
theorem opB (hK : X.K = F.K) (op : Operator) : OpR X (binaryOp op) (rB F (bop op)) := by
  cases op with
  | Add =>
    refine OpRw (op_add.or (op_add_str.or (op_catA.or op_cat))) fun x y H Q q => ?_
    obtain ⟨io, S, a, b, d, so, ra, rb, e, k⟩ := q
    cases a <;> cases b <;> try (simp only [bop] at e; cases e; done)
    · cases ra; cases rb
      simp only [bop, ibop, Option.map_some, Option.some.injEq] at e
      subst e
      exact .inl ⟨_, _, rfl, rfl, k io H _ (Grow.refl _ _) so (.int _)⟩
    · cases ra; cases rb
      simp only [bop] at e
      split at e
      · rename_i hz
        cases e
        exact .inr (.inl ⟨_, _, rfl, rfl, hz, k io H _ (Grow.refl _ _) so (.str _)⟩)
      · cases e
    · cases ra with
      | tup s1 r1 =>
        cases rb with
        | tup s2 r2 =>
          simp only [bop] at e
          split at e
          · rename_i hz
            cases e
            rw [r1.len, r2.len] at hz
            refine .inr (.inr (.inl ⟨_, _, _, _, rfl, rfl, by rw [hK]; exact s1, by rw [hK]; exact s2, hz, fun z => ?_, fun z1 z2 => ?_, fun z1 z2 p hp => ?_⟩))
            · subst z
              cases r1
              exact k io H _ (Grow.refl _ _) so (.tup s2 r2)
            · subst z2
              cases r2
              rw [List.append_nil] at k
              exact k io H _ (Grow.refl _ _) so (.tup s1 r1)
            · exact k io _ _ (grow_new so hp _) (so.new hp _) (.tup (.inl (.inl upd_same)) ((r1.up (grow_new so hp _)).app (r2.up (grow_new so hp _))))
          · cases e
    · cases ra with
      | lst n1 m1 s1 r1 =>
        cases rb with
        | lst n2 m2 s2 r2 =>
          simp only [bop] at e
          split at e
          · rename_i hz
            cases e
            rw [r1.len, r2.len] at hz
            refine .inr (.inr (.inr ⟨_, _, _, _, rfl, rfl, s1, s2, hz, fun p hp => ?_⟩))
            exact k io _ _ (grow_new so hp _) (so.new hp _) (.lst (so.fresh hp) (so.nlk hp) upd_same ((r1.up (grow_new so hp _)).app (r2.up (grow_new so hp _))))
          · cases e
  | Sub => exact int_case (of_rI0 op_sub) (fun i j z e => by simp only [ibop, Option.some.injEq] at e; exact ⟨trivial, e.symm⟩) (only_ints ⟨by decide, by decide⟩)
  | Mult =>
    refine OpRw (op_mul.or op_repT) fun x y H Q q => ?_
    obtain ⟨io, S, a, b, d, so, ra, rb, e, k⟩ := q
    cases a <;> cases b <;> try (simp only [bop] at e; cases e; done)
    · cases ra
      cases rb
      simp only [bop, ibop, Option.map_eq_some_iff] at e
      obtain ⟨z, e1, rfl⟩ := e
      split at e1
      · rename_i hc
        cases e1
        exact .inl ⟨_, _, rfl, rfl, hc, k io H _ (Grow.refl _ _) so (.int _)⟩
      · cases e1
    · cases ra with
      | tup s1 r1 =>
        cases rb
        rename_i xs kk p ys
        simp only [bop] at e
        split at e
        · rename_i hc
          cases e
          have hne : ys ≠ [] := fun z => by
            subst z
            cases r1
            exact hc.1 rfl
          refine .inr ⟨p, kk, ys, rfl, rfl, by rw [hK]; exact s1, hne, hc.2.1, hc.2.2.1, by rw [← r1.len]; exact hc.2.2.2, fun q hq => ?_⟩
          exact k io _ _ (grow_new so hq _) (so.new hq _) (.tup (.inl (.inl upd_same)) ((Reps.rep r1 kk.toNat).up (grow_new so hq _)))
        · cases e
  | FloorDiv => exact int_case op_fdiv (fun i j z e => by
      simp only [ibop] at e
      split at e
      · rename_i hc
        exact ⟨hc, (Option.some.inj e).symm⟩
      · cases e) (only_ints ⟨by decide, by decide⟩)
  | Mod => exact int_case op_mod (fun i j z e => by
      simp only [ibop] at e
      split at e
      · rename_i hc
        exact ⟨hc, (Option.some.inj e).symm⟩
      · cases e) (only_ints ⟨by decide, by decide⟩)
  | Pow => exact int_case op_pow (fun i j z e => by
      simp only [ibop] at e
      split at e
      · rename_i hc
        exact ⟨hc, (Option.some.inj e).symm⟩
      · cases e) (only_ints ⟨by decide, by decide⟩)
  | LShift => exact int_case op_shl (fun i j z e => by
      simp only [ibop] at e
      split at e
      · rename_i hc
        exact ⟨hc, (Option.some.inj e).symm⟩
      · cases e) (only_ints ⟨by decide, by decide⟩)
  | RShift => exact int_case op_shr (fun i j z e => by
      simp only [ibop] at e
      split at e
      · rename_i hc
        exact ⟨hc, (Option.some.inj e).symm⟩
      · cases e) (only_ints ⟨by decide, by decide⟩)
  | BitAnd => exact int_case (of_rI0 op_and) (fun i j z e => by simp only [ibop, Option.some.injEq] at e; exact ⟨trivial, e.symm⟩) (only_ints ⟨by decide, by decide⟩)
  | BitOr => exact int_case (of_rI0 op_or) (fun i j z e => by simp only [ibop, Option.some.injEq] at e; exact ⟨trivial, e.symm⟩) (only_ints ⟨by decide, by decide⟩)
  | BitXor => exact int_case (of_rI0 op_xor) (fun i j z e => by simp only [ibop, Option.some.injEq] at e; exact ⟨trivial, e.symm⟩) (only_ints ⟨by decide, by decide⟩)
  | Div =>
    refine OpRno fun x y H Q q => ?_
    obtain ⟨io, S, a, b, d, so, ra, rb, e, k⟩ := q
    obtain ⟨i, j, rfl, rfl⟩ := only_ints ⟨by decide, by decide⟩ a b d e
    simp [bop, ibop] at e
  | MatMult =>
    refine OpRno fun x y H Q q => ?_
    obtain ⟨io, S, a, b, d, so, ra, rb, e, k⟩ := q
    obtain ⟨i, j, rfl, rfl⟩ := only_ints ⟨by decide, by decide⟩ a b d e
    simp [bop, ibop] at e
theorem refL_ok {io : List Addr} {H : Hp} {S : Sto} (so : StOK F io H S) {d : D} {v : V} {l : List D} (e : refL S d = some l) (r : Rep F io H d v) : ∃ a xs, v = .ref a ∧ H a = some (.lst xs) ∧ Reps F io H l xs := by
  cases d <;> simp only [refL] at e <;> try (cases e; done)
  · cases e
    cases r with
    | lst n m s rs => exact ⟨_, _, rfl, s, rs⟩
  · split at e
    · rename_i l2 q
      cases e
      cases r with
      | ref hn =>
        obtain ⟨xs, h0, h1⟩ := so.lst_at hn q
        exact ⟨_, xs, rfl, h0, h1⟩
    · cases e
def rBS (F : Fx) (op : Operator) : R2 := fun x y H Q => ∃ io S a b d, StOK F io H S ∧ Rep F io H a x ∧ Rep F io H b y ∧ binS S op a b = some d ∧ ∀ io' H' v, Grow F io H io' H' → StOK F io' H' S → Rep F io' H' d v → Q v H'
theorem opBS (hK : X.K = F.K) (op : Operator) : OpR X (binaryOp op) (rBS F op) := by
  by_cases h : op = .Add
  · subst h
    refine OpRw ((opB (F := F) hK .Add).or op_cat) fun x y H Q q => ?_
    obtain ⟨io, S, a, b, d, so, ra, rb, e, k⟩ := q
    unfold binS at e
    split at e
    · rename_i d' q1
      cases e
      exact .inl ⟨io, S, a, b, _, so, ra, rb, q1, k⟩
    · simp only [catS] at e
      split at e
      · rename_i l m q1 q2
        split at e
        · rename_i hz
          cases e
          obtain ⟨p1, xs, rfl, s1, r1⟩ := refL_ok so q1 ra
          obtain ⟨p2, ys, rfl, s2, r2⟩ := refL_ok so q2 rb
          rw [r1.len, r2.len] at hz
          refine .inr ⟨_, _, _, _, rfl, rfl, s1, s2, hz, fun p hp => ?_⟩
          exact k io _ _ (grow_new so hp _) (so.new hp _) (.lst (so.fresh hp) (so.nlk hp) upd_same ((r1.up (grow_new so hp _)).app (r2.up (grow_new so hp _))))
        · cases e
      · cases e
  · refine OpRw (opB (F := F) hK op) fun x y H Q q => ?_
    obtain ⟨io, S, a, b, d, so, ra, rb, e, k⟩ := q
    unfold binS at e
    split at e
    · rename_i d' q1
      cases e
      exact ⟨io, S, a, b, _, so, ra, rb, q1, k⟩
    · unfold catS at e
      split at e
      · exact absurd rfl h
      · cases e
theorem scal_ok {io : List Addr} {H : Hp} {a b : D} {x y : V} {t : Bool} (e : scalEq a b = some t) (ra : Rep F io H a x) (rb : Rep F io H b y) : scal x y = true ∧ decide (x = y) = t := by
  cases a <;> cases b <;> first
    | (simp only [scalEq] at e; cases e; done)
    | (cases ra; cases rb; simp only [scalEq, Option.some.injEq] at e; subst e; exact ⟨rfl, by simp⟩)
theorem int_lt {op : CmpOp} {g : Int → Int → Bool} (h : OpR X (compareOp op) (rI0 fun i j => .bl (g i j))) : OpR X (compareOp op) (rC F fun _ a b => intLt g a b) := by
  refine OpRw h fun x y H Q q => ?_
  obtain ⟨io, S, a, b, t, so, ra, rb, e, k⟩ := q
  cases a <;> cases b <;> try (simp only [intLt] at e; cases e; done)
  cases ra; cases rb
  simp only [intLt, Option.some.injEq] at e
  subst e
  exact ⟨_, _, rfl, rfl, k⟩
theorem flat_ok {io : List Addr} {H : Hp} {a : D} {x : V} (ra : Rep F io H a x) (h : flatD a = true) : flatV x = true := by
  cases a <;> first
    | (cases ra; rfl)
    | (simp [flatD] at h)
theorem flatEq_ok {io : List Addr} {H : Hp} {a b : D} {x y : V} (ra : Rep F io H a x) (rb : Rep F io H b y) (h : flatD a = true) (h' : flatD b = true) : flatEq a b = eqV x y := by
  cases a <;> cases b <;> first
    | (simp [flatD] at h; done)
    | (simp [flatD] at h'; done)
    | (cases ra; cases rb; rfl)
theorem flats_ok {io : List Addr} {H : Hp} : ∀ {l : List D} {xs : List V}, Reps F io H l xs → l.all flatD = true → xs.all flatV = true
  | _, _, .nil, _ => rfl
  | _, _, .cons r t, h => by
    simp only [List.all_cons, Bool.and_eq_true] at h ⊢
    exact ⟨flat_ok r h.1, flats_ok t h.2⟩
theorem any_ok {io : List Addr} {H : Hp} {a : D} {x : V} (ra : Rep F io H a x) (ha : flatD a = true) : ∀ {l : List D} {xs : List V}, Reps F io H l xs → l.all flatD = true → (l.any fun y => flatEq y a) = inV x xs
  | _, _, .nil, _ => rfl
  | _, _, .cons r t, h => by
    simp only [List.all_cons, Bool.and_eq_true] at h
    have ih := any_ok ra ha t h.2
    unfold inV at ih ⊢
    rw [List.any_cons, List.any_cons, ih, flatEq_ok r ra h.1 ha]
theorem din_ok {io : List Addr} {H : Hp} {S : Sto} {a b : D} {x y : V} {t : Bool} (so : StOK F io H S) (e : din S a b = some t) (ra : Rep F io H a x) (rb : Rep F io H b y) :
    (∃ i j, x = .str i ∧ y = .str j ∧ t = !(Builtin.Str.occurrences j i 0 j.length 1).isEmpty) ∨ (∃ p xs, y = .ref p ∧ (SqL F.K H p xs ∨ SqT F.K H p xs) ∧ flatV x = true ∧ xs.all flatV = true ∧ t = inV x xs) ∨ (∃ z p es n ks us, x = .str z ∧ y = .ref p ∧ KDict F.K F.w p es n ∧ WDv F.K p ks us ∧ t = decide (z ∈ ks)) := by
  have other : ∀ {b' l}, seqOf S b = some (b', l) → (if flatD a = true ∧ l.all flatD = true then some (l.any fun y => flatEq y a) else none) = some t → (∃ p xs, y = .ref p ∧ (SqL F.K H p xs ∨ SqT F.K H p xs) ∧ flatV x = true ∧ xs.all flatV = true ∧ t = inV x xs) := by
    intro b' l es e
    split at e
    · rename_i hc
      cases e
      obtain ⟨p, xs, rfl, r2, q⟩ := seq_of so es rb
      refine ⟨p, xs, rfl, ?_, flat_ok ra hc.1, flats_ok r2 hc.2, any_ok ra hc.1 r2 hc.2⟩
      rcases q with ⟨_, q⟩ | ⟨_, q⟩
      · exact .inr q
      · exact .inl q
    · cases e
  cases b with
  | str z =>
    cases a with
    | str z2 =>
      simp only [din, Option.some.injEq] at e
      cases ra; cases rb
      exact .inl ⟨_, _, rfl, rfl, e.symm⟩
    | _ => simp [din] at e
  | wd ks vs =>
    cases a with
    | str z2 =>
      simp only [din, Option.some.injEq] at e
      cases ra
      cases rb with
      | wd kd wv r => exact .inr (.inr ⟨_, _, _, _, _, _, rfl, rfl, kd, wv, e.symm⟩)
    | _ => simp [din] at e
  | _ =>
    refine .inr (.inl ?_)
    simp only [din] at e
    split at e
    · rename_i es
      exact other es e
    · cases e
theorem wd_look {K : PySem.W.Frag} {a : Addr} {ks : List Str} {us : List V} (h : WDv K a ks us) (z : Str) : ∃ r, PySem.W.nsIn K a z = some r ∧ r.isSome = decide (z ∈ ks) := by
  by_cases hz : z ∈ ks
  · obtain ⟨i, hi, e⟩ := List.mem_iff_getElem.mp hz
    obtain ⟨h1, h2, h3⟩ := h
    obtain ⟨u', e1, _⟩ := h2 i z us[i] (by rw [List.getElem?_eq_getElem hi, e]) (List.getElem?_eq_getElem (by omega))
    exact ⟨_, e1, by rw [decide_eq_true hz]; rfl⟩
  · exact ⟨_, h.2.2 z hz, by rw [decide_eq_false hz]; rfl⟩
theorem op_in_wd : OpR X (compareOp .In) (fun x y H Q => ∃ z p es n ks us, x = .str z ∧ y = .ref p ∧ KDict X.K X.w p es n ∧ WDv X.K p ks us ∧ Q (.bl (decide (z ∈ ks))) H) := by
  intro pins s σ H x y v u Q I rx ry h
  obtain ⟨z, p, es, n, ks, us, e1, e2, kd, wv, q⟩ := h
  obtain ⟨r, e3, e4⟩ := wd_look wv z
  exact op_in_kd kd pins s σ H x y v u Q I rx ry ⟨z, r, e1, e2, e3, by rw [e4]; exact q⟩
theorem op_notIn_wd : OpR X (compareOp .NotIn) (fun x y H Q => ∃ z p es n ks us, x = .str z ∧ y = .ref p ∧ KDict X.K X.w p es n ∧ WDv X.K p ks us ∧ Q (.bl (!decide (z ∈ ks))) H) := by
  intro pins s σ H x y v u Q I rx ry h
  obtain ⟨z, p, es, n, ks, us, e1, e2, kd, wv, q⟩ := h
  obtain ⟨r, e3, e4⟩ := wd_look wv z
  exact op_notIn_kd kd pins s σ H x y v u Q I rx ry ⟨z, r, e1, e2, e3, by rw [e4]; exact q⟩
theorem opC (hK : X.K = F.K) (hw : X.w = F.w) (hu : X.A.units + 64 < cLine) (op : CmpOp) : OpR X (compareOp op) (rC F fun S => cop S op) := by
  cases op with
  | Eq =>
    refine OpRw (op_eq.or (op_eqD hu)) fun x y H Q q => ?_
    obtain ⟨io, S, a, b, t, so, ra, rb, e, k⟩ := q
    simp only [cop, deq] at e
    split at e
    · rename_i r es
      cases e
      obtain ⟨h1, h2⟩ := scal_ok es ra rb
      exact .inl ⟨h1, by rw [h2]; exact k⟩
    · rename_i es
      unfold dataEq at e
      split at e
      · rename_i p q ep eq
        split at e
        · rename_i hs
          cases e
          exact .inr ⟨p, q, by rw [hK]; exact der_dp so ep ra, by rw [hK]; exact der_dp so eq rb, hs.1, hs.2, k⟩
        · cases e
      · cases e
  | NotEq =>
    refine OpRw (op_ne.or (op_neD hu)) fun x y H Q q => ?_
    obtain ⟨io, S, a, b, t, so, ra, rb, e, k⟩ := q
    simp only [cop, Option.map_eq_some_iff] at e
    obtain ⟨t1, e, rfl⟩ := e
    simp only [deq] at e
    split at e
    · rename_i r es
      cases e
      obtain ⟨h1, h2⟩ := scal_ok es ra rb
      exact .inl ⟨h1, by rw [h2]; exact k⟩
    · rename_i es
      unfold dataEq at e
      split at e
      · rename_i p q ep eq
        split at e
        · rename_i hs
          cases e
          exact .inr ⟨p, q, by rw [hK]; exact der_dp so ep ra, by rw [hK]; exact der_dp so eq rb, hs.1, hs.2, k⟩
        · cases e
      · cases e
  | Lt => exact int_lt op_lt
  | LtE => exact int_lt op_le
  | Gt => exact int_lt op_gt
  | GtE => exact int_lt op_ge
  | Is =>
    refine OpRw (op_isN.or op_isBl) fun x y H Q q => ?_
    obtain ⟨io, S, a, b, t, so, ra, rb, e, k⟩ := q
    cases b <;> try (simp only [cop] at e; cases e; done)
    · left
      cases rb
      simp only [cop, Option.some.injEq] at e
      refine ⟨rfl, ?_⟩
      have e2 : decide (x = V.non) = t := by
        subst e
        cases a <;> (cases ra <;> simp [isNon])
      rw [e2]; exact k
    · right
      cases a <;> try (simp only [cop] at e; cases e; done)
      cases ra
      cases rb
      simp only [cop, Option.some.injEq] at e
      subst e
      exact ⟨_, _, rfl, rfl, k⟩
  | IsNot =>
    refine OpRw op_notN fun x y H Q q => ?_
    obtain ⟨io, S, a, b, t, so, ra, rb, e, k⟩ := q
    cases b <;> try (simp only [cop] at e; cases e; done)
    cases rb
    simp only [cop, Option.some.injEq] at e
    refine ⟨rfl, ?_⟩
    have e2 : (!decide (x = V.non)) = t := by
      subst e
      cases a <;> (cases ra <;> simp [isNon])
    rw [e2]; exact k
  | In =>
    refine OpRw (op_in_str.or (op_in_seq.or op_in_wd)) fun x y H Q q => ?_
    obtain ⟨io, S, a, b, t, so, ra, rb, e, k⟩ := q
    rcases din_ok so e ra rb with ⟨i, j, rfl, rfl, rfl⟩ | ⟨p, xs, rfl, h1, h2, h3, rfl⟩ | ⟨z, p, es, n, ks, us, rfl, rfl, h1, h2, rfl⟩
    · exact .inl ⟨i, j, rfl, rfl, k⟩
    · exact .inr (.inl ⟨p, xs, rfl, by rw [hK]; exact h1, h2, h3, k⟩)
    · exact .inr (.inr ⟨z, p, es, n, ks, us, rfl, rfl, by rw [hK, hw]; exact h1, by rw [hK]; exact h2, k⟩)
  | NotIn =>
    refine OpRw (op_notin_str.or (op_notIn_seq.or op_notIn_wd)) fun x y H Q q => ?_
    obtain ⟨io, S, a, b, t, so, ra, rb, e, k⟩ := q
    simp only [cop, Option.map_eq_some_iff] at e
    obtain ⟨t1, e, rfl⟩ := e
    rcases din_ok so e ra rb with ⟨i, j, rfl, rfl, rfl⟩ | ⟨p, xs, rfl, h1, h2, h3, rfl⟩ | ⟨z, p, es, n, ks, us, rfl, rfl, h1, h2, rfl⟩
    · exact .inl ⟨i, j, rfl, rfl, k⟩
    · exact .inr (.inl ⟨p, xs, rfl, by rw [hK]; exact h1, h2, h3, k⟩)
    · exact .inr (.inr ⟨z, p, es, n, ks, us, rfl, rfl, by rw [hK, hw]; exact h1, by rw [hK]; exact h2, k⟩)
end
end Ev

namespace Ev
open PySem PySem.Spec PyProof.Rows L2

/-! ### built-ins by values -/
section
variable {X : Cx} {F : Fx}
def rBf (F : Fx) (f : Bf) : List V → Hp → VK → Prop := fun vs H Q => ∃ io S ds d, StOK F io H S ∧ Reps F io H ds vs ∧ bfun S f ds = some d ∧ ∀ io' H' v, Grow F io H io' H' → StOK F io' H' S → Rep F io' H' d v → Q v H'
theorem Reps.one {io : List Addr} {H : Hp} {d : D} {vs : List V} (r : Reps F io H [d] vs) : ∃ v, vs = [v] ∧ Rep F io H d v := by
  cases r with
  | cons a b => cases b; exact ⟨_, rfl, a⟩
theorem Reps.two {io : List Addr} {H : Hp} {d e : D} {vs : List V} (r : Reps F io H [d, e] vs) : ∃ v u, vs = [v, u] ∧ Rep F io H d v ∧ Rep F io H e u := by
  cases r with
  | cons a b =>
    obtain ⟨u, rfl, q⟩ := b.one
    exact ⟨_, u, rfl, a, q⟩
theorem pys_noDict : ∀ (d : D) (p : PyData), py d = some p → p.hasDict = false := by
  intro d
  refine D.rec (motive_1 := fun d => ∀ p, py d = some p → p.hasDict = false) (motive_2 := fun l => ∀ ps, pys l = some ps → PyData.hasDictAll ps = false) ?_ ?_ ?_ ?_ ?_ ?_ ?_ ?_ ?_ ?_ ?_ ?_ ?_ d
  · intro p e; simp only [py, Option.some.injEq] at e; subst e; rfl
  · intro b p e; simp only [py, Option.some.injEq] at e; subst e; rfl
  · intro b p e; simp only [py, Option.some.injEq] at e; subst e; rfl
  · intro b p e; simp only [py, Option.some.injEq] at e; subst e; rfl
  · intro b p e; simp [py] at e
  · intro b p e; simp [py] at e
  · intro l ih p e
    simp only [py, Option.map_eq_some_iff] at e
    obtain ⟨ps, e1, rfl⟩ := e
    simp only [PyData.hasDict]
    exact ih ps e1
  · intro l ih p e
    simp only [py, Option.map_eq_some_iff] at e
    obtain ⟨ps, e1, rfl⟩ := e
    simp only [PyData.hasDict]
    exact ih ps e1
  · intro l ih p e
    simp only [py, Option.map_eq_some_iff] at e
    obtain ⟨ps, e1, rfl⟩ := e
    simp only [PyData.hasDict]
    exact ih ps e1
  · intro n p e; simp [py] at e
  · intro ks l ih p e; simp [py] at e
  · intro ps e; simp only [pys, Option.some.injEq] at e; subst e; rfl
  · intro d ds ih1 ih2 ps e
    simp only [pys] at e
    obtain ⟨p, e1, e2⟩ := Option.bind_eq_some_iff.mp e
    obtain ⟨qs, e3, rfl⟩ := Option.map_eq_some_iff.mp e2
    simp only [PyData.hasDictAll, ih1 p e1, ih2 qs e3, Bool.or_false]
theorem der_seq {S : Sto} {d : D} {b : Bool} {l : List D} (e : seqOf S d = some (b, l)) : py (der S d) = (pys l).map (if b = true then PyData.tuple else PyData.list) := by
  cases d <;> simp only [seqOf] at e <;> first
    | (cases e; done)
    | (simp only [Option.some.injEq, Prod.mk.injEq] at e; obtain ⟨rfl, rfl⟩ := e; rfl)
    | skip
  rename_i n
  cases q : S[n]? with
  | none => rw [q] at e; cases e
  | some m =>
    cases m with
    | dct l => rw [q] at e; cases e
    | lst l2 =>
      rw [q] at e
      simp only [Option.some.injEq, Prod.mk.injEq] at e
      obtain ⟨rfl, rfl⟩ := e
      simp only [der, q]
      rfl
theorem call_repr (hK : X.K = F.K) (hg : X.A.guards = some []) (hu : X.A.units + 64 < cLine) : CallR X (.builtin "repr") (rBf F .repr) := by
  intro pins s st H xs us Q I rs h
  obtain ⟨io, S, ds, d, so, r, e, k⟩ := h
  match ds, e with
  | [], e => simp [bfun] at e
  | _ :: _ :: _, e => simp [bfun] at e
  | [d0], e =>
    simp only [bfun] at e
    split at e
    · rename_i p es
      obtain ⟨b, l⟩ := p
      obtain ⟨v, rfl, rv⟩ := r.one
      obtain ⟨a, zs, rfl, _, _⟩ := seq_of so es rv
      unfold shw at e
      split at e
      · rename_i q ep
        split at e
        · rename_i hc
          cases e
          have dp : Dp X.K H (.ref a) q := by rw [hK]; exact der_dp so ep rv
          cases rs with
          | cons r1 r2 =>
            cases r2
            obtain rfl := r1
            obtain ⟨as, rd⟩ := Dp.reads I q _ _ dp rfl
            have nd : q.hasDict = false := by
              rw [der_seq es] at ep
              obtain ⟨ps, e1, rfl⟩ := Option.map_eq_some_iff.mp ep
              have := pys_noDict (.lst l) (.list ps) (by simp only [py, e1, Option.map_some])
              cases b <;> (simp only [PyData.hasDict] at this ⊢; exact this)
            refine repr_of_reads' rd hc.1 (PyData.noDict_hsm nd) hg (by have := hc.2.2; omega) (fun _ _ z => z) (fun h' u tk hk => ?_) hc.2.1
            exact ⟨.str q.shown, H, I.kept hk, ⟨u, rfl⟩, k io H _ (Grow.refl _ _) so (.str _)⟩
        · cases e
      · cases e
    · split at e
      · rename_i b _
        cases e
        obtain ⟨v, rfl, rv⟩ := r.one
        cases rv
        cases rs with
        | cons r1 r2 =>
          cases r2
          obtain rfl := r1
          refine P.repr_of_bool ?_
          exact ⟨.str (if b then "True" else "False"), H, I.kept (fun _ _ z => z), ⟨_, rfl⟩, k io H _ (Grow.refl _ _) so (.str _)⟩
      · cases e
theorem call_strI : CallR X (.type "str") (rBf F .str) := by
  intro pins s st H xs us Q I rs h
  obtain ⟨io, S, ds, d, so, r, e, k⟩ := h
  match ds, e with
  | [], e => simp [bfun] at e
  | _ :: _ :: _, e => simp [bfun] at e
  | [d0], e =>
    cases d0 with
    | int i =>
      simp only [bfun] at e
      split at e
      · rename_i hc
        cases e
        obtain ⟨v, rfl, rv⟩ := r.one
        cases rv
        cases rs with
        | cons r1 r2 =>
          cases r2
          obtain ⟨u, rfl⟩ := r1
          refine P.str_of_int hc ?_
          exact ⟨.str (Str.ofString (toString i)), H, I.kept (fun _ _ z => z), ⟨_, rfl⟩, k io H _ (Grow.refl _ _) so (.str _)⟩
      · cases e
    | _ => simp [bfun] at e
theorem tyX_of {io : List Addr} {H : Hp} {S : Sto} {d : D} {v : V} {t : String} (so : StOK F io H S) (e : tyn S d = some t) (r : Rep F io H d v) : TyX F.K H v (.type t) := by
  cases d <;> simp only [tyn, Option.some.injEq] at e
  · subst e; cases r; exact .base .non
  · subst e; cases r; exact .base (.bl _)
  · subst e; cases r; exact .base (.int _)
  · subst e; cases r; exact .base (.str _)
  · cases e
  · cases e
  · subst e
    cases r with
    | tup s r =>
      rcases s with (s | ⟨o, s⟩) | ⟨o, its, n, h1, h2, _⟩
      · exact .base (.tup s)
      · exact .fTuple s
      · exact .kTuple h1 h2
  · subst e
    cases r with
    | lst n m s r => exact .base (.lst s)
  · subst e
    cases r with
    | rlsF s r => exact .base (.frz s)
    | rlsK s r =>
      obtain ⟨o, its, n, h1, h2, _⟩ := s
      exact .kList h1 h2
  · rename_i n
    cases r with
    | ref h =>
      cases q : S[n]? with
      | none => rw [q] at e; cases e
      | some m =>
        rw [q] at e
        have mo := so.at_ n _ m h q
        cases m with
        | lst l =>
          cases e
          obtain ⟨xs, h1, _⟩ := mo
          exact .base (.lst h1)
        | dct l =>
          cases e
          obtain ⟨xs, h1, _⟩ := mo
          exact .base (.dK h1)
  · cases e
theorem bls_ok {io : List Addr} {H : Hp} : ∀ {l : List D} {xs : List V} {bs : List Bool}, Reps F io H l xs → bls l = some bs → xs = bs.map V.bl
  | _, _, _, .nil, e => by simp only [bls, Option.some.injEq] at e; subst e; rfl
  | _, _, _, .cons (d := d) r t, e => by
    simp only [bls] at e
    obtain ⟨b, e1, e2⟩ := Option.bind_eq_some_iff.mp e
    obtain ⟨bs, e3, rfl⟩ := Option.map_eq_some_iff.mp e2
    have ih := bls_ok t e3
    cases d <;> simp only [toBl, Option.some.injEq] at e1 <;> first
      | (cases e1; done)
      | (subst e1; cases r; rw [ih]; rfl)
/-- a built-in's value -/
def bfv : Bf → Value
  | .int => .type "int"
  | .tuple => .type "tuple"
  | .list => .type "list"
  | .str => .type "str"
  | .sorted => .builtin "sorted"
  | .len => .builtin "len"
  | .isinstance => .builtin "isinstance"
  | .abs => .builtin "abs"
  | .max => .builtin "max"
  | .min => .builtin "min"
  | .repr => .builtin "repr"
  | .divmod => .builtin "divmod"
  | .all => .builtin "all"
theorem CallRno {f : Value} {r : List V → Hp → VK → Prop} (k : ∀ x H Q, ¬ r x H Q) : CallR X f r := fun pins s st H x v Q I rx q => (k _ _ _ q).elim
theorem len_one {α : Type} {l : List α} (h : l.length = 1) : ∃ a, l = [a] := by
  match l, h with
  | [a], _ => exact ⟨a, rfl⟩
theorem len_two {α : Type} {l : List α} (h : l.length = 2) : ∃ a b, l = [a, b] := by
  match l, h with
  | [a, b], _ => exact ⟨a, b, rfl⟩
theorem ints_ok {io : List Addr} {H : Hp} : ∀ {l : List D} {zs : List V} {ns : List Int}, Reps F io H l zs → toInts l = some ns → zs = ns.map V.int
  | _, _, ns, .nil, e => by simp only [toInts, Option.some.injEq] at e; subst e; rfl
  | _, _, ns, .cons r t, e => by
    simp only [toInts] at e
    obtain ⟨i, e1, e2⟩ := Option.bind_eq_some_iff.mp e
    obtain ⟨ns', e3, rfl⟩ := Option.map_eq_some_iff.mp e2
    rename_i d _ _ _
    cases d <;> simp only [toInt] at e1 <;> try (cases e1; done)
    cases e1
    cases r
    rw [ints_ok t e3, List.map_cons]
theorem mx_fold : ∀ (r : List Int) (x : Int), (r.foldl (fun a b => if b > a then b else a) x = x ∨ r.foldl (fun a b => if b > a then b else a) x ∈ r) ∧ x ≤ r.foldl (fun a b => if b > a then b else a) x ∧ ∀ y ∈ r, y ≤ r.foldl (fun a b => if b > a then b else a) x
  | [], x => ⟨.inl rfl, Int.le_refl _, fun y hy => by cases hy⟩
  | z :: r, x => by
    have ih := mx_fold r (if z > x then z else x)
    simp only [List.foldl_cons]
    obtain ⟨h1, h2, h3⟩ := ih
    refine ⟨?_, ?_, fun y hy => ?_⟩
    · rcases h1 with h1 | h1
      · by_cases hz : z > x
        · rw [if_pos hz] at h1
          rw [if_pos hz, h1]
          exact .inr List.mem_cons_self
        · rw [if_neg hz] at h1
          rw [if_neg hz, h1]
          exact .inl rfl
      · exact .inr (List.mem_cons_of_mem _ h1)
    · split at h2 <;> split <;> omega
    · rcases List.mem_cons.mp hy with rfl | hy
      · split at h2 <;> split <;> omega
      · exact h3 y hy
theorem mn_fold : ∀ (r : List Int) (x : Int), (r.foldl (fun a b => if b < a then b else a) x = x ∨ r.foldl (fun a b => if b < a then b else a) x ∈ r) ∧ r.foldl (fun a b => if b < a then b else a) x ≤ x ∧ ∀ y ∈ r, r.foldl (fun a b => if b < a then b else a) x ≤ y
  | [], x => ⟨.inl rfl, Int.le_refl _, fun y hy => by cases hy⟩
  | z :: r, x => by
    have ih := mn_fold r (if z < x then z else x)
    simp only [List.foldl_cons]
    obtain ⟨h1, h2, h3⟩ := ih
    refine ⟨?_, ?_, fun y hy => ?_⟩
    · rcases h1 with h1 | h1
      · by_cases hz : z < x
        · rw [if_pos hz] at h1
          rw [if_pos hz, h1]
          exact .inr List.mem_cons_self
        · rw [if_neg hz] at h1
          rw [if_neg hz, h1]
          exact .inl rfl
      · exact .inr (List.mem_cons_of_mem _ h1)
    · split at h2 <;> split <;> omega
    · rcases List.mem_cons.mp hy with rfl | hy
      · split at h2 <;> split <;> omega
      · exact h3 y hy
theorem mxI_ok {ns : List Int} {m : Int} (h : mxI ns = some m) : 0 < ns.length ∧ m ∈ ns ∧ ∀ y ∈ ns, y ≤ m := by
  cases ns with
  | nil => cases h
  | cons x r =>
    simp only [mxI, Option.some.injEq] at h
    subst h
    obtain ⟨h1, h2, h3⟩ := mx_fold r x
    refine ⟨by simp, ?_, fun y hy => ?_⟩
    · rcases h1 with h1 | h1
      · rw [h1]
        exact List.mem_cons_self
      · exact List.mem_cons_of_mem _ h1
    · rcases List.mem_cons.mp hy with rfl | hy
      · exact h2
      · exact h3 y hy
theorem mnI_ok {ns : List Int} {m : Int} (h : mnI ns = some m) : 0 < ns.length ∧ m ∈ ns ∧ ∀ y ∈ ns, m ≤ y := by
  cases ns with
  | nil => cases h
  | cons x r =>
    simp only [mnI, Option.some.injEq] at h
    subst h
    obtain ⟨h1, h2, h3⟩ := mn_fold r x
    refine ⟨by simp, ?_, fun y hy => ?_⟩
    · rcases h1 with h1 | h1
      · rw [h1]
        exact List.mem_cons_self
      · exact List.mem_cons_of_mem _ h1
    · rcases List.mem_cons.mp hy with rfl | hy
      · exact h2
      · exact h3 y hy
theorem reps_ints {F : Fx} {io : List Addr} {H : Hp} : ∀ l : List Int, Reps F io H (l.map D.int) (l.map V.int)
  | [] => .nil
  | x :: l => .cons (.int x) (reps_ints l)
theorem keyI_ok : ∀ {ks : List Key} {ns : List Int}, keyI ks = some ns → ks = ns.map Sum.inl
  | [], ns, h => by simp only [keyI, Option.some.injEq] at h; subst h; rfl
  | .inl i :: r, ns, h => by
    simp only [keyI] at h
    obtain ⟨m, h1, rfl⟩ := Option.map_eq_some_iff.mp h
    rw [keyI_ok h1]
    rfl
  | .inr _ :: _, ns, h => by cases h
theorem callB (hK : X.K = F.K) (hc : X.calm = true) (hg : X.A.guards = some []) (hu : X.A.units + 64 < cLine) (f : Bf) : CallR X (bfv f) (rBf F f) := by
  cases f with
  | repr => exact call_repr hK hg hu
  | str => exact call_strI
  | len =>
    refine CallRw (call_len_str.or call_len_seq) fun x H Q q => ?_
    obtain ⟨io, S, ds, d, so, r, e, k⟩ := q
    match ds, e with
    | [], e => simp [bfun] at e
    | _ :: _ :: _, e => simp [bfun] at e
    | [d0], e =>
      obtain ⟨v, rfl, rv⟩ := r.one
      have seqc : ∀ p, seqOf S d0 = some p → d = .int p.2.length → (∃ p ys, [v] = [V.ref p] ∧ (SqL X.K H p ys ∨ SqT X.K H p ys) ∧ Q (.int ys.length) H) := by
        intro p es ed
        obtain ⟨b, l⟩ := p
        obtain ⟨a, zs, rfl, r2, q2⟩ := seq_of so es rv
        refine ⟨a, zs, rfl, ?_, ?_⟩
        · rw [hK]
          rcases q2 with ⟨_, q2⟩ | ⟨_, q2⟩
          · exact .inr q2
          · exact .inl q2
        · subst ed
          rw [show (l, l).2.length = zs.length from r2.len] at k
          exact k io H _ (Grow.refl _ _) so (.int _)
      cases d0 with
      | str z =>
        simp only [bfun] at e
        split at e
        · rename_i hz
          cases e
          cases rv
          exact .inl ⟨z, rfl, hz, k io H _ (Grow.refl _ _) so (.int _)⟩
        · cases e
      | _ =>
        simp only [bfun, Option.map_eq_some_iff] at e
        obtain ⟨p, es, ed⟩ := e
        exact .inr (seqc p es ed.symm)
  | isinstance =>
    refine CallRw call_isi fun x H Q q => ?_
    obtain ⟨io, S, ds, d, so, r, e, k⟩ := q
    match ds, e with
    | [], e => simp [bfun] at e
    | [_], e => simp [bfun] at e
    | _ :: _ :: _ :: _, e => simp [bfun] at e
    | [d0, d1], e =>
      cases d1 <;> simp only [bfun] at e <;> try (cases e; done)
      rename_i n
      obtain ⟨t, e1, e2⟩ := Option.bind_eq_some_iff.mp e
      obtain ⟨b, e3, rfl⟩ := Option.map_eq_some_iff.mp e2
      obtain ⟨v, u, rfl, rv, ru⟩ := r.two
      cases ru
      exact ⟨v, .ty n, .type t, .type n, b, rfl, .ty n, by rw [hK]; exact tyX_of so e1 rv, kit_ty e3, k io H _ (Grow.refl _ _) so (.bl _)⟩
  | int =>
    refine CallRw call_int1 fun x H Q q => ?_
    obtain ⟨io, S, ds, d, so, r, e, k⟩ := q
    match ds, e with
    | [], e => simp [bfun] at e
    | _ :: _ :: _, e => simp [bfun] at e
    | [d0], e =>
      obtain ⟨v, rfl, rv⟩ := r.one
      cases d0 <;> simp only [bfun, Option.some.injEq] at e <;> try (cases e; done)
      · subst e; cases rv; exact .inr ⟨_, rfl, k io H _ (Grow.refl _ _) so (.int _)⟩
      · subst e; cases rv; exact .inl ⟨_, rfl, k io H _ (Grow.refl _ _) so (.int _)⟩
  | abs =>
    refine CallRw call_abs fun x H Q q => ?_
    obtain ⟨io, S, ds, d, so, r, e, k⟩ := q
    match ds, e with
    | [], e => simp [bfun] at e
    | _ :: _ :: _, e => simp [bfun] at e
    | [d0], e =>
      obtain ⟨v, rfl, rv⟩ := r.one
      cases d0 <;> simp only [bfun, Option.some.injEq] at e <;> try (cases e; done)
      subst e; cases rv; exact ⟨_, rfl, k io H _ (Grow.refl _ _) so (.int _)⟩
  | max =>
    refine CallRw ((call_max2 hc).or (cr_max hc)) fun x H Q q => ?_
    obtain ⟨io, S, ds, d, so, r, e, k⟩ := q
    match ds, e with
    | [], e => simp [bfun] at e
    | [d0], e =>
      right
      obtain ⟨v, rfl, rv⟩ := r.one
      simp only [bfun] at e
      split at e
      · rename_i l es
        obtain ⟨ns, e1, e2⟩ := Option.bind_eq_some_iff.mp e
        obtain ⟨m, e3, rfl⟩ := Option.map_eq_some_iff.mp e2
        obtain ⟨a, zs, rfl, r2, q2⟩ := seq_of so es rv
        rcases q2 with ⟨z, _⟩ | ⟨_, q2⟩
        · cases z
        · obtain ⟨h0, h1, h2⟩ := mxI_ok e3
          refine ⟨a, ns, rfl, by rw [hK, ← ints_ok r2 e1]; exact q2, h0, fun m' h3 h4 => ?_⟩
          have em : m' = m := Int.le_antisymm (h2 _ h3) (h4 _ h1)
          rw [em]
          exact k io H _ (Grow.refl _ _) so (.int _)
      · cases e
    | _ :: _ :: _ :: _, e => simp [bfun] at e
    | [d0, d1], e =>
      obtain ⟨v, u, rfl, rv, ru⟩ := r.two
      cases d0 <;> cases d1 <;> simp only [bfun, Option.some.injEq] at e <;> try (cases e; done)
      subst e; cases rv; cases ru; exact .inl ⟨_, _, rfl, k io H _ (Grow.refl _ _) so (.int _)⟩
  | min =>
    refine CallRw ((call_min2 hc).or (cr_min hc)) fun x H Q q => ?_
    obtain ⟨io, S, ds, d, so, r, e, k⟩ := q
    match ds, e with
    | [], e => simp [bfun] at e
    | [d0], e =>
      right
      obtain ⟨v, rfl, rv⟩ := r.one
      simp only [bfun] at e
      split at e
      · rename_i l es
        obtain ⟨ns, e1, e2⟩ := Option.bind_eq_some_iff.mp e
        obtain ⟨m, e3, rfl⟩ := Option.map_eq_some_iff.mp e2
        obtain ⟨a, zs, rfl, r2, q2⟩ := seq_of so es rv
        rcases q2 with ⟨z, _⟩ | ⟨_, q2⟩
        · cases z
        · obtain ⟨h0, h1, h2⟩ := mnI_ok e3
          refine ⟨a, ns, rfl, by rw [hK, ← ints_ok r2 e1]; exact q2, h0, fun m' h3 h4 => ?_⟩
          have em : m' = m := Int.le_antisymm (h4 _ h1) (h2 _ h3)
          rw [em]
          exact k io H _ (Grow.refl _ _) so (.int _)
      · cases e
    | _ :: _ :: _ :: _, e => simp [bfun] at e
    | [d0, d1], e =>
      obtain ⟨v, u, rfl, rv, ru⟩ := r.two
      cases d0 <;> cases d1 <;> simp only [bfun, Option.some.injEq] at e <;> try (cases e; done)
      subst e; cases rv; cases ru; exact .inl ⟨_, _, rfl, k io H _ (Grow.refl _ _) so (.int _)⟩
  | divmod =>
    refine CallRw call_divmod fun x H Q q => ?_
    obtain ⟨io, S, ds, d, so, r, e, k⟩ := q
    match ds, e with
    | [], e => simp [bfun] at e
    | [_], e => simp [bfun] at e
    | _ :: _ :: _ :: _, e => simp [bfun] at e
    | [d0, d1], e =>
      obtain ⟨v, u, rfl, rv, ru⟩ := r.two
      cases d0 <;> cases d1 <;> simp only [bfun] at e <;> try (cases e; done)
      split at e
      · rename_i hz
        cases e
        cases rv; cases ru
        exact ⟨_, _, rfl, hz, fun p hp => k io _ _ (grow_new so hp _) (so.new hp _) (.tup (.inl (.inl upd_same)) (.cons (.int _) (.cons (.int _) .nil)))⟩
      · cases e
  | all =>
    refine CallRw (cr_all hc) fun x H Q q => ?_
    obtain ⟨io, S, ds, d, so, r, e, k⟩ := q
    match ds, e with
    | [], e => simp [bfun] at e
    | _ :: _ :: _, e => simp [bfun] at e
    | [d0], e =>
      obtain ⟨v, rfl, rv⟩ := r.one
      simp only [bfun] at e
      split at e
      · rename_i l es
        obtain ⟨bs, e1, rfl⟩ := Option.map_eq_some_iff.mp e
        obtain ⟨a, zs, rfl, r2, q2⟩ := seq_of so es rv
        rcases q2 with ⟨z, _⟩ | ⟨_, q2⟩
        · cases z
        · exact ⟨a, bs, rfl, by rw [hK, ← bls_ok r2 e1]; exact q2, k io H _ (Grow.refl _ _) so (.bl _)⟩
      · cases e
  | tuple =>
    refine CallRw call_tuple_of fun x H Q q => ?_
    obtain ⟨io, S, ds, d, so, r, e, k⟩ := q
    match ds, e with
    | [], e => simp [bfun] at e
    | _ :: _ :: _, e => simp [bfun] at e
    | [d0], e =>
      obtain ⟨v, rfl, rv⟩ := r.one
      simp only [bfun, Option.map_eq_some_iff] at e
      obtain ⟨⟨b, l⟩, es, rfl⟩ := e
      obtain ⟨a, zs, rfl, r2, q2⟩ := seq_of so es rv
      refine ⟨a, zs, rfl, ?_⟩
      rcases q2 with ⟨_, q2⟩ | ⟨_, q2⟩
      · exact .inr ⟨by rw [hK]; exact q2, k io H _ (Grow.refl _ _) so (.tup q2 r2)⟩
      · exact .inl ⟨by rw [hK]; exact q2, fun p hp => k io _ _ (grow_new so hp _) (so.new hp _) (.tup (.inl (.inl upd_same)) (r2.up (grow_new so hp _)))⟩
  | sorted =>
    refine CallRw ((call_sortedDI hc).or cr_sortedI) fun x H Q q => ?_
    obtain ⟨io, S, ds, d, so, r, e, k⟩ := q
    match ds, e with
    | [], e => simp [bfun] at e
    | _ :: _ :: _, e => simp [bfun] at e
    | [d0], e =>
      obtain ⟨v, rfl, rv⟩ := r.one
      simp only [bfun] at e
      split at e
      case' h_2 => cases e
      rename_i ns es
      split at e
      case' isFalse => cases e
      rename_i h64
      cases e
      have fin : ∀ p, H p = none → Q (.ref p) (upd H p (.lst ((isort ns).map V.int))) := fun p hp =>
        k io _ _ (grow_new so hp _) (so.new hp _) (.lst (so.fresh hp) (so.nlk hp) upd_same (reps_ints _))
      have lst : ∀ (l : List D) (a : Addr) (zs : List V), v = .ref a → toInts l = some ns → Reps F io H l zs → SqL F.K H a zs → rSortedI X.K [v] H Q := fun l a zs ev et rl hs =>
        ⟨a, ns, by rw [ev], by rw [hK, ← ints_ok rl et]; exact hs, fun ns' p h1 h2 hp => by rw [isort_of h1 h2]; exact fin p hp⟩
      cases d0 <;> simp only [srtOf] at es <;> try (cases es; done)
      · rename_i l
        obtain ⟨a, zs, ev, r2, q2⟩ := seq_of so (d := .lst l) rfl rv
        rcases q2 with ⟨z, _⟩ | ⟨_, q2⟩
        · cases z
        · exact .inr (lst l a zs ev es r2 q2)
      · rename_i n
        split at es
        · rename_i kvs q
          cases rv with
          | ref h =>
            obtain ⟨ys, h1, h2, h3⟩ := so.at_ n _ _ h q
            exact .inl ⟨_, ys, ns, rfl, .inl h1, by rw [h2]; exact keyI_ok es, h64, fun zs p p1 p2 hp => by rw [isort_of p1 p2]; exact fin p hp⟩
        · rename_i l q
          have e2 : seqOf S (.ref n) = some (false, l) := by simp only [seqOf, q]
          obtain ⟨a, zs, ev, r2, q2⟩ := seq_of so e2 rv
          rcases q2 with ⟨z, _⟩ | ⟨_, q2⟩
          · cases z
          · exact .inr (lst l a zs ev es r2 q2)
        · cases es
  | list =>
    refine CallRw call_list_of fun x H Q q => ?_
    obtain ⟨io, S, ds, d, so, r, e, k⟩ := q
    match ds, e with
    | [], e => simp [bfun] at e
    | _ :: _ :: _, e => simp [bfun] at e
    | [d0], e =>
      obtain ⟨v, rfl, rv⟩ := r.one
      simp only [bfun, Option.map_eq_some_iff] at e
      obtain ⟨⟨b, l⟩, es, rfl⟩ := e
      obtain ⟨a, zs, rfl, r2, q2⟩ := seq_of so es rv
      refine ⟨a, zs, rfl, ?_, fun p hp => k io _ _ (grow_new so hp _) (so.new hp _) (.lst (so.fresh hp) (so.nlk hp) upd_same (r2.up (grow_new so hp _)))⟩
      rw [hK]
      rcases q2 with ⟨_, q2⟩ | ⟨_, q2⟩
      · exact .inr q2
      · exact .inl q2
end

/-! ### items, slices -/
section
variable {X : Cx} {F : Fx}
def rIxE (F : Fx) : R2 := fun x y H Q => ∃ io S a b d, StOK F io H S ∧ Rep F io H a x ∧ Rep F io H b y ∧ ixf S a b = some d ∧ ∀ io' H' v, Grow F io H io' H' → StOK F io' H' S → Rep F io' H' d v → Q v H'
theorem look_ok {io : List Addr} {H : Hp} {x : Key} {d : D} : ∀ {kvs : List (Key × D)} {ys : List (Key × V)}, ys.map (·.1) = kvs.map (·.1) → Reps F io H (kvs.map (·.2)) (ys.map (·.2)) → look x kvs = some d → ∃ v, valV ys x = some v ∧ Rep F io H d v
  | [], _, _, _, e => by simp [look] at e
  | (k, e0) :: r, [], h, _, _ => by simp at h
  | (k, e0) :: r, (k2, v) :: ys, h, hr, e => by
    simp only [List.map_cons, List.cons.injEq] at h
    obtain ⟨h1, h2⟩ := h
    simp only [List.map_cons] at hr
    cases hr with
    | cons ra rb =>
      simp only [look] at e
      unfold valV
      rw [List.find?_cons]
      by_cases q : k = x
      · rw [if_pos q] at e
        cases e
        have : decide (k2 = x) = true := by rw [h1, q]; simp
        simp only [this]
        exact ⟨v, rfl, ra⟩
      · rw [if_neg q] at e
        have : decide (k2 = x) = false := by
          rw [h1]
          exact decide_eq_false q
        simp only [this]
        exact look_ok h2 rb e
theorem atI_map {io : List Addr} {H : Hp} {l : List D} {xs : List V} {i : Int} {d : D} (r : Reps F io H l xs) (e : atI l i = some d) : ∃ v, atI xs i = some v ∧ Rep F io H d v := by
  unfold atI at e ⊢
  obtain ⟨j, e1, e2⟩ := Option.bind_eq_some_iff.mp e
  obtain ⟨v, h1, h2⟩ := r.get e2
  exact ⟨v, by rw [← r.len, e1]; exact h1, h2⟩
theorem ix_dct (hu : X.A.units + 1 < cLine) : IxR X (fun x y H Q => ∃ a v, x = .ref a ∧ DGet H a y (some v) ∧ Q v H) := by
  intro value slice pins s st H x y v u Q I rx ry h hs
  obtain ⟨a, z, rfl, g, q⟩ := h
  obtain rfl : v = Value.ref a := rx
  exact tail_any (dict_typeIs I g) PySem.F.slot_dict_getitem.lookup (d_getItem hu I g ry fun w' s3 I3 rw' => ⟨z, H, I3, rw', q⟩) hs
theorem lookW_get : ∀ {ks : List Str} {ds : List D} {x : Str} {d : D}, lookW x ks ds = some d → ∃ i : Nat, ks[i]? = some x ∧ ds[i]? = some d
  | [], _, x, d, h => by simp [lookW] at h
  | _ :: _, [], x, d, h => by simp [lookW] at h
  | k :: ks, e :: ds, x, d, h => by
    simp only [lookW] at h
    split at h
    · rename_i q
      cases h
      exact ⟨0, by simp [q], rfl⟩
    · obtain ⟨i, h1, h2⟩ := lookW_get h
      exact ⟨i + 1, by simpa using h1, by simpa using h2⟩
theorem ixE (hK : X.K = F.K) (hw : X.w = F.w) (hu : X.A.units + 1 < cLine) : IxR X (rIxE F) := by
  refine IxRw ((ix_seq.or (ix_dct hu)).or ix_kdict) fun x y H Q q => ?_
  obtain ⟨io, S, a, b, d, so, ra, rb, e, k⟩ := q
  have seqc : ∀ i, b = .int i → ((seqOf S a).bind fun p => atD p.2 i) = some d → rIx X.K x y H Q := by
    intro i eb e9
    subst eb
    cases rb
    obtain ⟨⟨t, l⟩, es, e2⟩ := Option.bind_eq_some_iff.mp e9
    obtain ⟨p, zs, rfl, r2, q2⟩ := seq_of so es ra
    obtain ⟨v, h1, h2⟩ := atI_map r2 e2
    have fin := k io H v (Grow.refl _ _) so h2
    rcases q2 with ⟨_, q2⟩ | ⟨_, q2⟩
    · exact .inr (.inl ⟨p, zs, i, v, rfl, rfl, by rw [hK]; exact q2, h1, fin⟩)
    · exact .inl ⟨p, zs, i, v, rfl, rfl, by rw [hK]; exact q2, h1, fin⟩
  cases b with
  | int i =>
    cases a with
    | str z =>
      simp only [ixf] at e
      split at e
      · rename_i hz
        obtain ⟨c, e1, rfl⟩ := Option.map_eq_some_iff.mp e
        cases ra; cases rb
        exact .inl (.inl (.inr (.inr ⟨z, i, c, rfl, rfl, hz, e1, k io H _ (Grow.refl _ _) so (.str _)⟩)))
      · cases e
    | wd ks vs => simp [ixf, seqOf] at e
    | ref n =>
      simp only [ixf] at e
      split at e
      · rename_i kvs es
        cases ra with
        | ref h =>
          cases rb
          obtain ⟨ys, h1, h2, h3⟩ := so.at_ n _ _ h es
          obtain ⟨v, g1, g2⟩ := look_ok h2 h3 e
          exact .inl (.inr ⟨_, v, rfl, by rw [← g1]; exact DGet.k (k := Sum.inl i) h1, k io H v (Grow.refl _ _) so g2⟩)
      · rename_i l es
        exact .inl (.inl (seqc i rfl (by simp only [seqOf, es, Option.bind_some]; exact e)))
      · cases e
    | _ => exact .inl (.inl (seqc i rfl (by simpa only [ixf] using e)))
  | str z =>
    cases a <;> simp only [ixf] at e <;> try (cases e; done)
    · rename_i n
      cases ra with
      | ref h =>
        cases rb
        split at e
        · rename_i kvs es
          obtain ⟨ys, h1, h2, h3⟩ := so.at_ n _ _ h es
          obtain ⟨v, g1, g2⟩ := look_ok h2 h3 e
          exact .inl (.inr ⟨_, v, rfl, by rw [← g1]; exact DGet.k (k := Sum.inr z) h1, k io H v (Grow.refl _ _) so g2⟩)
        · cases e
    · rename_i ks vs
      cases ra with
      | wd kd wv r =>
        cases rb
        obtain ⟨i, h1, h2⟩ := lookW_get e
        obtain ⟨v, g1, g2⟩ := r.get h2
        obtain ⟨u', e1, r1⟩ := wv.2.1 i z v h1 g1
        exact .inr ⟨_, z, v, rfl, rfl, ⟨_, _, u', by rw [hK]; exact kd.at_, by rw [hw]; exact kd.lit, by rw [hK]; exact e1, r1⟩, k io H v (Grow.refl _ _) so g2⟩
  | _ => cases a <;> simp [ixf] at e
def rSlE (F : Fx) : V → Option Int → Option Int → Hp → VK → Prop := fun x lo hi H Q => ∃ io S a d, StOK F io H S ∧ Rep F io H a x ∧ slf S a lo hi = some d ∧ ∀ io' H' v, Grow F io H io' H' → StOK F io' H' S → Rep F io' H' d v → Q v H'
theorem Reps.cut {io : List Addr} {H : Hp} {l : List D} {xs : List V} (r : Reps F io H l xs) (lo hi : Option Int) : Reps F io H (cutD l lo hi) (cutV xs lo hi) := by
  unfold cutD cutV
  rw [r.len]
  exact (r.drop _).take _
theorem cut_whole {l : List V} {lo hi : Option Int} (h : HT.sIx l.length 0 lo = 0 ∧ HT.sIx l.length l.length hi = l.length) : cutV l lo hi = l := by
  unfold cutV
  rw [h.1, h.2]
  simp
theorem slE (hK : X.K = F.K) : SlR X (rSlE F) := by
  refine SlRw (sl_str.or (sl_tupA.or sl_list)) fun x lo hi H Q q => ?_
  obtain ⟨io, S, a, d, so, ra, e, k⟩ := q
  have seqc : ∀ t l, seqOf S a = some (t, l) → (d = if t = true then D.tup (cutD l lo hi) else D.lst (cutD l lo hi)) → (rSlA X.K x lo hi H Q ∨ rSlL X.K x lo hi H Q) := by
    intro t l es ed
    obtain ⟨p, zs, rfl, r2, q2⟩ := seq_of so es ra
    rcases q2 with ⟨rfl, q2⟩ | ⟨rfl, q2⟩
    · rw [if_pos rfl] at ed
      subst ed
      refine .inl ⟨p, zs, rfl, by rw [hK]; exact q2, fun hw => ?_, fun _ p' hp => ?_⟩
      · have rc := r2.cut lo hi
        rw [cut_whole hw] at rc
        exact k io H _ (Grow.refl _ _) so (.tup q2 rc)
      · exact k io _ _ (grow_new so hp _) (so.new hp _) (.tup (.inl (.inl upd_same)) ((r2.cut lo hi).up (grow_new so hp _)))
    · rw [if_neg (by decide)] at ed
      subst ed
      refine .inr ⟨p, zs, rfl, by rw [hK]; exact q2, fun p' hp => ?_⟩
      exact k io _ _ (grow_new so hp _) (so.new hp _) (.lst (so.fresh hp) (so.nlk hp) upd_same ((r2.cut lo hi).up (grow_new so hp _)))
  cases a with
  | str z =>
    simp only [slf] at e
    split at e
    · rename_i hz
      cases e
      cases ra
      exact .inl ⟨z, rfl, hz, k io H _ (Grow.refl _ _) so (.str _)⟩
    · cases e
  | _ =>
    simp only [slf] at e
    refine .inr ?_
    split at e
    · rename_i l es
      cases e
      exact seqc true l es rfl
    · rename_i l es
      cases e
      exact seqc false l es rfl
    · cases e
end
end Ev

namespace Ev
open PySem PySem.Spec PyProof.Rows L2
/-! ### what a def promises where nothing is being shown (repr asks that) -/
abbrev SpG := List V → Hp → VK → Prop
structure FnG (P : Program) (w : World) (K : PySem.W.Frag) (mg : Str → Option Value) (base : Heap) (k : Nat) (f : Addr) (fd : FuncData) (ps : List Str) (sp : SpG) : Prop where
  len : ∀ vs H Q, sp vs H Q → vs.length = ps.length
  run : ∀ (ar : Around) (outs : List Env) (sh : Shared) (H : Hp) (args : Args) (us : List Value) (vs : List V) (Q : VK), Room k ar → ar.guards = some [] → Env0 P w K mg base ar outs sh H →
    BindsTo sh fd args (ps.zip us) → Vals vs us → sp vs H Q → codeAny (model P w) ar (.call (.ref f) args) (CR CX0 outs P w H sh Q E0) sh
section
variable {P : Program} {w : World} {K : PySem.W.Frag} {mg : Str → Option Value} {base : Heap} {k : Nat} {f : Addr} {fd : FuncData} {ps : List Str} {sp sp' : SpG}
theorem FnG.weak (G : FnG P w K mg base k f fd ps sp) (h : ∀ vs H Q, sp' vs H Q → sp vs H Q) : FnG P w K mg base k f fd ps sp' :=
  ⟨fun vs H Q q => G.len vs H Q (h _ _ _ q), fun ar outs sh H args us vs Q r g e b v q => G.run ar outs sh H args us vs Q r g e b v (h _ _ _ q)⟩
/-- from the body -/
theorem FnG.of {x qual : Str} {params : Arguments} {body : List Stmt} {scope : Scope} {dvs : List V} {kws : List (Str × V)} {N : List Str} (T : FunD K x qual params body scope dvs kws f fd) (S : FnScope N ps scope)
    (len : ∀ vs H Q, sp vs H Q → vs.length = ps.length)
    (hb : ∀ (cdv : Value), fd.code = cdv → ∀ (ar : Around) (outs : List Env) (sh : Shared) (H : Hp) (vs : List V) (Q : VK), ar.guards = some [] → Room k (ar.deeper (envOfC qual scope sh.heap.objs.size f cdv)) → sp vs H Q →
      ∃ t, PSs (cxOf CX0 P w K mg base N qual scope f cdv ar outs sh H E0) body t ∧ t { nx := fun _ H' => Q .non H', rt := Q } (start N vs) H) : FnG P w K mg base (k + 1) f fd ps sp := by
  obtain ⟨oc, od, dV, kV, doc, pm, an, cdv, ct, osl, efd, look, hcode, _, _⟩ := T.ex
  subst efd
  constructor
  · exact len
  intro ar outs sh H args us vs Q room gd e0 bnd rel wish
  have hlen := len vs H Q wish
  have inK : K.In sh.heap := e0.mod.kin.keeps fun b o hb => (e0.bs b o hb).1
  have noLim : sh.heap.NoLimit := e0.mod.nolimit.keeps fun b o hb => (e0.bs b o hb).1
  have kinds : ∀ y ∈ ps.zip us, scope.names.lookup y.1 = some .local ∨ (scope.names.lookup y.1 = some .cell ∧ ((cellsFrom (sh.heap.objs.size + 1) scope.names []).lookup y.1).isSome = true) := by
    rintro ⟨n, v⟩ hy
    cases S.par n (List.of_mem_zip hy).1 with
    | inl q => exact Or.inl q
    | inr q => exact Or.inr ⟨q, PySem.W.cellsFrom_some _ _ _ (Or.inl q)⟩
  refine codeAny_call_function room.depth (inK _ _ look) rfl S.co S.gen rfl (PySem.W.codeRec_of inK hcode) (bnd _ _ _ _ ?_)
  refine wpAny_newFunctionEnv_cells S.kind kinds fun env eenv s2 ic => ?_
  subst eenv
  constructor
  · exact noLim.keeps ic.toInCall.keep
  apply codeAny_func
  obtain ⟨t, pss, ht⟩ := hb cdv rfl ar outs sh H vs Q gd (room.deeper _) wish
  have inv := inv_start (E := E0) (CX := CX0) S room.hd e0 hlen rel ic
  have ran := pss.run [] s2 (start N vs) H _ inv ht
  refine wpAny_mono ran (fun flow sf hf => ?_) fun er sf hf => hf
  cases flow with
  | brk => exact hf.elim fun _ q => q.elim fun _ q => q.2.elim
  | cont => exact hf.elim fun _ q => q.elim fun _ q => q.2.elim
  | next =>
    obtain ⟨st', H', J, q⟩ := hf
    exact ⟨V.non, H', J.os, J.bare, J.base, J.hok, rfl, q⟩
  | ret u =>
    obtain ⟨v, st', H', J, rv, q⟩ := hf
    exact ⟨v, H', J.os, J.bare, J.base, J.hok, rv, q⟩
end
section
variable {X : Cx} {k : Nat} {f : Addr} {fd : FuncData} {ps : List Str} {sp : SpG} {x : Str} {p pos : Pos} {e : Expr} {es : List Expr} {t : TA}
theorem FnG.go {pins : List (Addr × Obj)} {st : L2.St} {H : Hp} {sh : Shared} {Q : VK} {args : Args} {us : List Value} {vs : List V} (G : FnG X.prog X.w X.K X.mg X.base k f fd ps sp) (hr : Room k X.A) (hg : X.A.guards = some []) (I : Inv X pins st H sh)
    (hb : BindsTo sh fd args (ps.zip us)) (r : Vals vs us) (h : sp vs H Q) : codeAny (model X.prog X.w) X.A (.call (.ref f) args) (fun res s' => ∃ u, res = .ok (.ret u) ∧ EP X pins st Q u s') sh := by
  refine codeAny_mono (G.run X.A X.stack sh H args us vs Q hr hg I.env0 hb r h) fun res s' hq => ?_
  match res, hq with
  | .error _, hq => exact hq.elim
  | .ok (.ret u), hq => exact ⟨u, rfl, I.after hq⟩
  | .ok .next, hq => exact hq.elim
  | .ok .brk, hq => exact hq.elim
  | .ok .cont, hq => exact hq.elim
theorem ret_only {Q : Value → Shared → Prop} {Ee : Value → Shared → Prop} {ar : Around} {args : Args} {sh : Shared} {v : Value} {P : Program} {w : World} {us : List Value} {kw : List (Str × Value)}
    (h : codeAny (model P w) ar (.call v ⟨us, kw⟩) (fun res s' => ∃ u, res = .ok (.ret u) ∧ Q u s') sh) : wpAny (model P w) ar (call v us kw) Q Ee sh := by
  refine wpAny_call (codeAny_mono h fun res s' hq => ?_)
  obtain ⟨u, rfl, q⟩ := hq
  exact q
/-- f(e, ..) -/
theorem pe_callG (G : FnG X.prog X.w X.K X.mg X.base k f fd ps sp) (hr : Room k X.A) (hg : X.A.guards = some []) (gl : Gl X x) (hm : X.mg x = some (.ref f)) (hk : PySem.W.keepIn X.K (.ref f) = true) (hb : Binds X.K fd ps [])
    (ha : PA X (e :: es) t) (hdb : (x == ("__debug__" : Str)) = false) (he : starEach (e :: es) X.env = (false, eval e X.env) :: starEach es X.env) (hpl : (backTo pos (starEach es X.env)).any (·.1) = false) :
    PE X (.Call (.Name x p) (e :: es) [] pos) (fun st H Q => t st H fun vs H1 => sp vs H1 Q) := by
  constructor
  intro pins sh st H Q I h
  apply wpAny_Call_Name_kw (ld_glob I gl hm ?_ hdb)
  apply PySem.W.callWith_K (h₀ := X.base) I.ok.mod.kin hk (thn (ha.run pos pins sh st H _ I h) ?_) he hpl
  rintro us s1 ⟨vs, H1, I1, r, q⟩
  refine ⟨I1.kIn, ret_only (args := ⟨us, []⟩) ?_⟩
  have hl : us.length = ps.length := by rw [← r.length]; exact G.len _ _ _ q
  have bb := hb s1 us I1.kIn (by rw [List.append_nil]; exact hl)
  rw [List.append_nil] at bb
  exact G.go hr hg I1 bb r q
/-- f() -/
theorem pe_callG0 (G : FnG X.prog X.w X.K X.mg X.base k f fd ps sp) (hr : Room k X.A) (hg : X.A.guards = some []) (gl : Gl X x) (hm : X.mg x = some (.ref f)) (hk : PySem.W.keepIn X.K (.ref f) = true) (hb : Binds X.K fd ps [])
    (hdb : (x == ("__debug__" : Str)) = false) : PE X (.Call (.Name x p) [] [] pos) (fun st H Q => sp [] H Q) := by
  constructor
  intro pins sh st H Q I q
  apply wpAny_Call_Name_kw (ld_glob I gl hm ?_ hdb)
  apply PySem.W.callWith_K0 I.kIn hk
  refine ret_only (us := []) (args := ⟨[], []⟩) ?_
  have hl : ([] : List Value).length = ps.length := G.len _ _ _ q
  have bb := hb sh [] I.kIn (by rw [List.append_nil]; exact hl)
  rw [List.append_nil] at bb
  exact G.go hr hg I bb .nil q
/-- the keywords in the parameters' order -/
def KwOK (K : PySem.W.Frag) (fd : FuncData) (ps ks : List Str) (ix : List Nat) : Prop :=
  ∀ (sh : Shared) (ws us : List Value), K.In sh.heap → ws.length = ks.length → pickV ix ws = some us → BindsTo sh fd ⟨[], ks.zip ws⟩ (ps.zip us)
theorem pickV_vals : ∀ {ix : List Nat} {vs : List V} {us : List Value} {ys : List V}, Vals vs us → pickV ix vs = some ys → ∃ zs, pickV ix us = some zs ∧ Vals ys zs
  | [], _, _, _, _, e => by simp only [pickV, Option.some.injEq] at e; subst e; exact ⟨[], rfl, .nil⟩
  | i :: is, vs, us, ys, r, e => by
    simp only [pickV] at e
    cases q : vs[i]? with
    | none => rw [q] at e; cases e
    | some v =>
      rw [q] at e
      obtain ⟨ys2, e1, rfl⟩ := Option.map_eq_some_iff.mp e
      obtain ⟨zs, e2, r2⟩ := pickV_vals r e1
      obtain ⟨u, e3, r3⟩ := r.get q
      exact ⟨u :: zs, by simp only [pickV, e3, e2, Option.map_some], .cons r3 r2⟩
/-- f(k = v, ..) -/
theorem pe_callGK {ks : List Str} {ix : List Nat} {kws : List Keyword} {tk : TA} (G : FnG X.prog X.w X.K X.mg X.base k f fd ps sp) (hr : Room k X.A) (hg : X.A.guards = some []) (gl : Gl X x) (hm : X.mg x = some (.ref f)) (hk : PySem.W.keepIn X.K (.ref f) = true) (hb : KwOK X.K fd ps ks ix)
    (hkw : PK X kws tk) (hall : (backToKw pos (keywordEach kws X.env)).all (·.1.isSome) = true) (hks : (backToKw pos (keywordEach kws X.env)).filterMap (·.1) = ks) (hdb : (x == ("__debug__" : Str)) = false)
    (hpl : ((backTo pos (starEach [] X.env)).any (·.1) || (backToKw pos (keywordEach kws X.env)).any (·.1.isNone)) = false) :
    PE X (.Call (.Name x p) [] kws pos) (fun st H Q => tk st H fun zs H1 => zs.length = ks.length ∧ ∃ ys, pickV ix zs = some ys ∧ sp ys H1 Q) := by
  constructor
  intro pins sh st H Q I h
  apply wpAny_Call_Name_kw (ld_glob I gl hm ?_ hdb)
  apply PySem.W.callWith_KW0 (h₀ := X.base) I.ok.mod.kin hk hall ?_ hpl
  apply thn (hkw.run pos pins sh st H _ I h)
  rintro ws s1 ⟨zs, H1, I1, r, hl, ys, hy, q⟩
  rw [hks]
  obtain ⟨us, e1, r2⟩ := pickV_vals r hy
  exact ⟨I1.kIn, ret_only (us := []) (args := ⟨[], ks.zip ws⟩) (G.go hr hg I1 (hb s1 ws us I1.kIn (by rw [← r.length]; exact hl) e1) r2 q)⟩
end
end Ev

/-! enumerate(tuple) -/
namespace Ev
open PySem PySem.Spec PyProof.Rows L2
theorem draws_tup {prog : Program} {w : World} {A : Around} (hh : A.handled = none) (it l : Addr) (hne : l ≠ it) (items : Array Value) :
    Draws prog w A it [it, l] items.size (fun i v => items[i]? = some v) (fun i h => h.IsTupleIter it l i ∧ h.IsTuple l items) := by
  refine ⟨fun _ _ st => ?_, fun _ _ _ st hk => ?_, fun i s Q E hi st hQ => ?_, fun s Q E st hE => ?_⟩
  · obtain ⟨⟨o, ho, _⟩, _⟩ := st
    exact ⟨o, ho⟩
  · obtain ⟨⟨o, ho, r⟩, o2, ho2, r2⟩ := st
    exact ⟨⟨o, hk it (by simp) o ho, r⟩, o2, hk l (by simp) o2 ho2, r2⟩
  · refine RZ.nextOf_tuple_item st.1 st.2 (x := items[i]) (by simp [hi]) ?_
    intro h' hit' hs'
    exact hQ _ h' s.toks (by simp [hi]) ⟨hit', st.2.extBut hs'.extBut hne⟩ hs'
  · exact RZ.nextOf_tuple_end hh st.1 st.2 (by simp) hE
theorem meets_enumT (l : Addr) (items : Array Value) : Meets (Builtin.«enumerate.__new__» ⟨[.type "enumerate", .ref l], []⟩) (fun _ R s => s.heap.IsTuple l items ∧
      R (.ok (.ret (.ref (s.heap.push { cls := .type "tuple_iterator", data := .fields #[.ref l, .int 0 0] }).objs.size)))
        { s with heap := (s.heap.push { cls := .type "tuple_iterator", data := .fields #[.ref l, .int 0 0] }).push { cls := .type "enumerate", data := .fields #[.none, .bool false, .ref s.heap.objs.size, rawInt 0, .none, .none] } }) :=
  .of_wp fun prog w A R s h => by
    obtain ⟨hp, g, d, tk, os⟩ := s
    obtain ⟨hL, h⟩ := h
    have hsub := sub_enumerate
    obtain ⟨⟨c, dct, dt, sl⟩, hl, hc, n, hd⟩ := id hL
    wp_walk using AutoSeq1.wpAny_loadPart' hl
    refine wpAny_stack_any fun st => wpAny_pure ?_
    split
    · rename_i c' _ _ _ _ _
      cases (c' == Value.type "enumerate")
      · wp_walk using AutoSeq1.wpAny_loadPart' hl, wpAny_pyIter_tuple hL
        exact ⟨_, rfl, h⟩
      · wp_walk using AutoSeq1.wpAny_loadPart' hl, wpAny_pyIter_tuple hL
        exact ⟨_, rfl, h⟩
    · wp_walk using AutoSeq1.wpAny_loadPart' hl, wpAny_pyIter_tuple hL
      exact ⟨_, rfl, h⟩
section
variable {prog : Program} {w : World} {A : Around} {E : Value → Shared → Prop} {s : Shared}
theorem call_enumT {l : Addr} {items : Array Value} {Q : Value → Shared → Prop} (hL : s.heap.IsTuple l items)
    (h : ∀ h', IsEnum h' (s.heap.objs.size + 1) s.heap.objs.size 0 .none → h'.IsTupleIter s.heap.objs.size l 0 → (∀ b o, s.heap.get? b = some o → h'.get? b = some o) → Q (.ref (s.heap.objs.size + 1)) { s with heap := h' }) :
    wpAny (model prog w) A (call (.type "enumerate") [.ref l]) Q E s := by
  refine callType_new F.called_enumerate (by decide) (F.typeCall_enumerate_1 _) (F.newCall_enumerate_1 _) (fun obj => F.args_object_init_2 obj _) F.entry_enumerate_new (meets_enumT l items) ⟨hL, ?_⟩
  let o1 : Obj := { cls := .type "tuple_iterator", data := .fields #[.ref l, .int 0 0] }
  have hz : (s.heap.push o1).objs.size = s.heap.objs.size + 1 := Heap.size_push ..
  let o2 : Obj := { cls := .type "enumerate", data := .fields #[.none, .bool false, .ref s.heap.objs.size, rawInt 0, .none, .none] }
  have he : IsEnum ((s.heap.push o1).push o2) (s.heap.objs.size + 1) s.heap.objs.size 0 .none := by
    have z := Heap.get?_push_size (s.heap.push o1) (o := o2) rfl
    rw [hz] at z
    exact z
  show _ ∧ _
  have go := h ((s.heap.push o1).push o2) he ⟨_, Heap.get?_push_of_some _ (Heap.get?_push_size _ rfl), rfl, rfl⟩ (fun b o x => Heap.get?_push_of_some _ (Heap.get?_push_of_some _ x))
  refine ⟨⟨o2, ?_, rfl⟩, ?_⟩
  · rw [hz]
    exact he
  · rw [hz]
    exact go
end
/-- the tuple at a, each item in a new pair -/
def ItEt (K : PySem.W.Frag) (a : Addr) : It :=
  ⟨fun i H => ∃ (xs : List V) (x : V), SqT K H a xs ∧ xs[i]? = some x, fun i H v H' => ∃ T x, v = .ref T ∧ H T = none ∧ H' = upd H T (.tup [.int (i : Nat), x]) ∧ ∀ xs, SqT K H a xs → xs[i]? = some x, fun i H => ∃ xs : List V, SqT K H a xs ∧ xs.length ≤ i⟩
theorem turn_enumT {P : Program} {w : World} {K : PySem.W.Frag} {elts : List Expr} {kk : Nat} {tpos : Pos} (a e it : Addr) :
    Turn P w K (.Tuple elts kk tpos) (ItEt K a) [e, it] e (fun i h => (∃ old, IsEnum h e it ((i : Nat) : Int) old) ∧ h.IsTupleIter it a i ∧ e ≠ it ∧ a ≠ it ∧ a ≠ e) := by
  refine ⟨by simp, fun i h st b hb => ?_, fun i h h' st k => ?_, ?_, ?_, fun A i s Q E st h => ?_⟩
  · obtain ⟨⟨old, he⟩, ⟨o, ho, hc, hd⟩, _⟩ := st
    rcases (show b = e ∨ b = it by simpa using hb) with z | z
    · rw [z]
      exact ⟨_, he, fun v q => nomatch q⟩
    · rw [z]
      exact ⟨o, ho, fun v q => by rw [hd] at q; cases q⟩
  · obtain ⟨⟨old, he⟩, ⟨o, ho, r⟩, hn⟩ := st
    exact ⟨⟨old, k e (by simp) _ he⟩, ⟨o, k it (by simp) o ho, r⟩, hn⟩
  · intro X hP hw hK hc i pins s st H E I hf tn hg
    subst hP hw hK
    obtain ⟨⟨old, he⟩, hit, hne, hai, hae⟩ := tn
    obtain ⟨xs, x, hq, hx⟩ := hg
    obtain ⟨its, rv, p, hz⟩ := I.tuple hq
    obtain ⟨u, hu, ru⟩ := rv.get hx
    have hel : e < s.heap.objs.size := Heap.lt_size he
    have hil : it < s.heap.objs.size := by
      obtain ⟨o, q, _⟩ := hit
      exact Heap.lt_size q
    have hi : i < its.toArray.size := by
      have := (List.getElem?_eq_some_iff.mp hu).1
      simpa using this
    have D := draws_tup (prog := X.prog) (w := X.w) (A := X.A.in1) (by first | exact I.ok.hd hc | (show X.A.handled = none; exact I.ok.hd hc)) it a hai its.toArray
    refine wpAny_pyNext_enum_itemD D he ⟨hit, p⟩ hi hne (by simp; exact ⟨hne, Ne.symm hae⟩) fun y h' tk hy ho hst hT hsz hk => ?_
    obtain ⟨hit', hp'⟩ := hst
    have ey : y = u := by
      have h1 : its.toArray[i]? = some u := by simpa using hu
      exact Option.some.inj (hy.symm.trans h1)
    subst ey
    refine ⟨_, rfl, wpAny_letOwnedTupleGo_enum (s := { s with heap := h', toks := tk + 1 }) ho fun h'' he' sb => ?_⟩
    have hT2 : h''.get? s.heap.objs.size = some { cls := .type "tuple", data := .seq #[.int i tk, y] } := (sb.2 _ (Nat.ne_of_gt hel)).trans hT
    have new : ObjOk X.prog X.w (upd H s.heap.objs.size (.tup [.int (i : Nat), x])) h'' s.heap.objs.size (.tup [.int (i : Nat), x]) := by
      refine ⟨?_, [.int i tk, y], .cons ⟨_, rfl⟩ (.cons ru .nil), _, hT2, rfl, _, rfl⟩
      show 2 ≤ sizeLine
      decide
    have I1 : Inv X pins st (upd H s.heap.objs.size (.tup [.int (i : Nat), x])) { s with heap := h'', toks := tk + 1 } := by
      refine I.turnedNew (ch := [e, it]) (fun b ob hb q => ?_) hf (Nat.le_refl _) new
      have n1 : b ≠ e := fun z => hb (by simp [z])
      have n2 : b ≠ it := fun z => hb (by simp [z])
      exact (sb.2 b n1).trans (hk b ob n1 n2 q)
    refine ⟨.ref s.heap.objs.size, _, I1, rfl, ⟨_, x, rfl, I.hok.fresh (Nat.le_refl _), rfl, fun ys hy2 => ?_⟩, ⟨⟨y, ?_⟩, ?_, hne, hai, hae⟩, fun b hb => ?_⟩
    · obtain ⟨its2, rv2, p2, _⟩ := I.tuple hy2
      rw [I.tuple_inj hy2 hq]
      exact hx
    · have e1 : ((i + 1 : Nat) : Int) = (i : Int) + 1 := by omega
      rw [e1]
      exact he'
    · obtain ⟨o, q, r⟩ := hit'
      exact ⟨o, (sb.2 it (Ne.symm hne)).trans q, r⟩
    · have hb' : b < s.heap.objs.size := by
        rcases (show b = e ∨ b = it by simpa using hb) with z | z
        · rw [z]
          exact hel
        · rw [z]
          exact hil
      rw [upd_ne (Nat.ne_of_lt hb')]
      exact (hf b hb).1
  · intro X hP hw hK hc i pins s st H E I hf tn hg
    subst hP hw hK
    obtain ⟨⟨old, he⟩, hit, hne, hai, hae⟩ := tn
    obtain ⟨xs, hq, hx⟩ := hg
    obtain ⟨its, rv, p, hz⟩ := I.tuple hq
    obtain ⟨f0, f1, f2, f3, f4, f5⟩ := hf it (by simp)
    have hl := rv.length
    have D : Draws X.prog X.w X.A.in1 it [it, a] i (fun _ _ => True) (fun j h => j = i ∧ h.IsTupleIter it a i ∧ h.IsTuple a its.toArray) := by
      refine ⟨fun j h sj => ?_, fun j h h' sj hk => ?_, fun j s Q E hj sj hQ => ?_, fun s Q E sj hE => ?_⟩
      · obtain ⟨_, ⟨o, ho, _⟩, _⟩ := sj
        exact ⟨o, ho⟩
      · obtain ⟨z, ⟨o, ho, r⟩, o2, ho2, r2⟩ := sj
        exact ⟨z, ⟨o, hk it (by simp) o ho, r⟩, o2, hk a (by simp) o2 ho2, r2⟩
      · exact absurd sj.1 (by omega)
      · exact RZ.nextOf_tuple_end (by first | exact I.ok.hd hc | (show X.A.handled = none; exact I.ok.hd hc)) sj.2.1 sj.2.2 (by simp; omega) hE
    exact wpAny_pyNext_enum_endD D he ⟨rfl, hit, p⟩ fun h' eb => ⟨rfl, I.turned (t' := s.toks) (fun b o hb q => eb b o hb q) f0 f1 f3 f4 f5⟩
  · obtain ⟨⟨old, he⟩, _⟩ := st
    exact wpAny_pyIter_enum he h
section
variable {X : Cx} {x : Str} {p pos : Pos} {e : Expr} {es : List Expr} {t : TA} {i : Nat}
/-- a call of a local name that holds a def -/
theorem pe_callLG (hN : X.N[i]? = some x) (hv : Vis X.env.scope x) (hg : X.A.guards = some []) (ha : PA X (e :: es) t) (hdb : (x == ("__debug__" : Str)) = false) (hcd : (x == ("__classdict__" : Str)) = false)
    (he : starEach (e :: es) X.env = (false, eval e X.env) :: starEach es X.env) (hpl : (backTo pos (starEach es X.env)).any (·.1) = false) :
    PE X (.Call (.Name x p) (e :: es) [] pos) (fun st H Q => ∃ (f : Addr) (k : Nat) (fd : FuncData) (ps : List Str) (sp : SpG), st[i]? = some (some (.ref f)) ∧ FnG X.prog X.w X.K X.mg X.base k f fd ps sp ∧ Room k X.A ∧ PySem.W.keepIn X.K (.ref f) = true ∧ Binds X.K fd ps [] ∧ t st H fun vs H1 => sp vs H1 Q) := by
  constructor
  intro pins sh st H Q I q0
  obtain ⟨f, k, fd, ps, sp, hs, G, hr, hk, hb, h⟩ := q0
  refine wpAny_Call_Name_kw (thn ((pe_var (pos := p) hN hv hdb hcd).run pins sh st H (fun v H1 => v = .ref f ∧ H1 = H) I ⟨.ref f, hs, rfl, rfl⟩) fun u s1 ⟨v, H1, I1, r1, q1⟩ => ?_)
  obtain ⟨rfl, rfl⟩ := q1
  cases r1
  apply PySem.W.callWith_K (h₀ := X.base) I.ok.mod.kin hk (thn (ha.run pos pins s1 st _ _ I1 h) ?_) he hpl
  rintro us s2 ⟨vs, H2, I2, r, q⟩
  refine ⟨I2.kIn, ret_only (args := ⟨us, []⟩) ?_⟩
  have hl : us.length = ps.length := by rw [← r.length]; exact G.len _ _ _ q
  have bb := hb s2 us I2.kIn (by rw [List.append_nil]; exact hl)
  rw [List.append_nil] at bb
  exact G.go hr hg I2 bb r q
end
def iEnumA (K : PySem.W.Frag) (ta : TA) : TI := fun st H R => ta st H fun vs H1 => ∃ a xs, vs = [.ref a] ∧ ((SqL K H1 a xs ∧ R (Ite K a) H1) ∨ (SqT K H1 a xs ∧ R (ItEt K a) H1))
theorem pi_enumA {X : Cx} {e : Expr} {ta : TA} {p pos tpos : Pos} {elts : List Expr} {kk : Nat} (hg : Gl X "enumerate") (hm : X.mg "enumerate" = none) (ha : PA X [e] ta) (hs : starEach [e] X.env = [(false, eval e X.env)]) :
    PI X (.Tuple elts kk tpos) (.Call (.Name "enumerate" p) [e] [] pos) (iEnumA X.K ta) := by
  refine ⟨fun pins s st H R I h => ?_⟩
  refine Call_ (ld_blt I hg hm boot_enumerate (PyProof.Rows.callWith_type1 (thn (ha.run pos pins s st H _ I h) fun us s1 ⟨vs, H1, I1, r1, q1⟩ => ?_) hs rfl))
  obtain ⟨a, xs, rfl, q1⟩ := q1
  cases r1 with
  | cons r rr =>
    cases rr
    cases r
    have fresh2 : ∀ b ∈ [s1.heap.objs.size + 1, s1.heap.objs.size], FpOk X pins H1 b := by
      intro b hb
      have hle : s1.heap.objs.size ≤ b := by
        rcases (show b = s1.heap.objs.size + 1 ∨ b = s1.heap.objs.size by simpa using hb) with z | z <;> omega
      exact I1.fpOk hle (I1.hok.fresh hle)
    rcases q1 with ⟨hq, q⟩ | ⟨hq, q⟩
    · obtain ⟨its, rv, p', hz⟩ := I1.list hq
      refine call_enumerate_list p'.isList fun h' he hit hsz hk => wpAny_pyIter_enum he ?_
      have I2 : Inv X pins st H1 { s1 with heap := h' } := I1.kept (t' := s1.toks) hk
      exact ⟨_, [s1.heap.objs.size + 1, s1.heap.objs.size], _, _, H1, rfl, I2, turn_enum a _ s1.heap.objs.size, ⟨⟨.none, he⟩, hit, Nat.succ_ne_self _⟩, fresh2, q⟩
    · obtain ⟨its, rv, p', hz⟩ := I1.tuple hq
      obtain ⟨o1, ho1, _⟩ := id p'
      have la := Heap.lt_size ho1
      refine call_enumT p' fun h' he hit hk => wpAny_pyIter_enum he ?_
      have I2 : Inv X pins st H1 { s1 with heap := h' } := I1.kept (t' := s1.toks) hk
      exact ⟨_, [s1.heap.objs.size + 1, s1.heap.objs.size], _, _, H1, rfl, I2, turn_enumT a _ s1.heap.objs.size, ⟨⟨.none, he⟩, hit, Nat.succ_ne_self _, Nat.ne_of_lt la, Nat.ne_of_lt (Nat.lt_succ_of_lt la)⟩, fresh2, q⟩
end Ev

set_option maxHeartbeats 2000000
/-! all and any of a generator expression, by the layer's invariant -/
namespace Ev
open PySem PySem.Spec PyProof.Rows L2 GenW

/-- all that stood stands -/
structure Kept0 (s s' : Shared) : Prop where
  os : s'.os = s.os
  bare : AllBare s'.gens
  keep : ∀ b o, s.heap.get? b = some o → s'.heap.get? b = some o
theorem Kept0.inv {X : Cx} {pins : List (Addr × Obj)} {σ : L2.St} {H : Hp} {s s' : Shared} (k : Kept0 s s') (I : Inv X pins σ H s) : Inv X pins σ H s' :=
  I.call' (ch := []) k.os (Un.kept k.keep) (I.hok.kept k.keep) k.bare (fun b hb => by simp at hb)

/-- the context of a generator expression's frame -/
def gX (X : Cx) (N : List Str) (B : Around) (s4 : Shared) (H4 : Hp) (cenv : Env) (fp : List Addr) (pn : List (Addr × Obj)) : Cx where
  prog := X.prog
  w := X.w
  K := X.K
  mg := X.mg
  base := X.base
  A := B.deeper cenv
  N := N
  s_0 := s4
  H_0 := H4
  env := cenv
  outer := X.stack
  stack := cenv :: X.stack
  ex := fp
  fn := fun _ => false
  calm := true
  pn := pn
  xe := fun _ _ => False

/-- the turns: st, the answer at which the consumer stops -/
def GW (J : It) (g : TG) (te : TE) (st : Bool) (Q : Bool → Hp → Prop) (W : Nat → Nat → L2.St → Hp → Prop) : Prop :=
  ∀ i m σ H, W i m σ H → (J.stop i H ∧ Q (!st) H) ∨ (∃ m', m = m' + 1 ∧ J.go i H ∧ ∀ x H', J.yld i H x H' → g x σ H' fun σ2 H2 => te σ2 H2 fun v H3 => ∃ b, v = .bl b ∧ (b = st → Q st H3) ∧ (b ≠ st → W (i + 1) m' σ2 H3))

def GRa (X : Cx) (st : Bool) (Q : Bool → Hp → Prop) : GenEnd := fun _ _ r s =>
  ((r = .ok (.ret .none) ∨ r = .ok .next) ∧ ∃ σ H, Inv X [] σ H s ∧ Q (!st) H) ∨ ∃ e, r = .error e ∧ False
def GYa (X : Cx) (st : Bool) (Q : Bool → Hp → Prop) : Protocol := fun _ _ v s kap =>
  ∃ b σ H, v = .bool b ∧ Inv X [] σ H s ∧ (b = st → Q st H) ∧ (b ≠ st → ∀ s', Kept0 s s' → kap (.send .none) s')

abbrev gLoop (elt tg iter : Expr) (scope : Scope) (pos : Pos) (it : Addr) (env : Env) : Code := .compLoop (.GeneratorExp elt [⟨tg, iter, [], 0⟩] scope pos) 0 (.ref it) .none env
abbrev gStart (elt tg iter : Expr) (scope : Scope) (pos : Pos) (it : Addr) (env : Env) : Code := .compStart (.GeneratorExp elt [⟨tg, iter, [], 0⟩] scope pos) 0 (.ref it) .none env
theorem over_gLoop {B : Around} {elt tg iter : Expr} {scope : Scope} {pos : Pos} {it : Addr} {env : Env} : B.over (gLoop elt tg iter scope pos it env) [] = B.deeper env := by
  first
    | rfl
    | (obtain ⟨hd, d, fr, gs, u⟩ := B; simp [Around.over, Around.deeper, marksOver, frameCount, unitsOf, envsOf, guardsOf, pushEnvs, pushGuards, Code.envs, Code.env?, Code.isFrame, Code.guards, Code.isGuard, Code.weight, Code.frames, Code.isCreation, Code.isCaller, Code.cUnits])

section
variable {X : Cx} {B : Around} {elt tg iter : Expr} {scope : Scope} {pos : Pos} {it : Addr} {fp : List Addr} {tn : Nat → Heap → Prop} {J : It} {g : TG} {te : TE} {st : Bool} {Q : Bool → Hp → Prop} {W : Nat → Nat → L2.St → Hp → Prop}
theorem seg_gLoop (hA : X.A = B.deeper X.env) (hc : X.calm = true) (hxe : ∀ e s, ¬ X.xe e s) (hco : X.env.scope.isCoroutine = false) (T : Turn X.prog X.w X.K tg J fp it tn)
    (hfp : ∀ H : Hp, (∀ b ∈ fp, H b = none) → ∀ b ∈ fp, FpOk X [] H b) (hg : PG X tg g) (he : PE X elt te) (w : GW J g te st Q W) :
    ∀ (m i : Nat) (σ : L2.St) (H : Hp) (s₀ s : Shared), Inv X [] σ H s → tn i s.heap → (∀ b ∈ fp, H b = none) → W i m σ H →
      Seg (model X.prog X.w) B (GRa X st Q) (GYa X st Q) m s₀ (gLoop elt tg iter scope pos it X.env) ((model X.prog X.w).den (gLoop elt tg iter scope pos it X.env)) [] s := by
  have hov : B.over (gLoop elt tg iter scope pos it X.env) [] = X.A := over_gLoop.trans hA.symm
  intro m
  induction m with
  | zero =>
    intro i σ H s₀ s I ht hf hw
    show Seg _ B _ _ _ s₀ _ ((compTurn (.GeneratorExp elt [⟨tg, iter, [], 0⟩] scope pos) 0 (.ref it) .none X.env).onRaise (leaving X.env)) [] s
    rw [compTurn_gen, Sem.onRaise_eq_wrap]
    refine seg_bind_wrap (wpAny_standAt ?_)
    rcases w i 0 σ H hw with ⟨stop, q⟩ | ⟨m', e, _⟩
    · refine seg_bind_wrap ?_
      rw [hov]
      refine wpAny_mono (T.done X rfl rfl rfl hc i [] s σ H (fun _ _ => False) I (hfp H hf) ht stop) (fun r s1 h1 => ?_) fun _ _ z => z.elim
      obtain ⟨hr, I1⟩ := h1
      subst hr
      exact seg_end (.ok .next) (.inl ⟨.inr rfl, σ, H, I1, q⟩)
    · cases e
  | succ m ih =>
    intro i σ H s₀ s I ht hf hw
    show Seg _ B _ _ _ s₀ _ ((compTurn (.GeneratorExp elt [⟨tg, iter, [], 0⟩] scope pos) 0 (.ref it) .none X.env).onRaise (leaving X.env)) [] s
    rw [compTurn_gen, Sem.onRaise_eq_wrap]
    refine seg_bind_wrap (wpAny_standAt ?_)
    rcases w i (m + 1) σ H hw with ⟨stop, q⟩ | ⟨m', e, go, step⟩
    · refine seg_bind_wrap ?_
      rw [hov]
      refine wpAny_mono (T.done X rfl rfl rfl hc i [] s σ H (fun _ _ => False) I (hfp H hf) ht stop) (fun r s1 h1 => ?_) fun _ _ z => z.elim
      obtain ⟨hr, I1⟩ := h1
      subst hr
      exact seg_end (.ok .next) (.inl ⟨.inr rfl, σ, H, I1, q⟩)
    · obtain rfl : m' = m := by omega
      refine seg_bind_wrap ?_
      rw [hov]
      refine wpAny_mono (T.item X rfl rfl rfl hc i [] s σ H (fun _ _ => False) I (hfp H hf) ht go) (fun r s1 h1 => ?_) fun _ _ z => z.elim
      obtain ⟨u, hr, h4⟩ := h1
      subst hr
      refine seg_bind_wrap ?_
      rw [hov]
      refine wpAny_mono h4 (fun _ s2 h2 => ?_) fun _ _ z => z.elim
      obtain ⟨x, H2, I2, r2, y2, t2, f2⟩ := h2
      have I2' := I2.pinned (hfp H2 f2) (T.obj _ _ t2)
      refine seg_bind_wrap ?_
      rw [hov]
      refine wpAny_mono (hg.run _ s2 σ H2 x u _ I2' r2 (step x H2 y2)) (fun _ s3 h3 => ?_) fun e s3 z => (hxe e s3 z).elim
      obtain ⟨σ3, H3, I3, q3⟩ := h3
      refine seg_bind_wrap ?_
      simp only [List.forIn_nil]
      refine wpAny_pure ?_
      simp only [if_true]
      have hy : ∀ v, yieldOut X.env v = yieldValue v := fun v => by simp only [yieldOut, hco, Bool.false_eq_true, if_false]
      simp only [hy]
      rw [Sem.bind_eq_wrap', Sem.bind_eq_wrap', Sem.wrap_wrap, Sem.wrap_wrap]
      refine seg_wrap ?_
      rw [hov]
      refine wpAny_mono (he.run _ s3 σ3 H3 _ I3 q3) (fun y s4 h5 => ?_) fun e s3 z => (hxe e s3 z).elim
      obtain ⟨v, H5, I5, r5, b, hb, q5, q6⟩ := h5
      subst hb
      obtain rfl : y = Value.bool b := r5
      refine seg_at (seg_yield rfl rfl rfl ?_)
      refine ⟨b, σ3, H5, rfl, I5.unpinned, q5, fun hb s' k0 => ?_⟩
      have I6 := k0.inv I5
      refine seg_again rfl (ih (i + 1) σ3 H5 s' s' I6.unpinned (T.keep _ _ _ t2 fun c hc' o e => (I6.pin (c, o) (List.mem_append_right _ (List.mem_append_right _ (mem_pinsAt hc' e)))).1) (fun c hc' => ?_) (q6 hb))
      obtain ⟨o, e, d⟩ := T.obj _ _ t2 c hc'
      exact (I6.pin (c, o) (List.mem_append_right _ (List.mem_append_right _ (mem_pinsAt hc' e)))).2.1
theorem seg_gStart (T : Turn X.prog X.w X.K tg J fp it tn) {m : Nat} {s₀ s : Shared} (ht : tn 0 s.heap)
    (loop : Seg (model X.prog X.w) B (GRa X st Q) (GYa X st Q) m s₀ (gLoop elt tg iter scope pos it X.env) ((model X.prog X.w).den (gLoop elt tg iter scope pos it X.env)) [] s) :
    Seg (model X.prog X.w) B (GRa X st Q) (GYa X st Q) m s₀ (gStart elt tg iter scope pos it X.env) ((model X.prog X.w).den (gStart elt tg iter scope pos it X.env)) [] s := by
  show Seg _ B _ _ _ s₀ _ ((compStart (.GeneratorExp elt [⟨tg, iter, [], 0⟩] scope pos) 0 (.ref it) .none X.env).onRaise (leaving X.env)) [] s
  unfold compStart
  rw [Sem.onRaise_eq_wrap]
  show Seg _ B _ _ _ s₀ _ ((ask >>= _).wrap _ _ _ _) [] s
  refine seg_bind_wrap (wpAny_askSetting ?_)
  split
  · exact seg_again rfl loop
  · first
      | exact seg_bind_wrap (wpAny_rule (seg_bind_wrap (wpAny_standAt (seg_bind_wrap (T.self _ 0 s _ _ ht (seg_again rfl loop))))))
      | (refine seg_bind_wrap (wpAny_rule ?_); show Seg _ B _ _ _ s₀ _ ((standAt iter.pos >>= _).wrap _ _ _ _) [] s; exact seg_bind_wrap (wpAny_standAt (seg_bind_wrap (T.self _ 0 s _ _ ht (seg_again rfl loop)))))
end

section
variable {X : Cx} {A : Around} {R : Result → Shared → Prop} {a : Addr} {g : Nat} {Q : Bool → Hp → Prop}
theorem goesA {st : Bool} {gs : GenState} {B : Around} {n : Nat} {r : Resume} {s : Shared} (h : gs.Goes (model X.prog X.w) B (GRa X st Q) (GYa X st Q) n r s) :
    gs.Goes (model X.prog X.w) B (fun n s₀ r s₁ => ((r = .ok (.ret .none) ∨ r = .ok .next) ∧ (fun _ _ s => ∃ σ H, Inv X [] σ H s ∧ Q (!st) H : Nat → Shared → Shared → Prop) n s₀ s₁) ∨ ∃ e, r = .error e ∧ (fun _ _ => False : Value → Shared → Prop) e s₁) (GYa X st Q) n r s := h
theorem all_drain (hh : A.handled = none) (hd : A.depth < recursionLimit) (hg : ∀ σ H s, Inv X [] σ H s → s.heap.IsGen a g)
    (hend : ∀ b σ H s s', Inv X [] σ H s → Q b H → Kept0 s s' → R (.ok (.ret (.bool b))) s') :
    ∀ (m : Nat) (s : Shared), s.heap.IsGen a g → s.heap.NoLimit →
      (∃ gs, s.gens[g]? = some gs ∧ gs.Goes (model X.prog X.w) A.in1.in1 (GRa X false Q) (GYa X false Q) m (.send .none) (s.setGen g .running)) →
      codeAny (model X.prog X.w) A (.builtin "all.loop" ⟨[.ref a], []⟩) R s := by
  intro m
  induction m with
  | zero =>
    intro s hg1 hl ⟨gs, hgs, hgo⟩
    refine codeAny_builtin F.entry_all_loop ?_
    rw [Around.under_plainId F.plain_all_loop _]
    show wpAny _ A.in1 (pyNext (.ref a) >>= _) _ _ s
    refine wpAny_bind (next_genG (A := A.in1) hh hl hd hg1 hgs (goesA hgo) (fun v s1 gs' hb hv => ?_) (fun s1 hp h' hk => ?_) fun e s1 he => he.elim)
    · obtain ⟨b, σ, H, rfl, I, q1, q2⟩ := hv
      refine wpAny_bind (wpAny_holding (wpAny_truthy_bool ?_))
      refine wpAny_bind (wpAny_letGo ?_)
      cases b with
      | true => exact (q2 (by decide) s1 ⟨rfl, I.bare, fun _ _ e => e⟩).elim
      | false =>
        simp only [Bool.false_eq_true, if_false, if_true]
        exact wpAny_bind (wpAny_rule (wpAny_pure (hend false σ H _ _ I (q1 rfl) ⟨rfl, allBare_setGen I.bare hb, fun _ _ e => e⟩)))
    · obtain ⟨σ, H, I, q⟩ := hp
      exact wpAny_bind (wpAny_rule (wpAny_pure (hend true σ H _ _ I q ⟨rfl, allBare_setGen I.bare rfl, hk⟩)))
  | succ m ih =>
    intro s hg1 hl ⟨gs, hgs, hgo⟩
    have hgl : g < s.gens.size := (Array.getElem?_eq_some_iff.mp hgs).1
    refine codeAny_builtin F.entry_all_loop ?_
    rw [Around.under_plainId F.plain_all_loop _]
    show wpAny _ A.in1 (pyNext (.ref a) >>= _) _ _ s
    refine wpAny_bind (wpAny_gsz (n := g + 1) hgl (next_genG (A := A.in1) hh hl hd hg1 hgs (goesA hgo) (fun v s1 gs' hb hv => ?_) (fun s1 hp h' hk => ?_) fun e s1 he => he.elim))
    · intro hsz
      obtain ⟨b, σ, H, rfl, I, q1, q2⟩ := hv
      refine wpAny_bind (wpAny_holding (wpAny_truthy_bool ?_))
      refine wpAny_bind (wpAny_letGo ?_)
      cases b with
      | true =>
        simp only [Bool.false_eq_true, if_false, if_true]
        have hsz1 : g < s1.gens.size := by
          have q : (s1.setGen g gs').gens.size = s1.gens.size := setGen_size _ _ _
          have hsz' : g + 1 ≤ (s1.setGen g gs').gens.size := hsz
          omega
        refine wpAny_pure ⟨plainId_quiet F.plain_all_loop _, ih _ (hg σ H s1 I) I.nolimit ⟨gs', setGen_at hsz1, ?_⟩⟩
        exact q2 (by decide) _ ⟨rfl, allBare_setGen (s := s1.setGen g gs') (allBare_setGen I.bare hb) rfl, fun _ _ e => e⟩
      | false =>
        simp only [Bool.false_eq_true, if_false, if_true]
        exact wpAny_bind (wpAny_rule (wpAny_pure (hend false σ H _ _ I (q1 rfl) ⟨rfl, allBare_setGen I.bare hb, fun _ _ e => e⟩)))
    · intro hsz
      obtain ⟨σ, H, I, q⟩ := hp
      exact wpAny_bind (wpAny_rule (wpAny_pure (hend true σ H _ _ I q ⟨rfl, allBare_setGen I.bare rfl, hk⟩)))
theorem any_drain (hh : A.handled = none) (hd : A.depth < recursionLimit) (hg : ∀ σ H s, Inv X [] σ H s → s.heap.IsGen a g)
    (hend : ∀ b σ H s s', Inv X [] σ H s → Q b H → Kept0 s s' → R (.ok (.ret (.bool b))) s') :
    ∀ (m : Nat) (s : Shared), s.heap.IsGen a g → s.heap.NoLimit →
      (∃ gs, s.gens[g]? = some gs ∧ gs.Goes (model X.prog X.w) A.in1.in1 (GRa X true Q) (GYa X true Q) m (.send .none) (s.setGen g .running)) →
      codeAny (model X.prog X.w) A (.builtin "any.loop" ⟨[.ref a], []⟩) R s := by
  intro m
  induction m with
  | zero =>
    intro s hg1 hl ⟨gs, hgs, hgo⟩
    refine codeAny_builtin F.entry_any_loop ?_
    rw [Around.under_plainId F.plain_any_loop _]
    show wpAny _ A.in1 (pyNext (.ref a) >>= _) _ _ s
    refine wpAny_bind (next_genG (A := A.in1) hh hl hd hg1 hgs (goesA hgo) (fun v s1 gs' hb hv => ?_) (fun s1 hp h' hk => ?_) fun e s1 he => he.elim)
    · obtain ⟨b, σ, H, rfl, I, q1, q2⟩ := hv
      refine wpAny_bind (wpAny_holding (wpAny_truthy_bool ?_))
      refine wpAny_bind (wpAny_letGo ?_)
      cases b with
      | false => exact (q2 (by decide) s1 ⟨rfl, I.bare, fun _ _ e => e⟩).elim
      | true =>
        simp only [Bool.false_eq_true, if_false, if_true]
        exact wpAny_bind (wpAny_rule (wpAny_pure (hend true σ H _ _ I (q1 rfl) ⟨rfl, allBare_setGen I.bare hb, fun _ _ e => e⟩)))
    · obtain ⟨σ, H, I, q⟩ := hp
      exact wpAny_bind (wpAny_rule (wpAny_pure (hend false σ H _ _ I q ⟨rfl, allBare_setGen I.bare rfl, hk⟩)))
  | succ m ih =>
    intro s hg1 hl ⟨gs, hgs, hgo⟩
    have hgl : g < s.gens.size := (Array.getElem?_eq_some_iff.mp hgs).1
    refine codeAny_builtin F.entry_any_loop ?_
    rw [Around.under_plainId F.plain_any_loop _]
    show wpAny _ A.in1 (pyNext (.ref a) >>= _) _ _ s
    refine wpAny_bind (wpAny_gsz (n := g + 1) hgl (next_genG (A := A.in1) hh hl hd hg1 hgs (goesA hgo) (fun v s1 gs' hb hv => ?_) (fun s1 hp h' hk => ?_) fun e s1 he => he.elim))
    · intro hsz
      obtain ⟨b, σ, H, rfl, I, q1, q2⟩ := hv
      refine wpAny_bind (wpAny_holding (wpAny_truthy_bool ?_))
      refine wpAny_bind (wpAny_letGo ?_)
      cases b with
      | false =>
        simp only [Bool.false_eq_true, if_false, if_true]
        have hsz1 : g < s1.gens.size := by
          have q : (s1.setGen g gs').gens.size = s1.gens.size := setGen_size _ _ _
          have hsz' : g + 1 ≤ (s1.setGen g gs').gens.size := hsz
          omega
        refine wpAny_pure ⟨plainId_quiet F.plain_any_loop _, ih _ (hg σ H s1 I) I.nolimit ⟨gs', setGen_at hsz1, ?_⟩⟩
        exact q2 (by decide) _ ⟨rfl, allBare_setGen (s := s1.setGen g gs') (allBare_setGen I.bare hb) rfl, fun _ _ e => e⟩
      | true =>
        simp only [Bool.false_eq_true, if_false, if_true]
        exact wpAny_bind (wpAny_rule (wpAny_pure (hend true σ H _ _ I (q1 rfl) ⟨rfl, allBare_setGen I.bare hb, fun _ _ e => e⟩)))
    · intro hsz
      obtain ⟨σ, H, I, q⟩ := hp
      exact wpAny_bind (wpAny_rule (wpAny_pure (hend false σ H _ _ I q ⟨rfl, allBare_setGen I.bare rfl, hk⟩)))
end
end Ev

set_option maxHeartbeats 2000000
namespace Ev
open PySem PySem.Spec PyProof.Rows L2 GenW

/-- a generator expression's scope, its names N; cap: which of them are the def's own -/
structure GSc (X : Cx) (scope : Scope) (N : List Str) (cap : List (Option Nat)) : Prop where
  kind : scope.kind = .function
  co : scope.isCoroutine = false
  cell : ∀ y ∈ scope.names, y.2 ≠ .cell
  dot : scope.names.lookup (".0" : Str) = some NameKind.local
  free : ∀ y ∈ scope.names, y.2 = .free → X.env.scope.names.lookup y.1 = some .cell ∨ X.env.scope.names.lookup y.1 = some .free
  len : cap.length = N.length
  cap : ∀ (i j : Nat) x, N[i]? = some x → cap[i]? = some (some j) → X.N[j]? = some x ∧ scope.names.lookup x = some .free
section
variable {X : Cx} {pins : List (Addr × Obj)} {σ : L2.St} {H H4 : Hp} {s s4 s5 : Shared} {scope : Scope} {N : List Str} {cap : List (Option Nat)} {fp : List Addr} {B : Around} {code : Value} {a : Addr} {go : Obj}
theorem GSc.frees (S : GSc X scope N cap) (I : Inv X pins σ H s) : ∀ y ∈ scope.names, y.2 = .free → ∃ c, X.env.cells.lookup y.1 = some c := fun y hy hf =>
  I.ok.has y.1 (S.free y hy hf)
theorem clo_look (hf : ∀ y ∈ scope.names, y.2 = .free → ∃ c, X.env.cells.lookup y.1 = some c) {x : Str} {c : Addr} (h : (cloFrom X.env.cells scope.names []).lookup x = some c) : (x, NameKind.free) ∈ scope.names ∧ X.env.cells.lookup x = some c := by
  rcases cloFrom_mem (PySem.mem_of_lookup h) with z | ⟨h1, h2⟩
  · cases z
  · obtain ⟨c', e⟩ := hf (x, .free) h1 rfl
    have e' : X.env.cells.lookup x = some c' := e
    rw [e'] at h2
    subst h2
    exact ⟨h1, e'⟩
theorem clo_has (hf : ∀ y ∈ scope.names, y.2 = .free → ∃ c, X.env.cells.lookup y.1 = some c) {x : Str} (h : scope.names.lookup x = some .free) : ∃ c, (cloFrom X.env.cells scope.names []).lookup x = some c ∧ X.env.cells.lookup x = some c := by
  obtain ⟨c, e⟩ := mem_lookup (cloFrom_has (cells := X.env.cells) (acc := []) (PySem.mem_of_lookup h))
  exact ⟨c, e, (clo_look hf e).2⟩
abbrev gEnv (X : Cx) (scope : Scope) (n : Addr) (code : Value) : Env := genEnv scope (cloFrom X.env.cells scope.names []) n code builtinsNs X.env
theorem inv_gen (I : Inv X pins σ H4 s4) (S : GSc X scope N cap) (hfp : ∀ b ∈ fp, FpOk X pins H4 b) (hlt : ∀ b ∈ fp, b < s4.heap.objs.size) (hB : B.frames = some X.stack) (hBh : B.handled = none) (keep5 : ∀ b o, s4.heap.get? b = some o → s5.heap.get? b = some o)
    (os : s5.os = s4.os) (bare : AllBare s5.gens) {m : Str → Option Value} (hn : s5.heap.Ns s4.heap.objs.size m) (ha : s5.heap.get? a = some go) (hsz : s4.heap.objs.size < a) (hgo : ∀ v, go.data ≠ .cell v) :
    Inv (gX X N B s4 H4 (gEnv X scope s4.heap.objs.size code) fp [(a, go)]) [] (capS cap σ) H4 s5 := by
  have hf := S.frees I
  have fpne : ∀ b ∈ fp, b < s4.heap.objs.size → b ≠ s4.heap.objs.size := fun b _ h => Nat.ne_of_lt h
  have big : ∀ b, s4.heap.objs.size ≤ b → H4 b = none := fun b h => I.hok.fresh h
  have nofs : ∀ b, s4.heap.objs.size ≤ b → b ∉ frs X.stack := fun b h hb => by
    rcases List.mem_cons.mp (I.stkSub b hb) with z | z
    · have := I.lt
      rw [← z] at this
      exact absurd (Nat.lt_of_lt_of_le this h) (Nat.lt_irrefl _)
    · exact I.nofs h z
  have exne : ∀ b ∈ fp, b ∉ frs X.stack := fun b hb z => by
    obtain ⟨_, h2, h3, _⟩ := hfp b hb
    rcases List.mem_cons.mp (I.stkSub b z) with z | z
    · exact h2 z
    · exact h3 z
  refine ⟨⟨I.ok.mod, S.kind, I.ok.glob, rfl, Nat.le_refl _, fun x y c h1 h2 => ?_, fun x hx => ?_, fun x c h => (by cases h), fun _ => hBh, Around.frames_deeper hB, .inr ⟨rfl, rfl⟩, fun b hb => ⟨?_, fun x c h z => ?_⟩, I.bs, Nat.le_trans I.ok.bsz I.sz, fun b o e hb => ?_, exne, I.stack, I.stkFree⟩,
    os, bare, Un.kept keep5, ⟨m, hn, fun i x v h1 h2 h3 => ?_⟩, fun x c h => ?_, big _ (Nat.le_refl _), fun x c h => I.freeC x c (clo_look hf h).2, fun p hp => ?_, I.hok.kept keep5, ?_⟩
  · exact I.ok.inj x y c (clo_look hf h1).2 (clo_look hf h2).2
  · have hx : scope.names.lookup x = some .cell ∨ scope.names.lookup x = some .free := hx
    rcases hx with hx | hx
    · exact absurd rfl (S.cell _ (PySem.mem_of_lookup hx))
    · obtain ⟨c, h, _⟩ := clo_has hf hx
      exact ⟨c, h⟩
  · exact Nat.ne_of_lt (hlt b hb)
  · exact (hfp b hb).2.2.2.2.1 x c (clo_look hf h).2 z
  · rcases (hfp b hb).2.2.2.1 with z | z
    · exact I.ok.noex b o e z
    · exact absurd (Nat.lt_of_lt_of_le (Heap.lt_size e) (Nat.le_trans I.ok.bsz z)) (Nat.lt_irrefl _)
  · have h2' : (capS cap σ)[i]? = some (some v) := h2
    unfold capS at h2'
    rw [List.getElem?_map] at h2'
    cases hc : cap[i]? with
    | none => rw [hc] at h2'; cases h2'
    | some q =>
      rw [hc] at h2'
      cases q with
      | none => cases h2'
      | some j =>
        obtain ⟨e1, e2⟩ := S.cap i j x h1 hc
        have h4 : (σ[j]?).join = some v := by simpa using h2'
        have h5 : σ[j]? = some (some v) := by
          cases hq : σ[j]? with
          | none => rw [hq] at h4; cases h4
          | some q => rw [hq] at h4; cases q with
            | none => cases h4
            | some u => cases h4; rfl
        have hv := S.free (x, .free) (PySem.mem_of_lookup e2) rfl
        obtain ⟨mm, _, hl⟩ := I.loc
        obtain ⟨u, r, lk⟩ := hl j x v e1 h5 (by unfold Vis; rcases hv with z | z; exact .inr (.inl z); exact .inr (.inr z))
        refine ⟨u, r, .inr ⟨.inr e2, ?_⟩⟩
        obtain ⟨c, k1, k2⟩ := clo_has hf e2
        rcases lk with ⟨z, _⟩ | ⟨_, c', z1, z2⟩
        · have z' : X.env.scope.names.lookup x = some .local := z
          rcases hv with y | y
          · have y' : X.env.scope.names.lookup x = some .cell := y
            rw [z'] at y'; cases y'
          · have y' : X.env.scope.names.lookup x = some .free := y
            rw [z'] at y'; cases y'
        · rw [k2] at z1
          cases z1
          exact ⟨c, k1, z2.keeps keep5⟩
  · obtain ⟨v, e⟩ := I.cell x c (clo_look hf h).2
    exact ⟨v, e.keeps keep5⟩
  · obtain rfl : p = (a, go) := by simpa [gX] using hp
    exact ⟨ha, big a (Nat.le_of_lt hsz), Nat.ne_of_gt hsz, nofs a (Nat.le_of_lt hsz), hgo⟩
  · show (capS cap σ).length = N.length
    unfold capS
    rw [List.length_map, S.len]
theorem reb_in1 {k : Nat} (hr : Room (k + 1) X.A) (env : Env) : Room k (X.A.in1.in1.deeper env) := ⟨hr.hd, by have := hr.dp; show X.A.depth + 1 + 3 * k + 5 < _; omega, by have := hr.un; show X.A.units + 1 + 1 + 3 + 16 * k + 200 < _; omega⟩
variable {c P : Addr} {elt tg iter : Expr} {gpos : Pos} {wi : TI} {gg : TG} {te : TE} {R : It → Hp → Prop} {Q' : Value → Shared → Prop}
/-- a generator that has not begun -/
structure GRdy (X : Cx) (pins : List (Addr × Obj)) (σ : L2.St) (N : List Str) (cap : List (Option Nat)) (scope : Scope) (P : Addr) (elt tg iter : Expr) (gpos : Pos) (R : It → Hp → Prop) (a : Addr) (s5 : Shared) : Prop where
  ex : ∃ (J : It) (H1 H4 : Hp) (s4 : Shared) (it : Addr) (fp : List Addr) (tn : Nat → Heap → Prop) (code : Value) (go : Obj) (g : Nat), R J H1 ∧ GxR.Tabbed P H1 H4 ∧ Inv X pins σ H4 s4 ∧ (∀ b ∈ fp, FpOk X pins H4 b) ∧ Turn X.prog X.w X.K tg J fp it tn ∧ (∀ b ∈ fp, b ≠ a) ∧ tn 0 s5.heap ∧
    Inv (gX X N X.A.in1.in1 s4 H4 (gEnv X scope s4.heap.objs.size code) fp [(a, go)]) [] (capS cap σ) H4 s5 ∧ (∀ h : Heap, h.get? a = some go → h.IsGen a g) ∧
    s5.gens[g]? = some (.fresh (gStart elt tg iter scope gpos it (gEnv X scope s4.heap.objs.size code)))
theorem gen_mk (hr : Room 1 X.A) (TB : GxR.TabB X.base X.mg c P) (hcode : X.env.code = .ref c) (S : GSc X scope N cap) (hi : PI X tg iter wi) (hs : ∀ v, genFold iter X.env v = pure v) (I : Inv X pins σ H s) (h : wi σ H fun J H1 => GxR.TabG H1 P ∧ R J H1)
    (hQ : ∀ a s5, GRdy X pins σ N cap scope P elt tg iter gpos R a s5 → Q' (.ref a) s5) :
    wpAny (model X.prog X.w) X.A (eval (.GeneratorExp elt [⟨tg, iter, [], 0⟩] scope gpos) X.env) Q' X.xe s := by
  refine wpAny_GeneratorExp_make S.co (closure_ok (S.frees I)) S.cell S.dot S.kind (by have := hr.dp; omega) ?_ hs
  refine thn (hi.run pins s σ H _ I h) fun xv s1 h1 => thn h1 fun itv s2 h2 => ?_
  obtain ⟨it, fp, tn, J, H1, rfl, I2, T, t2, f2, ⟨⟨ps, hP, ht⟩, hR⟩⟩ := h2
  refine ⟨I2.nolimit, ?_⟩
  have hPs : s2.heap.get? P = some { cls := .none, data := .fields ps } := I2.hok P _ hP
  have cd : PySem.W.CodeHd s2.heap c P := TB.code.keeps fun b u e => I2.bk b u e
  have nP : ∀ b ∈ fp, b ≠ P := fun b hb z => by
    have := (f2 b hb).1
    rw [z, hP] at this
    cases this
  have cont : ∀ (code : Value) (h3 : Heap) (tk : Nat) (ps' : Array Value), Heap.ExtBut P s2.heap h3 → s2.heap.objs.size ≤ h3.objs.size → h3.get? P = some { cls := .none, data := .fields ps' } → (∃ more, ps' = ps ++ more) → TriplesOk ps'.toList →
      wpAny (model X.prog X.w) X.A (builtinsFor X.env.globals X.env.builtins) (fun bi s₄ =>
        ∀ h', h'.Ns s₄.heap.objs.size (fun y => if y = ".0" then some (.ref it) else none) → Heap.SameBut s₄.heap.objs.size (s₄.heap.push { cls := .type "frame", data := .dict #[] }) h' →
          Q' (.ref h'.objs.size) { s₄ with
            gens := s₄.gens.push (.fresh (.compStart (.GeneratorExp elt [⟨tg, iter, [], 0⟩] scope gpos) 0 (.ref it) .none (genEnv scope (cloFrom X.env.cells scope.names []) s₄.heap.objs.size code bi X.env))),
            toks := s₄.toks + 1 + 1 + 1,
            heap := h'.push { cls := .type "generator", data := .fields #[.int s₄.gens.size 0, .str "<genexpr>" (s₄.toks + 1), .str (X.env.qual ++ "<genexpr>") (s₄.toks + 1 + 1)] } }) X.xe { s2 with heap := h3, toks := tk } := by
    intro code h3 tk ps' hx hsz hP3 hmore ht3
    obtain ⟨bm, ob, e1, e2, e3, e4, e5, e6, e7, e8⟩ := TB.bm
    obtain ⟨more, rfl⟩ := hmore
    have keep3 : ∀ b u, b ≠ P → s2.heap.get? b = some u → h3.get? b = some u := fun b u hb e => hx b u hb e
    refine wpAny_builtinsFor (m := X.mg) (by rw [I2.ok.glob]; exact (I2.mod.glob.keeps I2.bk).extBut hx TB.gP) e1 e2 (keep3 _ _ e4 (I2.bk _ _ e5)) e6 e7 e8 ?_
    intro h' hn' hs'
    have I4 : Inv X pins σ (upd H1 P (.tbl (ps ++ more))) { s2 with heap := h3, gens := s2.gens, drawn := s2.drawn, toks := tk } := GxR.inv_tab I2 hP keep3 hP3 I2.bare
    have hsz' : h'.objs.size = h3.objs.size + 1 := by
      have := hs'.1
      rw [this, Heap.size_push]
    have keep' : ∀ b o, h3.get? b = some o → h'.get? b = some o := fun b o e => hs'.extBut b o (Nat.ne_of_lt (Heap.lt_size e)) (Heap.get?_push_of_some _ e)
    generalize hgo : ({ cls := .type "generator", data := .fields #[.int s2.gens.size 0, .str "<genexpr>" (tk + 1), .str (X.env.qual ++ "<genexpr>") (tk + 1 + 1)] } : Obj) = go
    have keep5 : ∀ b o, h3.get? b = some o → (h'.push go).get? b = some o := fun b o e => Heap.get?_push_of_some _ (keep' b o e)
    have hgop : (h'.push go).get? h'.objs.size = some go := by
      subst hgo
      exact Heap.get?_push_size _ rfl
    have tn5 : tn 0 (h'.push go) := T.keep 0 _ _ t2 fun b hb o e => keep5 b o (keep3 b o (nP b hb) e)
    have f4 : ∀ b ∈ fp, FpOk X pins (upd H1 P (.tbl (ps ++ more))) b := fun b hb => ⟨by rw [upd_ne (nP b hb)]; exact (f2 b hb).1, (f2 b hb).2⟩
    refine hQ _ _ ⟨J, H1, upd H1 P (.tbl (ps ++ more)), _, it, fp, tn, code, go, s2.gens.size, hR, ⟨⟨_, upd_same, ht3⟩, fun b hb => upd_ne hb⟩, I4, f4, T, ?_, ?_, ?_, ?_, ?_⟩
    · exact fun b hb z => by
        obtain ⟨o, e, _⟩ := T.obj 0 _ t2 b hb
        have h1 := Heap.lt_size (keep3 b o (nP b hb) e)
        rw [z] at h1
        have h2 : h'.objs.size < h3.objs.size := h1
        omega
    · exact tn5
    · refine inv_gen I4 S f4 (fun b hb => ?_) I.ok.frames hr.hd ?_ rfl ?_ (m := fun y => if y = ".0" then some (.ref it) else none) ?_ ?_ ?_ ?_
      · obtain ⟨o, e, _⟩ := T.obj 0 _ t2 b hb
        exact Heap.lt_size (keep3 b o (nP b hb) e)
      · exact keep5
      · exact AllBare.push I2.bare rfl
      · exact hn'.push _
      · exact hgop
      · show h3.objs.size < h'.objs.size
        omega
      · intro v z
        subst hgo
        cases z
    · intro h e
      exact ⟨go, .str "<genexpr>" (tk + 1), .str (X.env.qual ++ "<genexpr>") (tk + 1 + 1), e, by subst hgo; rfl, by subst hgo; rfl, by subst hgo; rfl⟩
    · exact Array.getElem?_push_size ..
  cases hf : codeAmong gpos ps.toList with
  | none =>
    refine wpAny_genexprCodeX hcode (cd.code hPs ht) (cd.tab hPs) hf fun c' h' tk hx hge hlt hco' _ htab' _ => ?_
    obtain ⟨o1, vs, f1, tf, fl, tg', inF, tx, tt, op, _, _, _, _, _, _, _, _, _, htr, _⟩ := hco'
    exact cont _ h' tk _ hx (Nat.le_trans hge (Nat.le_of_lt hlt)) htab'.2 ⟨_, rfl⟩ htr
  | some cv =>
    refine wpAny_genexprCode_hit hcode (cd.code hPs ht) hf ?_
    exact cont cv s2.heap s2.toks ps (Heap.ExtBut.refl _ _) (Nat.le_refl _) hPs ⟨#[], by simp⟩ ht
/-- all(elt for tg in iter), any(..): st the answer at which it stops -/
def tGenI (P : Addr) (cap : List (Option Nat)) (wi : TI) (gg : TG) (te : TE) (st : Bool) : TE := fun σ H Q => wi σ H fun J H1 => GxR.TabG H1 P ∧ ∀ H4, GxR.Tabbed P H1 H4 → ∃ (W : Nat → Nat → L2.St → Hp → Prop) (m : Nat), W 0 m (capS cap σ) H4 ∧ GW J gg te st (fun b H' => Q (.bl b) H') W
/-- the readings in the generator's frame -/
def GFr (X : Cx) (N : List Str) (scope : Scope) (tg elt : Expr) (gg : TG) (te : TE) : Prop :=
  ∀ (s4 : Shared) (H4 : Hp) (fp : List Addr) (pn : List (Addr × Obj)) (code : Value), PG (gX X N X.A.in1.in1 s4 H4 (gEnv X scope s4.heap.objs.size code) fp pn) tg gg ∧ PE (gX X N X.A.in1.in1 s4 H4 (gEnv X scope s4.heap.objs.size code) fp pn) elt te
theorem gen_end {st : Bool} {Q : VK} {a : Addr} {s5 : Shared} (hX : GFr X N scope tg elt gg te) (hco : scope.isCoroutine = false)
    (G : GRdy X pins σ N cap scope P elt tg iter gpos (fun J H1 => ∀ H4, GxR.Tabbed P H1 H4 → ∃ (W : Nat → Nat → L2.St → Hp → Prop) (m : Nat), W 0 m (capS cap σ) H4 ∧ GW J gg te st (fun b H' => Q (.bl b) H') W) a s5) :
    ∃ (X' : Cx) (g m : Nat), X'.prog = X.prog ∧ X'.w = X.w ∧ (∀ σ' H' s, Inv X' [] σ' H' s → s.heap.IsGen a g) ∧ s5.heap.IsGen a g ∧ s5.heap.NoLimit ∧ AllBare s5.gens ∧
      (∃ gs, s5.gens[g]? = some gs ∧ gs.Goes (model X.prog X.w) X.A.in1.in1 (GRa X' st fun b H' => Q (.bl b) H') (GYa X' st fun b H' => Q (.bl b) H') m (.send .none) (s5.setGen g .running)) ∧
      ∀ b σ' H' s1 s', Inv X' [] σ' H' s1 → Q (.bl b) H' → Kept0 s1 s' → EP X pins σ Q (.bool b) s' := by
  obtain ⟨J, H1, H4, s4, it, fp, tn, code, go, g, hR, hT, I4, f4, T, fa, t5, I5, hgo, hgs⟩ := G.ex
  obtain ⟨W, m, w0, w⟩ := hR H4 hT
  have pinned : ∀ σ' H' s, Inv (gX X N X.A.in1.in1 s4 H4 (gEnv X scope s4.heap.objs.size code) fp [(a, go)]) [] σ' H' s → s.heap.IsGen a g := fun σ' H' s I' =>
    hgo _ (I'.pin (a, go) (by exact List.mem_append_left _ (List.mem_singleton.mpr rfl))).1
  have fpX : ∀ H : Hp, (∀ b ∈ fp, H b = none) → ∀ b ∈ fp, FpOk (gX X N X.A.in1.in1 s4 H4 (gEnv X scope s4.heap.objs.size code) fp [(a, go)]) [] H b := fun H hn b hb => by
    obtain ⟨z1, z2⟩ := I5.ok.exf b hb
    obtain ⟨p1, p2, p3, p4, p5⟩ := I5.pin (a, go) (List.mem_append_left _ (List.mem_singleton.mpr rfl))
    refine ⟨hn b hb, z1, I5.ok.exfs b hb, .inl hb, z2, fun p hp => ?_⟩
    obtain rfl : p = (a, go) := by simpa [gX] using hp
    exact fun z => fa b hb z.symm
  have I6 : Inv (gX X N X.A.in1.in1 s4 H4 (gEnv X scope s4.heap.objs.size code) fp [(a, go)]) [] (capS cap σ) H4 (s5.setGen g .running) :=
    Kept0.inv (s := s5) ⟨rfl, allBare_setGen I5.bare rfl, fun _ _ e => e⟩ I5
  refine ⟨gX X N X.A.in1.in1 s4 H4 (gEnv X scope s4.heap.objs.size code) fp [(a, go)], g, m, rfl, rfl, pinned, pinned _ _ _ I5, I5.nolimit, I5.bare, ⟨_, hgs, rfl, ?_⟩, fun b σ' H' s1 s' I' q k0 => ?_⟩
  · exact seg_gStart (X := gX X N X.A.in1.in1 s4 H4 (gEnv X scope s4.heap.objs.size code) fp [(a, go)]) T t5 (seg_gLoop (X := gX X N X.A.in1.in1 s4 H4 (gEnv X scope s4.heap.objs.size code) fp [(a, go)]) rfl rfl (fun _ _ z => z) hco T fpX (hX s4 H4 fp _ code).1 (hX s4 H4 fp _ code).2 w m 0 _ _ _ _ I6 t5 (fun b hb => (f4 b hb).1) w0)
  · have J' : Inv X pins σ H' s' := I4.call' (ch := fp) (k0.os.trans I'.os) (I'.base.trans (Un.kept k0.keep)) (I'.hok.kept k0.keep) k0.bare fun b hb => ⟨(f4 b hb).2.2.2.1, (f4 b hb).2.1, (f4 b hb).2.2.2.2.1, (f4 b hb).2.2.2.2.2⟩
    exact ⟨.bl b, H', J', rfl, q⟩
theorem pe_allI {p pos : Pos} (hr : Room 1 X.A) (hg : Gl X "all") (hm : X.mg "all" = none) (hb : bootBuiltins "all" = some (.builtin "all")) (TB : GxR.TabB X.base X.mg c P) (hcode : X.env.code = .ref c) (S : GSc X scope N cap) (hi : PI X tg iter wi)
    (hX : GFr X N scope tg elt gg te) (hs : ∀ v, genFold iter X.env v = pure v)
    (he : starEach [.GeneratorExp elt [⟨tg, iter, [], 0⟩] scope gpos] X.env = (false, eval (.GeneratorExp elt [⟨tg, iter, [], 0⟩] scope gpos) X.env) :: starEach [] X.env := by rfl) :
    PE X (.Call (.Name "all" p) [.GeneratorExp elt [⟨tg, iter, [], 0⟩] scope gpos] [] pos) (tGenI P cap wi gg te false) := by
  refine ⟨fun pins s σ H Q I h => ?_⟩
  refine wpAny_Call_Name_kw (ld_blt I hg hm hb ?_)
  refine PyProof.Rows.callWith_builtin1 ?_ he (by rfl)
  rw [he]
  show wpAny _ _ (spliced ((false, eval (.GeneratorExp elt [⟨tg, iter, [], 0⟩] scope gpos) X.env) :: backTo pos (starEach [] X.env))) _ _ s
  refine Calls.spliced_cons (gen_mk hr TB hcode S hi hs I h fun a s5 G => ?_)
  refine Calls.spliced_nil ?_
  obtain ⟨X', g, m, hp, hw, h1, h2, h3, h4, h5, h6⟩ := gen_end hX S.co G
  refine call_function_tree F.kind_all F.plain_all F.entry_all (F.args_all1 _) ?_
  unfold Builtin.«all»
  refine wpAny_bind (m := oneArg "all" _) (wpAny_pure ?_)
  refine wpAny_bind (wpAny_pyIter_gen h2 ?_)
  rw [← hp, ← hw] at h5 ⊢
  exact wpAny_pure ⟨plainId_quiet F.plain_all_loop _, all_drain hr.hd (by have := hr.dp; omega) h1 (fun b σ' H' s1 s' I' q k0 => h6 b σ' H' s1 s' I' q k0) m s5 h2 h3 h5⟩
theorem pe_anyI {p pos : Pos} (hr : Room 1 X.A) (hg : Gl X "any") (hm : X.mg "any" = none) (hb : bootBuiltins "any" = some (.builtin "any")) (TB : GxR.TabB X.base X.mg c P) (hcode : X.env.code = .ref c) (S : GSc X scope N cap) (hi : PI X tg iter wi)
    (hX : GFr X N scope tg elt gg te) (hs : ∀ v, genFold iter X.env v = pure v)
    (he : starEach [.GeneratorExp elt [⟨tg, iter, [], 0⟩] scope gpos] X.env = (false, eval (.GeneratorExp elt [⟨tg, iter, [], 0⟩] scope gpos) X.env) :: starEach [] X.env := by rfl) :
    PE X (.Call (.Name "any" p) [.GeneratorExp elt [⟨tg, iter, [], 0⟩] scope gpos] [] pos) (tGenI P cap wi gg te true) := by
  refine ⟨fun pins s σ H Q I h => ?_⟩
  refine wpAny_Call_Name_kw (ld_blt I hg hm hb ?_)
  refine PyProof.Rows.callWith_builtin1 ?_ he (by rfl)
  rw [he]
  show wpAny _ _ (spliced ((false, eval (.GeneratorExp elt [⟨tg, iter, [], 0⟩] scope gpos) X.env) :: backTo pos (starEach [] X.env))) _ _ s
  refine Calls.spliced_cons (gen_mk hr TB hcode S hi hs I h fun a s5 G => ?_)
  refine Calls.spliced_nil ?_
  obtain ⟨X', g, m, hp, hw, h1, h2, h3, h4, h5, h6⟩ := gen_end hX S.co G
  refine call_function_tree F.kind_any F.plain_any F.entry_any (F.args_any1 _) ?_
  unfold Builtin.«any»
  refine wpAny_bind (m := oneArg "any" _) (wpAny_pure ?_)
  refine wpAny_bind (wpAny_pyIter_gen h2 ?_)
  rw [← hp, ← hw] at h5 ⊢
  exact wpAny_pure ⟨plainId_quiet F.plain_any_loop _, any_drain hr.hd (by have := hr.dp; omega) h1 (fun b σ' H' s1 s' I' q k0 => h6 b σ' H' s1 s' I' q k0) m s5 h2 h3 h5⟩
end
end Ev

namespace Ev
open PySem PySem.Spec PyProof.Rows L2
/-! ### readings -/
def RdE (F : Fx) (f : EnvD → Sto → Option (D × Sto)) : TE := fun st H Q => ∃ io env S d S', SlOK F io H st env ∧ StOK F io H S ∧ f env S = some (d, S') ∧ ∀ io' H' v, Grow F io H io' H' → StOK F io' H' S' → Rep F io' H' d v → Q v H'
def RdA (F : Fx) (f : EnvD → Sto → Option (List D × Sto)) : TA := fun st H Q => ∃ io env S d S', SlOK F io H st env ∧ StOK F io H S ∧ f env S = some (d, S') ∧ ∀ io' H' v, Grow F io H io' H' → StOK F io' H' S' → Reps F io' H' d v → Q v H'
def RdT (F : Fx) (f : EnvD → Sto → Option (Bool × Sto)) : TT := fun st H Q => ∃ io env S d S', SlOK F io H st env ∧ StOK F io H S ∧ f env S = some (d, S') ∧ ∀ io' H', Grow F io H io' H' → StOK F io' H' S' → Q d H'
/-- what a def promises by the evaluator -/
def spG (K : PySem.W.Frag) (fa : Str → Addr) (tb : List Addr) (w : World) (ps : List Str) (cl : List D → Sto → Option (D × Sto)) : SpG := fun vs H Q => ∃ lk io S ds d S', StOK ⟨K, fa, lk, tb, w⟩ io H S ∧ Reps ⟨K, fa, lk, tb, w⟩ io H ds vs ∧ cl ds S = some (d, S') ∧ vs.length = ps.length ∧
  ∀ io' H' v, Grow ⟨K, fa, lk, tb, w⟩ io H io' H' → StOK ⟨K, fa, lk, tb, w⟩ io' H' S' → Rep ⟨K, fa, lk, tb, w⟩ io' H' d v → Q v H'
/-! ### the text's context -/
structure Cc where
  N : List Str
  names : List (Str × NameKind)
  fns : List (Str × List Str)
  glbs : List Str
  kws : List (Str × List Str × List Nat)
  refs : Bool
  inner : Bool
  tab : Bool
structure CallOK (X : Cx) (F : Fx) (kws : List (Str × List Str × List Nat)) (cl : CallF) (f : Str) (ps : List Str) (j : Nat) : Prop where
  ex : ∃ (a : Addr) (fd : FuncData) (k : Nat), X.mg f = some (.ref a) ∧ PySem.W.keepIn X.K (.ref a) = true ∧ FnG X.prog X.w X.K X.mg X.base k a fd ps (spG F.K F.fa F.tb F.w ps (cl f)) ∧ Room (k + j) X.A ∧ Binds X.K fd ps [] ∧
    ∀ ks ix, (f, ks, ix) ∈ kws → KwOK X.K fd ps ks ix
  len : ∀ ds S r, cl f ds S = some r → ds.length = ps.length
  at_ : X.mg f = some (.ref (F.fa f))
structure CxOK (G : Gb) (c : Cc) (X : Cx) (F : Fx) : Prop where
  hK : X.K = F.K
  hw : X.w = F.w
  hN : X.N = c.N
  nd : c.N.Nodup
  nm : X.env.scope.names = c.names
  kf : X.env.scope.kind = .function
  calm : X.calm = true
  gd : X.A.guards = some []
  un : X.A.units + 64 < cLine
  st : c.inner = false → ∀ x, X.fn x = true
  free : ∀ f : Bf, X.mg f.name = none
  free3 : X.mg "any" = none
  free2 : X.mg "range" = none ∧ X.mg "enumerate" = none ∧ X.mg "zip" = none ∧ X.mg "bool" = none ∧ X.mg "dict" = none
  glb : ∀ g d, g ∈ c.glbs → G.glb g = some d → ∃ u v, X.mg g = some u ∧ RelV v u ∧ ∀ lk io H, Rep { F with lk := lk } io H d v
  call : ∀ f ps, (f, ps) ∈ c.fns → CallOK X F c.kws G.cl f ps 0
  dom : ∀ g ds S r, G.cl g ds S = some r → ∃ ps, (g, ps) ∈ c.fns
  tab : c.tab = true → Room 1 X.A ∧ (∃ cc P, X.env.code = .ref cc ∧ GxR.TabB X.base X.mg cc P ∧ P ∈ F.tb) ∧ (∀ f ps, (f, ps) ∈ c.fns → CallOK X F c.kws G.cl1 f ps 1) ∧ ∀ g ds S r, G.cl1 g ds S = some r → ∃ ps, (g, ps) ∈ c.fns
theorem CxOK.relk {G : Gb} {c : Cc} {X : Cx} {F : Fx} (h : CxOK G c X F) (lk : List Addr) : CxOK G c X { F with lk := lk } :=
  ⟨h.hK, h.hw, h.hN, h.nd, h.nm, h.kf, h.calm, h.gd, h.un, h.st, h.free, h.free3, h.free2, h.glb, fun f ps hf => ⟨(h.call f ps hf).ex, (h.call f ps hf).len, (h.call f ps hf).at_⟩, h.dom, fun ht => ⟨(h.tab ht).1, (h.tab ht).2.1, fun f ps hf => ⟨((h.tab ht).2.2.1 f ps hf).ex, ((h.tab ht).2.2.1 f ps hf).len, ((h.tab ht).2.2.1 f ps hf).at_⟩, (h.tab ht).2.2.2⟩⟩
/-- an expression is done as the evaluator tells -/
def SE (G : Gb) (c : Cc) (e : Expr) (x : E) : Prop := ∀ X F, CxOK G c X F → PE X e (RdE F (ev G x)) ∧ PT X e (RdT F (cond G x))
section
variable {G : Gb} {c : Cc} {X : Cx} {F : Fx}
theorem trueE {e : Expr} {f : EnvD → Sto → Option (D × Sto)} (hK : X.K = F.K) (h : PE X e (RdE F f)) (he : ∀ whole, isTrue e X.env whole = (do let v ← whole; standAt e.pos; holding [v] (truthy v))) :
    PT X e (RdT F fun env S => match f env S with
      | none => none
      | some (x, S1) => match truth S1 x with
        | none => none
        | some t => some (t, S1)) := by
  refine PTw (pt_truth h he) fun st H Q q => ?_
  obtain ⟨io, env, S, t, S', sl, so, e1, k⟩ := q
  dsimp only at e1
  cases q1 : f env S with
  | none => rw [q1] at e1; cases e1
  | some p =>
    obtain ⟨d, S1⟩ := p
    rw [q1] at e1
    simp only at e1
    cases q2 : truth S1 d with
    | none => rw [q2] at e1; cases e1
    | some t1 =>
      rw [q2] at e1
      cases e1
      exact ⟨io, env, S, d, _, sl, so, q1, fun io' H' v g so' r => ⟨_, by rw [hK]; exact truth_ok so' q2 r, k io' H' g so'⟩⟩
theorem SE.plain {e : Expr} {x : E} (h : ∀ X F, CxOK G c X F → PE X e (RdE F (ev G x))) (he : ∀ env whole, isTrue e env whole = (do let v ← whole; standAt e.pos; holding [v] (truthy v))) : SE G c e x := fun X F k =>
  ⟨h X F k, trueE k.hK (h X F k) (he X.env)⟩
/-! names, constants -/
def posOf (x : Str) : List Str → Option Nat
  | [] => none
  | y :: r => if y = x then some 0 else (posOf x r).map (· + 1)
theorem posOf_get {x : Str} : ∀ {N : List Str} {i : Nat}, posOf x N = some i → N[i]? = some x
  | [], _, h => by simp [posOf] at h
  | y :: r, i, h => by
    simp only [posOf] at h
    split at h
    · rename_i e
      cases h
      simp [e]
    · obtain ⟨j, h1, rfl⟩ := Option.map_eq_some_iff.mp h
      simpa using posOf_get h1
theorem sVar {x : Str} {pos : Pos} {i : Nat} (hi : c.N[i]? = some x) (hk : c.names.lookup x = some .local ∨ c.names.lookup x = some .cell ∨ c.names.lookup x = some .free) (h1 : (x == ("__debug__" : Str)) = false) (h2 : (x == ("__classdict__" : Str)) = false) : SE G c (.Name x pos) (.var i) := by
  refine SE.plain (fun X F k => ?_) fun _ _ => rfl
  refine PEw (pe_var (i := i) (by rw [k.hN]; exact hi) (by unfold Vis; rw [k.nm]; exact hk) h1 h2) fun st H Q q => ?_
  obtain ⟨io, env, S, d, S', sl, so, e, kk⟩ := q
  simp only [ev] at e
  split at e
  · rename_i d' q1
    cases e
    obtain ⟨v, h3, h4⟩ := sl.at_ i d q1
    exact ⟨v, h3, kk io H v (Grow.refl _ _) so h4⟩
  · cases e
theorem cst_ok {d : D} {v : V} {st : L2.St} {H : Hp} {Q : VK} (r : ∀ io, Rep F io H d v) (q : RdE F (ev G (.cst d)) st H Q) : Q v H := by
  obtain ⟨io, env, S, d', S', sl, so, e, kk⟩ := q
  simp only [ev, Option.some.injEq, Prod.mk.injEq] at e
  obtain ⟨rfl, rfl⟩ := e
  exact kk io H v (Grow.refl _ _) so (r io)
theorem sInt {i : Int} {j : Nat} {pos : Pos} : SE G c (.Constant (.int i) j pos) (.cst (.int i)) := SE.plain (fun X F k => PEw pe_int fun st H Q q => cst_ok (fun _ => .int _) q) fun _ _ => rfl
theorem sBl {i : Bool} {j : Nat} {pos : Pos} : SE G c (.Constant (.bool i) j pos) (.cst (.bl i)) := SE.plain (fun X F k => PEw pe_bl fun st H Q q => cst_ok (fun _ => .bl _) q) fun _ _ => rfl
theorem sNon {j : Nat} {pos : Pos} : SE G c (.Constant .none j pos) (.cst .non) := SE.plain (fun X F k => PEw pe_non fun st H Q q => cst_ok (fun _ => .non) q) fun _ _ => rfl
theorem sStr {i : Str} {j : Nat} {pos : Pos} : SE G c (.Constant (.str i) j pos) (.cst (.str i)) := SE.plain (fun X F k => PEw pe_str fun st H Q q => cst_ok (fun _ => .str _) q) fun _ _ => rfl
theorem gl_of (k : CxOK G c X F) {x : Str} (h : c.names.lookup x = some .globalImplicit) : L2.Gl X x := by
  unfold L2.Gl Env.kindOf
  rw [k.nm]
  exact h
theorem sGlb {x : Str} {pos : Pos} (hk : c.names.lookup x = some .globalImplicit) (hg : x ∈ c.glbs) (h1 : (x == ("__debug__" : Str)) = false) : SE G c (.Name x pos) (.glob x) := by
  refine SE.plain (fun X F k => ?_) fun _ _ => rfl
  constructor
  intro pins s st H Q I q
  obtain ⟨io, env, S, d, S', sl, so, e, kk⟩ := q
  simp only [ev] at e
  split at e
  · rename_i d' q1
    cases e
    obtain ⟨u, v, m, r, rp⟩ := k.glb x d hg q1
    exact (pe_glob (gl_of k hk) m r h1).run pins s st H Q I (kk io H v (Grow.refl _ _) so (rp F.lk io H))
  · cases e
theorem sFn {x : Str} {ps : List Str} {pos : Pos} (hk : c.names.lookup x = some .globalImplicit) (hf : (x, ps) ∈ c.fns) (h1 : (x == ("__debug__" : Str)) = false) : SE G c (.Name x pos) (.cst (.fn x)) := by
  refine SE.plain (fun X F k => ?_) fun _ _ => rfl
  constructor
  intro pins s st H Q I q
  exact (pe_glob (v := .ref (F.fa x)) (gl_of k hk) (k.call x ps hf).at_ rfl h1).run pins s st H Q I (cst_ok (fun _ => .fn x) q)
def tyNames : List Str := ["int", "str", "tuple", "list", "bool", "dict"]
theorem boot_tys : ∀ x ∈ tyNames, ∃ n, bootBuiltins x = some (.type n) ∧ Str.ofString n = x := by
  intro x hx
  simp only [tyNames, List.mem_cons, List.not_mem_nil, or_false] at hx
  rcases hx with rfl | rfl | rfl | rfl | rfl | rfl
  · exact ⟨"int", by decide +kernel, rfl⟩
  · exact ⟨"str", by decide +kernel, rfl⟩
  · exact ⟨"tuple", by decide +kernel, rfl⟩
  · exact ⟨"list", by decide +kernel, rfl⟩
  · exact ⟨"bool", by decide +kernel, rfl⟩
  · exact ⟨"dict", by decide +kernel, rfl⟩
theorem sTy {x : Str} {n : String} {pos : Pos} (hk : c.names.lookup x = some .globalImplicit) (hb : bootBuiltins x = some (.type n)) (hf : ∀ X F, CxOK G c X F → X.mg x = none) (h0 : x ≠ "__name__") (h1 : (x == ("__debug__" : Str)) = false) : SE G c (.Name x pos) (.cst (.ty n)) := by
  refine SE.plain (fun X F k => ?_) fun _ _ => rfl
  exact PEw (pe_bltn (v := .ty n) (gl_of k hk) (hf X F k) hb rfl h0 h1) fun st H Q q => cst_ok (fun _ => .ty _) q
/-! operations -/
theorem two {ta tb : EnvD → Sto → Option (D × Sto)} {f : Sto → D → D → Option (D × Sto)} {st : L2.St} {H : Hp} {R : V → V → Hp → Prop}
    (q : ∃ io env S r, SlOK F io H st env ∧ StOK F io H S ∧ (match ta env S with
      | none => none
      | some (x, S1) => match tb env S1 with
        | none => none
        | some (y, S2) => f S2 x y) = some r ∧ ∀ (x y : D) (S1 S2 : Sto) (io2 : List Addr) (H2 : Hp) (v u : V), f S2 x y = some r → Grow F io H io2 H2 → StOK F io2 H2 S2 → Rep F io2 H2 x v → Rep F io2 H2 y u → R v u H2) :
    RdE F ta st H fun v H1 => RdE F tb st H1 fun u H2 => R v u H2 := by
  obtain ⟨io, env, S, r, sl, so, e, k⟩ := q
  cases q1 : ta env S with
  | none => rw [q1] at e; cases e
  | some p =>
    obtain ⟨x, S1⟩ := p
    rw [q1] at e
    simp only at e
    cases q2 : tb env S1 with
    | none => rw [q2] at e; cases e
    | some p =>
      obtain ⟨y, S2⟩ := p
      rw [q2] at e
      simp only at e
      exact ⟨io, env, S, x, S1, sl, so, q1, fun io1 H1 v g1 so1 r1 => ⟨io1, env, S1, y, S2, sl.up g1, so1, q2, fun io2 H2 u g2 so2 r2 => k x y S1 S2 io2 H2 v u e (g1.trans g2) so2 (r1.up g2) r2⟩⟩
theorem sBin {op : Operator} {a b : Expr} {x y : E} {pos : Pos} (ha : SE G c a x) (hb : SE G c b y) : SE G c (.BinOp a op b pos) (.bin op x y) := by
  refine SE.plain (fun X F k => ?_) fun _ _ => rfl
  refine PEw (pe_op (opBS k.hK op) (ha X F k).1 (hb X F k).1) fun st H Q q => ?_
  obtain ⟨io, env, S, d, S', sl, so, e, kk⟩ := q
  refine two (f := fun S2 x y => match binS S2 op x y with
    | none => none
    | some d => some (d, S2)) ⟨io, env, S, (d, S'), sl, so, by simp only [ev] at e; exact e, fun x1 y1 S1 S2 io2 H2 v u ef g so2 r1 r2 => ?_⟩
  split at ef
  · cases ef
  · rename_i d' eb
    cases ef
    exact ⟨io2, _, x1, y1, _, so2, r1, r2, eb, fun io' H' w g' so' r' => kk io' H' w (g.trans g') so' r'⟩
theorem sInv {a : Expr} {x : E} {pos : Pos} (ha : SE G c a x) : SE G c (.UnaryOp .Invert a pos) (.inv x) := by
  refine SE.plain (fun X F k => ?_) fun _ _ => rfl
  refine PEw (pe_un un_inv (ha X F k).1) fun st H Q q => ?_
  obtain ⟨io, env, S, d, S', sl, so, e, kk⟩ := q
  simp only [ev] at e
  split at e
  · rename_i i S1 q1
    cases e
    refine ⟨io, env, S, _, _, sl, so, q1, fun io1 H1 v g1 so1 r1 => ?_⟩
    cases r1
    exact ⟨_, rfl, kk io1 H1 _ g1 so1 (.int _)⟩
  · cases e
theorem sBlen {o : Expr} {x : E} {apos pos : Pos} (ho : SE G c o x) (hb : ∀ env, attributeBase o ("bit_length" : Str) env (eval o env) = eval o env) (hl : (apos.endLine == pos.line) = true) :
    SE G c (.Call (.Attribute o ("bit_length" : Str) apos) [] [] pos) (.blen x) := by
  refine SE.plain (fun X F k => ?_) fun _ _ => rfl
  refine PEw (pe_bits (ho X F k).1 (hb X.env) hl) fun st H Q q => ?_
  obtain ⟨io, env, S, d, S', sl, so, e, kk⟩ := q
  simp only [ev] at e
  split at e
  · rename_i i S1 q1
    cases e
    refine ⟨io, env, S, _, _, sl, so, q1, fun io1 H1 v g1 so1 r1 => ?_⟩
    cases r1
    exact ⟨_, rfl, kk io1 H1 _ g1 so1 (.int _)⟩
  · cases e
theorem sNeg {a : Expr} {x : E} {pos : Pos} (ha : SE G c a x) : SE G c (.UnaryOp .USub a pos) (.neg x) := by
  refine SE.plain (fun X F k => ?_) fun _ _ => rfl
  refine PEw (pe_un un_neg (ha X F k).1) fun st H Q q => ?_
  obtain ⟨io, env, S, d, S', sl, so, e, kk⟩ := q
  simp only [ev] at e
  split at e
  · rename_i i S1 q1
    cases e
    refine ⟨io, env, S, .int i, _, sl, so, q1, fun io1 H1 v g1 so1 r1 => ?_⟩
    cases r1
    exact ⟨i, rfl, kk io1 H1 _ g1 so1 (.int _)⟩
  · cases e
theorem sNot {a : Expr} {x : E} {pos : Pos} (ha : SE G c a x) : SE G c (.UnaryOp .Not a pos) (.not' x) := by
  intro X F k
  constructor
  · refine PEw (pe_notT (ha X F k).1) fun st H Q q => ?_
    obtain ⟨io, env, S, d, S', sl, so, e, kk⟩ := q
    simp only [ev] at e
    split at e
    · cases e
    · rename_i x1 S1 q1
      split at e
      · cases e
      · rename_i t q2
        cases e
        exact ⟨io, env, S, x1, _, sl, so, q1, fun io1 H1 v g1 so1 r1 => ⟨t, by rw [k.hK]; exact truth_ok so1 q2 r1, kk io1 H1 _ g1 so1 (.bl _)⟩⟩
  · refine PTw (pt_not (ha X F k).2) fun st H Q q => ?_
    obtain ⟨io, env, S, d, S', sl, so, e, kk⟩ := q
    simp only [cond, ev] at e
    cases q1 : ev G x env S with
    | none => rw [q1] at e; cases e
    | some p =>
      obtain ⟨x1, S1⟩ := p
      rw [q1] at e
      simp only at e
      cases q2 : truth S1 x1 with
      | none => rw [q2] at e; cases e
      | some t =>
        rw [q2] at e
        simp only [truth, Option.some.injEq, Prod.mk.injEq] at e
        obtain ⟨rfl, rfl⟩ := e
        exact ⟨io, env, S, t, S1, sl, so, by simp only [cond, q1, q2], fun io1 H1 g1 so1 => kk io1 H1 g1 so1⟩
theorem sCmp {op : CmpOp} {a b : Expr} {x y : E} {pos : Pos} (ha : SE G c a x) (hb : SE G c b y) (hm : behindInMarks op b = false) : SE G c (.Compare a [op] [b] pos) (.cmp op x y) := by
  intro X F k
  have step : ∀ {st : L2.St} {H : Hp} {Q : VK}, RdE F (ev G (.cmp op x y)) st H Q → tOp (rC F fun S => cop S op) (RdE F (ev G x)) (RdE F (ev G y)) st H Q := fun {st H Q} q => by
    obtain ⟨io, env, S, d, S', sl, so, e, kk⟩ := q
    refine two (f := fun S2 x y => match cop S2 op x y with
      | none => none
      | some t => some (D.bl t, S2)) ⟨io, env, S, (d, S'), sl, so, by simp only [ev] at e; exact e, fun x1 y1 S1 S2 io2 H2 v u ef g so2 r1 r2 => ?_⟩
    split at ef
    · cases ef
    · rename_i t eb
      cases ef
      exact ⟨io2, _, x1, y1, t, so2, r1, r2, eb, kk io2 H2 _ g so2 (.bl _)⟩
  constructor
  · exact PEw (pe_cmpR (opC k.hK k.hw k.un op) (ha X F k).1 (hb X F k).1 hm) fun st H Q q => step q
  · refine PTw (pt_cmpR (opC k.hK k.hw k.un op) (ha X F k).1 (hb X F k).1 hm) fun st H Q q => ?_
    obtain ⟨io, env, S, d, S', sl, so, e, kk⟩ := q
    refine step ?_
    simp only [cond] at e
    split at e
    · cases e
    · rename_i x1 S1 q1
      have q0 := q1
      simp only [ev] at q1
      split at q1
      · cases q1
      · split at q1
        · cases q1
        · split at q1
          · cases q1
          · rename_i t _
            cases q1
            simp only [truth, Option.some.injEq, Prod.mk.injEq] at e
            obtain ⟨rfl, rfl⟩ := e
            refine ⟨io, env, S, .bl t, S1, sl, so, q0, fun io1 H1 v g1 so1 r1 => ?_⟩
            cases r1
            exact ⟨t, rfl, kk io1 H1 g1 so1⟩
theorem sChain {op op' : CmpOp} {a b d : Expr} {x y z : E} {pos : Pos} (ha : SE G c a x) (hb : SE G c b y) (hd : SE G c d z) (hm : lastMarks [op, op'] [b, d] = false) : SE G c (.Compare a [op, op'] [b, d] pos) (.chain op op' x y z) := by
  intro X F k
  have step : ∀ {st : L2.St} {H : Hp} {Q : VK}, RdE F (ev G (.chain op op' x y z)) st H Q → tChain (rC F fun S => cop S op) (rC F fun S => cop S op') (RdE F (ev G x)) (RdE F (ev G y)) (RdE F (ev G z)) st H Q := fun {st H Q} q => by
    obtain ⟨io, env, S, dd, S', sl, so, e, kk⟩ := q
    refine two (f := fun S2 x y => match cop S2 op x y with
        | none => none
        | some false => some (.bl false, S2)
        | some true => match ev G z env S2 with
          | none => none
          | some (z, S3) => match cop S3 op' y z with
            | none => none
            | some t => some (.bl t, S3)) ⟨io, env, S, (dd, S'), sl, so, by simp only [ev] at e; exact e, fun x1 y1 S1 S2 io2 H2 v u ef g so2 r1 r2 => ?_⟩
    split at ef
    · cases ef
    · rename_i eb
      cases ef
      exact ⟨io2, _, x1, y1, false, so2, r1, r2, eb, false, rfl, iteF (kk io2 H2 _ g so2 (.bl _))⟩
    · rename_i eb
      refine ⟨io2, S2, x1, y1, true, so2, r1, r2, eb, true, rfl, ?_⟩
      rw [if_pos rfl]
      split at ef
      · cases ef
      · rename_i z1 S3 q3
        split at ef
        · cases ef
        · rename_i t q4
          cases ef
          exact ⟨io2, env, S2, z1, _, sl.up g, so2, q3, fun io3 H3 w g3 so3 r3 => ⟨io3, _, y1, z1, t, so3, r2.up g3, r3, q4, kk io3 H3 _ (g.trans g3) so3 (.bl _)⟩⟩
  constructor
  · exact PEw (pe_chain (opC k.hK k.hw k.un op) (opC k.hK k.hw k.un op') (ha X F k).1 (hb X F k).1 (hd X F k).1 hm) fun st H Q q => step q
  · refine PTw (pt_chain (opC k.hK k.hw k.un op) (opC k.hK k.hw k.un op') (ha X F k).1 (hb X F k).1 (hd X F k).1 hm) fun st H Q q => ?_
    obtain ⟨io, env, S, d, S', sl, so, e, kk⟩ := q
    refine step ?_
    simp only [cond] at e
    split at e
    · cases e
    · rename_i x1 S1 q1
      split at e
      · cases e
      · rename_i t q2
        cases e
        refine ⟨io, env, S, x1, _, sl, so, q1, fun io1 H1 v g1 so1 r1 => ?_⟩
        have hb : ∃ t', x1 = .bl t' := by
          simp only [ev] at q1
          repeat' split at q1
          all_goals first
            | (cases q1; exact ⟨_, rfl⟩)
            | (cases q1; done)
        obtain ⟨t', rfl⟩ := hb
        simp only [truth, Option.some.injEq] at q2
        subst q2
        cases r1
        exact ⟨_, rfl, kk io1 H1 g1 so1⟩
theorem sOne {op : BoolOp} {a : Expr} {x : E} {pos : Pos} (ha : SE G c a x) : SE G c (.BoolOp op [a] pos) x := fun X F k =>
  ⟨pe_one (ha X F k).1, by
    cases op
    · exact (pw_and1 (ha X F k).2).pt
    · exact (pw_or1 (ha X F k).2).pt⟩
/-- a BoolOp as a test whatever its whole is -/
def SW (G : Gb) (c : Cc) (e : Expr) (x : E) : Prop := ∀ X F, CxOK G c X F → PE X e (RdE F (ev G x)) ∧ PW X e (RdT F (cond G x))
theorem SW.se {e : Expr} {x : E} (h : SW G c e x) : SE G c e x := fun X F k => ⟨(h X F k).1, (h X F k).2.pt⟩
theorem wAnd1 {a : Expr} {x : E} {pos : Pos} (ha : SE G c a x) : SW G c (.BoolOp .And [a] pos) x := fun X F k => ⟨pe_one (ha X F k).1, pw_and1 (ha X F k).2⟩
theorem wOr1 {a : Expr} {x : E} {pos : Pos} (ha : SE G c a x) : SW G c (.BoolOp .Or [a] pos) x := fun X F k => ⟨pe_one (ha X F k).1, pw_or1 (ha X F k).2⟩
theorem cond_of {x : E} {env : EnvD} {S S1 : Sto} {d : D} {t : Bool} (h : ev G x env S = some (d, S1)) (h2 : truth S1 d = some t) : cond G x env S = some (t, S1) := by simp only [cond, h, h2]
theorem of_cond {x : E} {env : EnvD} {S S1 : Sto} {t : Bool} (h : cond G x env S = some (t, S1)) : ∃ d, ev G x env S = some (d, S1) ∧ truth S1 d = some t := by
  simp only [cond] at h
  split at h
  · cases h
  · rename_i d S2 q
    split at h
    · cases h
    · rename_i t2 q2
      cases h
      exact ⟨d, q, q2⟩
theorem wAnd {a b : Expr} {rest : List Expr} {x y : E} {pos : Pos} (ha : SE G c a x) (hb : SW G c (.BoolOp .And (b :: rest) pos) y) : SW G c (.BoolOp .And (a :: b :: rest) pos) (.and' x y) := by
  intro X F k
  constructor
  · refine PEw (pe_andT (ha X F k).1 (hb X F k).1) fun st H Q q => ?_
    obtain ⟨io, env, S, d, S', sl, so, e, kk⟩ := q
    simp only [ev] at e
    split at e
    · cases e
    · rename_i x1 S1 q1
      refine ⟨io, env, S, x1, S1, sl, so, q1, fun io1 H1 v g1 so1 r1 => ?_⟩
      split at e
      · cases e
      · rename_i q2
        exact ⟨true, by rw [k.hK]; exact truth_ok so1 q2 r1, iteT (⟨io1, env, S1, d, S', sl.up g1, so1, e, fun io' H' w g' so' r' => kk io' H' w (g1.trans g') so' r'⟩)⟩
      · rename_i q2
        cases e
        exact ⟨false, by rw [k.hK]; exact truth_ok so1 q2 r1, iteF (kk io1 H1 v g1 so1 r1)⟩
  · refine PWw (pw_and (ha X F k).2 (hb X F k).2) fun st H Q q => ?_
    obtain ⟨io, env, S, t, S', sl, so, e, kk⟩ := q
    obtain ⟨d, e1, e2⟩ := of_cond e
    simp only [ev] at e1
    split at e1
    · cases e1
    · rename_i x1 S1 q1
      split at e1
      · cases e1
      · rename_i q2
        exact ⟨io, env, S, true, S1, sl, so, cond_of q1 q2, fun io1 H1 g1 so1 => iteT (⟨io1, env, S1, t, S', sl.up g1, so1, cond_of e1 e2, fun io' H' g' so' => kk io' H' (g1.trans g') so'⟩)⟩
      · rename_i q2
        cases e1
        rw [q2] at e2
        cases e2
        exact ⟨io, env, S, false, S', sl, so, cond_of q1 q2, fun io1 H1 g1 so1 => iteF (kk io1 H1 g1 so1)⟩
theorem wOr {a b : Expr} {rest : List Expr} {x y : E} {pos : Pos} (ha : SE G c a x) (hb : SW G c (.BoolOp .Or (b :: rest) pos) y) : SW G c (.BoolOp .Or (a :: b :: rest) pos) (.or' x y) := by
  intro X F k
  constructor
  · refine PEw (pe_orT (ha X F k).1 (hb X F k).1) fun st H Q q => ?_
    obtain ⟨io, env, S, d, S', sl, so, e, kk⟩ := q
    simp only [ev] at e
    split at e
    · cases e
    · rename_i x1 S1 q1
      refine ⟨io, env, S, x1, S1, sl, so, q1, fun io1 H1 v g1 so1 r1 => ?_⟩
      split at e
      · cases e
      · rename_i q2
        cases e
        exact ⟨true, by rw [k.hK]; exact truth_ok so1 q2 r1, iteT (kk io1 H1 v g1 so1 r1)⟩
      · rename_i q2
        exact ⟨false, by rw [k.hK]; exact truth_ok so1 q2 r1, iteF (⟨io1, env, S1, d, S', sl.up g1, so1, e, fun io' H' w g' so' r' => kk io' H' w (g1.trans g') so' r'⟩)⟩
  · refine PWw (pw_or (ha X F k).2 (hb X F k).2) fun st H Q q => ?_
    obtain ⟨io, env, S, t, S', sl, so, e, kk⟩ := q
    obtain ⟨d, e1, e2⟩ := of_cond e
    simp only [ev] at e1
    split at e1
    · cases e1
    · rename_i x1 S1 q1
      split at e1
      · cases e1
      · rename_i q2
        cases e1
        rw [q2] at e2
        cases e2
        exact ⟨io, env, S, true, S', sl, so, cond_of q1 q2, fun io1 H1 g1 so1 => iteT (kk io1 H1 g1 so1)⟩
      · rename_i q2
        exact ⟨io, env, S, false, S1, sl, so, cond_of q1 q2, fun io1 H1 g1 so1 => iteF (⟨io1, env, S1, t, S', sl.up g1, so1, cond_of e1 e2, fun io' H' g' so' => kk io' H' (g1.trans g') so'⟩)⟩
theorem sIf {a b d : Expr} {x y z : E} {pos : Pos} (ha : SE G c a x) (hb : SE G c b y) (hd : SE G c d z) (X : Cx) (F : Fx) (k : CxOK G c X F) : PE X (.IfExp a b d pos) (RdE F (ev G (.ife x y z))) := by
  refine PEw (pe_ifExp (ha X F k).2 (hb X F k).1 (hd X F k).1) fun st H Q q => ?_
  obtain ⟨io, env, S, r, S', sl, so, e, kk⟩ := q
  simp only [ev] at e
  split at e
  · cases e
  · rename_i x1 S1 q1
    split at e
    · cases e
    · rename_i q2
      exact ⟨io, env, S, true, S1, sl, so, cond_of q1 q2, fun io1 H1 g1 so1 => iteT (⟨io1, env, S1, r, S', sl.up g1, so1, e, fun io' H' w g' so' r' => kk io' H' w (g1.trans g') so' r'⟩)⟩
    · rename_i q2
      exact ⟨io, env, S, false, S1, sl, so, cond_of q1 q2, fun io1 H1 g1 so1 => iteF (⟨io1, env, S1, r, S', sl.up g1, so1, e, fun io' H' w g' so' r' => kk io' H' w (g1.trans g') so' r'⟩)⟩
end
end Ev

set_option maxHeartbeats 2000000
/-! a number by its bits: f'{n:b}' -/
namespace Ev
open PySem PySem.Spec PyProof.Rows L2
open Builtin Float
/-- the bits of a number, as text -/
def binT (n : Nat) : Str := ⟨((Nat.toDigits 2 n).map Char.toNat).toArray⟩
def bin0 (n : Nat) : Str := intField' { fill := 32, align := 62, type := some 98 } (decide ((n : Int) < 0)) [] ((Nat.toDigits 2 (n : Int).natAbs).map fun c => (if (98 : Nat) == 88 then c.toUpper else c).toNat) [] 4
theorem digits_ne (n : Nat) : Nat.toDigits 2 n ≠ [] := fun h => by
  have := @Nat.length_toDigits_pos 2 n
  rw [h] at this
  exact absurd this (by simp)
theorem bin0_eq (n : Nat) : bin0 n = binT n := by
  have h := digits_ne n
  have e : ((Nat.toDigits 2 n).map fun c => (if ((98 : Nat) == 88) = true then c.toUpper else c).toNat) = (Nat.toDigits 2 n).map Char.toNat := List.map_congr_left fun c _ => rfl
  have h2 : ((Nat.toDigits 2 n).map Char.toNat).isEmpty = false := by simpa using h
  have h3 : decide ((n : Int) < 0) = false := decide_eq_false (by omega)
  unfold bin0 binT intField'
  simp only [Int.natAbs_natCast, e, h2, h3]
  have h4 : ((-1 : Int) - ((0 : Nat) + (0 : Nat) + (0 : Nat) : Int) - (((Nat.toDigits 2 n).map Char.toNat).length : Int)).toNat = 0 := by omega
  simp
  try omega
theorem wp_swap {M : PySem.Model} {A : Around} {α : Type} {t t' : Sem α} {Q : α → Shared → Prop} {E : Value → Shared → Prop} {s : Shared} (e : t = t') (h : wpAny M A t' Q E s) : wpAny M A t Q E s := e ▸ h
section
variable {prog : Program} {w : World} {A : Around} {E : Value → Shared → Prop} {s : Shared}
theorem spec_b : parseFormatSpec ("b" : Str).cps.toList "int" 62 = .ok { fill := 32, align := 62, type := some 98 } := by kernel_rfl
theorem formatField_binS {n : Nat} {t : Tok} {sp : Str} {Q : Value → Shared → Prop} (h0 : (sp.length == 0) = false) (h1 : sp.length ≤ sizeLine) (h2 : ((sp.cps.toList.drop 1).any (· ≥ 128) || (sp.cps.getD 0 0 ≥ 128 && !([60, 62, 61, 94] : List Nat).contains (sp.cps.getD 1 0))) = false)
    (h3 : parseFormatSpec sp.cps.toList "int" 62 = .ok { fill := 32, align := 62, type := some 98 }) (hl : (binT n).length ≤ sizeLine) (h : Q (.str (binT n) (s.toks + 1)) { s with toks := s.toks + 1 + 1 }) :
    wpAny (model prog w) A (formatField (.int (n : Int) t) sp) Q E s := by
  show wpAny _ _ (holding [.int (n : Int) t] (pyFormat (.int (n : Int) t) sp)) Q E s
  refine wpAny_holding ?_
  unfold pyFormat
  refine wpAny_bind (wpAny_mkStr ?_ h1)
  refine wpAny_bind (m := callSpecial? (.int (n : Int) t) (Str.ofString "__format__") [.str sp s.toks]) (wpAny_callSpecial?_slot (name := Str.ofString "__format__") (typeIs_int _ (n : Int) t) F.slot_int_format ?_)
  refine wpAny_call (codeAny_call_builtin F.slot_int_format.plain F.entry_int_format (F.slot_int_format.check _ _ _ _ _ _ _ _ (typeIs_int _ (n : Int) t) (F.args_int_format_2 _ _) ?_))
  unfold Builtin.«int.__format__»
  simp only [selfAndOne, noKeywords, Int.intOfSelf, asInt?, asStr?, List.isEmpty_nil, if_true, pure_bind, bind_pure, bind_assoc, Bool.false_eq_true, if_false,
    show (Value.str sp s.toks == Value.none) = false from rfl, h0, h2]
  refine wpAny_bind (wpAny_typeNameOf (T := "str") (typeIs_str _ _ _) (by decide) fun _ => ?_)
  refine wpAny_bind (wpAny_typeNameOfCut_int ?_)
  simp only [h3]
  refine wp_swap (t' := retStr (bin0 n)) (by kernel_rfl) ?_
  rw [bin0_eq]
  unfold retStr
  refine wpAny_bind (wpAny_mkStr (wpAny_pure ?_) hl)
  dsimp only
  exact wpAny_bind (wpAny_isInstance (typeIs_str _ _ _) isSubtype_str_str (wpAny_pure h))
theorem formatField_bin {n : Nat} {t : Tok} {Q : Value → Shared → Prop} (hl : (binT n).length ≤ sizeLine) (h : Q (.str (binT n) (s.toks + 1)) { s with toks := s.toks + 1 + 1 }) :
    wpAny (model prog w) A (formatField (.int (n : Int) t) ("b" : Str)) Q E s :=
  formatField_binS (by kernel_rfl) (by decide +kernel) (by kernel_rfl) spec_b hl h
/-- {n:b} -/
def tFmtB (te : TE) : TE := fun σ H Q => te σ H fun x H1 => ∃ n : Nat, x = .int (n : Int) ∧ (binT n).length ≤ sizeLine ∧ Q (.str (binT n)) H1
theorem pe_fmtB {X : Cx} {e : Expr} {te : TE} {j : Nat} {p pos : Pos} {sp : Str} (hs : sp = ("b" : Str)) {p2 : Pos} (he : PE X e te) : PE X (.FormattedValue e (-1) (some (.JoinedStr [.Constant (.str sp) j p] p2)) pos) (tFmtB te) := by
  subst hs
  refine ⟨fun pins s σ H Q I h => ?_⟩
  refine wpAny_FormattedValue_spec (thn (he.run pins s σ H _ I h) fun v s1 hv => ?_)
  obtain ⟨x, H1, I1, r1, n, rfl, hl, q⟩ := hv
  obtain ⟨t, rfl⟩ := r1
  have hc : PE X (.JoinedStr [.Constant (.str ("b" : Str)) j p] p2) (tC (.str ("b" : Str))) := pe_joined1 pe_str
  refine thn (hc.run pins s1 σ H1 (fun v H2 => v = .str ("b" : Str) ∧ H2 = H1) I1 ⟨rfl, rfl⟩) fun v s2 hv => ?_
  obtain ⟨x, H2, I2, r2, rfl, rfl⟩ := hv
  obtain ⟨t2, rfl⟩ := r2
  exact ⟨_, _, rfl, formatField_bin hl ⟨.str (binT n), _, (I2.tok _), ⟨_, rfl⟩, q⟩⟩
end
/-! how many ones -/
theorem occ_count (x : Str) (c limit : Nat) : ∀ (k lo : Nat) (a : Array Nat) (free : Nat), free ≤ lo → lo + k = x.length + 1 → a.size + k ≤ limit →
    ((forIn (List.range' lo k) (a, free) (PySem.StrLaws.occBody x ⟨#[c]⟩ x.length limit)).run.fst.size = a.size + ((x.cps.toList.drop lo).filter fun d => d == c).length)
  | 0, lo, a, free, hf, hl, _ => by
    have : x.cps.toList.drop lo = [] := List.drop_eq_nil_of_le (by show x.cps.size ≤ lo; have : x.length = x.cps.size := rfl; omega)
    rw [this]
    rfl
  | k + 1, lo, a, free, hf, hl, hz => by
    rw [List.range'_succ, List.forIn_cons]
    have hw := PySem.StrLaws.subAt_one x c lo
    by_cases h : x.cps.toList[lo]? = some c
    · obtain ⟨h1, h2⟩ := hw.mpr h
      have hlt : lo < x.cps.toList.length := (List.getElem?_eq_some_iff.mp h).1
      have e : PySem.StrLaws.occBody x ⟨#[c]⟩ x.length limit lo (a, free) = pure (ForInStep.yield (a.push lo, lo + 1)) := by
        unfold PySem.StrLaws.occBody
        rw [if_pos ⟨⟨⟨by show a.size < limit; omega, hf⟩, h1⟩, h2⟩]
        rfl
      rw [e]
      have ih := occ_count x c limit k (lo + 1) (a.push lo) (lo + 1) (Nat.le_refl _) (by omega) (by rw [Array.size_push]; omega)
      have hd : x.cps.toList.drop lo = c :: x.cps.toList.drop (lo + 1) := by
        rw [List.drop_eq_getElem_cons hlt]
        congr 1
        exact (List.getElem?_eq_some_iff.mp h).2
      rw [hd, List.filter_cons_of_pos (by simp), List.length_cons]
      refine Eq.trans ih ?_
      rw [Array.size_push]
      omega
    · have e : PySem.StrLaws.occBody x ⟨#[c]⟩ x.length limit lo (a, free) = pure (ForInStep.yield (a, free)) := by
        unfold PySem.StrLaws.occBody
        rw [if_neg fun z => h (hw.mp ⟨z.1.2, z.2⟩)]
      rw [e]
      have ih := occ_count x c limit k (lo + 1) a free (by omega) (by omega) (by omega)
      have hd : ((x.cps.toList.drop lo).filter fun d => d == c) = (x.cps.toList.drop (lo + 1)).filter fun d => d == c := by
        by_cases hlt : lo < x.cps.toList.length
        · rw [List.drop_eq_getElem_cons hlt, List.filter_cons_of_neg]
          intro z
          exact h (by rw [List.getElem?_eq_getElem hlt]; exact congrArg some (by simpa using z))
        · rw [List.drop_eq_nil_of_le (by omega), List.drop_eq_nil_of_le (by omega)]
      rw [hd]
      exact ih
theorem count_one (x : Str) (c : Nat) : Txt.count x ⟨#[c]⟩ = ((x.cps.toList.filter fun d => d == c).length : Nat) := by
  unfold Txt.count
  rw [PySem.StrLaws.occ_eq, Array.length_toList]
  have h := occ_count x c (x.length + 1) (x.length + 1) 0 #[] 0 (Nat.le_refl _) (by omega) (by simp)
  rw [show x.length + 1 - 0 = x.length + 1 from rfl]
  have h2 : (#[] : Array Nat).size = 0 := rfl
  rw [h2, Nat.zero_add, List.drop_zero] at h
  exact congrArg _ h
theorem digit2 (n : Nat) : (([Nat.digitChar (n % 2)].map Char.toNat).filter fun d => d == 49).length = n % 2 := by
  rcases Nat.mod_two_eq_zero_or_one n with h | h <;> rw [h] <;> rfl
theorem onesF_zero : ∀ k, onesF k 0 = 0
  | 0 => rfl
  | k + 1 => by simp [onesF, onesF_zero k]
theorem ones_digits : ∀ (k n : Nat), n < 2 ^ k → (((Nat.toDigits 2 n).map Char.toNat).filter fun d => d == 49).length = onesF k n
  | 0, n, h => by
    have : n = 0 := by simpa using h
    subst this
    rfl
  | k + 1, n, h => by
    rw [Nat.toDigits_eq_if (by decide)]
    split
    · rename_i h2
      have e : onesF (k + 1) n = n % 2 := by
        show n % 2 + onesF k (n / 2) = _
        rw [show n / 2 = 0 by omega, onesF_zero]
        rfl
      rw [e, ← digit2 n, Nat.mod_eq_of_lt h2]
    · rw [List.map_append, List.filter_append, List.length_append, ones_digits k (n / 2) (by rw [Nat.pow_succ] at h; omega), digit2]
      show _ = n % 2 + onesF k (n / 2)
      omega
theorem count_bin {n : Nat} (h : n < 2 ^ 64) : Txt.count (binT n) ("1" : Str) = (onesN n : Nat) := by
  have e : ("1" : Str) = ⟨#[49]⟩ := by decide +kernel
  rw [e, count_one]
  unfold binT onesN
  rw [← ones_digits 64 n h]
theorem bin_len {n : Nat} (h : n < 2 ^ 64) : (binT n).length ≤ 64 := by
  show (((Nat.toDigits 2 n).map Char.toNat).toArray).size ≤ 64
  rw [List.size_toArray, List.length_map]
  rw [Nat.length_toDigits_le_iff (by decide) (by decide)]
  exact h
theorem sOnes {a : Expr} {x : E} {j j2 : Nat} {p p1 p2 p3 p4 apos pos : Pos} {sp z : Str} {G : Gb} {c : Cc} (hs : sp = ("b" : Str)) (hz : z = ("1" : Str)) (ha : SE G c a x) (hl : (apos.endLine == pos.line) = true) :
    SE G c (.Call (.Attribute (.JoinedStr [.FormattedValue a (-1) (some (.JoinedStr [.Constant (.str sp) j p] p1)) p2] p3) ("count" : Str) apos) [.Constant (.str z) j2 p4] [] pos) (.ones x) := by
  subst hz
  refine SE.plain (fun X F k => ?_) fun _ _ => rfl
  refine PEw (pe_m1 PySem.F.slot_str_count PySem.F.type_str_count mt_count (pe_joined1 (pe_fmtB hs (ha X F k).1)) pe_str rfl rfl hl) fun st H Q q => ?_
  obtain ⟨io, env, S, d, S', sl, so, e, kk⟩ := q
  simp only [ev] at e
  split at e
  · rename_i i S1 q1
    split at e
    · rename_i hi
      cases e
      refine ⟨io, env, S, _, _, sl, so, q1, fun io1 H1 v g1 so1 r1 => ?_⟩
      cases r1
      have hb : i.toNat < 2 ^ 64 := by omega
      refine ⟨i.toNat, by rw [Int.toNat_of_nonneg hi.1], by have := bin_len hb; rw [sizeLine_eq]; omega, ⟨_, rfl⟩, ?_⟩
      refine ⟨_, _, rfl, rfl, ?_⟩
      rw [count_bin hb]
      exact kk io1 H1 _ g1 so1 (.int _)
    · cases e
  · cases e
end Ev

namespace Ev
open PySem PySem.Spec PyProof.Rows L2
def notStar : Expr → Bool
  | .Starred _ _ => false
  | _ => true
theorem star_cons {e : Expr} {es : List Expr} {env : Env} (h : notStar e = true) : starEach (e :: es) env = (false, eval e env) :: starEach es env := by
  cases e <;> first
    | rfl
    | (simp [notStar] at h; done)
theorem star_all {pos : Pos} {env : Env} : ∀ {es : List Expr}, es.all notStar = true → (backTo pos (starEach es env)).any (·.1) = false
  | [], _ => rfl
  | e :: es, h => by
    simp only [List.all_cons, Bool.and_eq_true] at h
    rw [star_cons h.1]
    have ih := star_all (pos := pos) (env := env) h.2
    simp only [backTo, List.map_cons, List.any_cons, Bool.false_or] at ih ⊢
    exact ih
inductive SA (G : Gb) (c : Cc) : List Expr → List E → Prop
  | nil : SA G c [] []
  | cons {e : Expr} {es : List Expr} {x : E} {xs : List E} : notStar e = true → SE G c e x → SA G c es xs → SA G c (e :: es) (x :: xs)
theorem SA.ns {G : Gb} {c : Cc} : ∀ {es : List Expr} {xs : List E}, SA G c es xs → es.all notStar = true
  | _, _, .nil => rfl
  | _, _, .cons h _ t => by simp only [List.all_cons, h, SA.ns t, Bool.and_self]
theorem SA.ln {G : Gb} {c : Cc} : ∀ {es : List Expr} {xs : List E}, SA G c es xs → es.length = xs.length
  | _, _, .nil => rfl
  | _, _, .cons _ _ t => by rw [List.length_cons, List.length_cons, SA.ln t]
theorem SA.pa {G : Gb} {c : Cc} {X : Cx} {F : Fx} (k : CxOK G c X F) : ∀ {es : List Expr} {xs : List E}, SA G c es xs → PA X es (RdA F (evs G xs))
  | _, _, .nil => PAw pa_nil fun st H Q q => by
    obtain ⟨io, env, S, d, S', sl, so, e, kk⟩ := q
    simp only [evs, Option.some.injEq, Prod.mk.injEq] at e
    obtain ⟨rfl, rfl⟩ := e
    exact kk io H [] (Grow.refl _ _) so .nil
  | _, _, .cons h ha hs => PAw (pa_cons (ha X F k).1 (SA.pa k hs) (star_cons h)) fun st H Q q => by
    obtain ⟨io, env, S, d, S', sl, so, e1, kk⟩ := q
    simp only [evs] at e1
    split at e1
    · cases e1
    · rename_i d0 S1 q1
      split at e1
      · cases e1
      · rename_i ds S2 q2
        cases e1
        exact ⟨io, env, S, d0, _, sl, so, q1, fun io1 H1 v g1 so1 r1 => ⟨io1, env, _, ds, _, sl.up g1, so1, q2, fun io2 H2 vs g2 so2 r2 => kk io2 H2 (v :: vs) (g1.trans g2) so2 (.cons (r1.up g2) r2)⟩⟩
section
variable {G : Gb} {c : Cc} {X : Cx} {F : Fx}
/-! calls -/
theorem boot_bf (f : Bf) : bootBuiltins f.name = some (bfv f) := by cases f <;> decide +kernel
theorem sBlt {f : Bf} {e : Expr} {es : List Expr} {xs : List E} {p pos : Pos} (ha : SA G c (e :: es) xs) (hk : c.names.lookup f.name = some .globalImplicit) : SE G c (.Call (.Name f.name p) (e :: es) [] pos) (.blt f xs) := by
  refine SE.plain (fun X F k => ?_) fun _ _ => rfl
  have h1 : notStar e = true := by
    have := ha.ns
    simp only [List.all_cons, Bool.and_eq_true] at this
    exact this.1
  have h2 : es.all notStar = true := by
    have := ha.ns
    simp only [List.all_cons, Bool.and_eq_true] at this
    exact this.2
  have key : PE X (.Call (.Name f.name p) (e :: es) [] pos) (tCB (rBf F f) (RdA F (evs G xs))) := by
    have cb := callB k.hK k.calm k.gd k.un f
    have bt := boot_bf f
    cases f <;> first
      | exact pe_callB cb (gl_of k hk) (k.free _) bt (ha.pa k) (by decide) (by decide) (star_cons h1) (star_all h2)
      | exact pe_callTy cb (gl_of k hk) (k.free _) bt (ha.pa k) (by decide) (by decide) (star_cons h1) (star_all h2)
  refine PEw key fun st H Q q => ?_
  obtain ⟨io, env, S, d, S', sl, so, e1, kk⟩ := q
  simp only [ev] at e1
  split at e1
  · cases e1
  · rename_i ds S1 q1
    split at e1
    · cases e1
    · rename_i d0 q2
      cases e1
      exact ⟨io, env, S, ds, _, sl, so, q1, fun io1 H1 vs g1 so1 r1 => ⟨io1, _, ds, _, so1, r1, q2, fun io' H' w g' so' r' => kk io' H' w (g1.trans g') so' r'⟩⟩
theorem fx_eta (F : Fx) : (⟨F.K, F.fa, F.lk, F.tb, F.w⟩ : Fx) = F := rfl
theorem sCall {f : Str} {ps : List Str} {es : List Expr} {xs : List E} {p pos : Pos} (ha : SA G c es xs) (hk : c.names.lookup f = some .globalImplicit) (hf : (f, ps) ∈ c.fns) (hdb : (f == ("__debug__" : Str)) = false) : SE G c (.Call (.Name f p) es [] pos) (.call f xs) := by
  refine SE.plain (fun X F k => ?_) fun _ _ => rfl
  obtain ⟨⟨a, fd, n, hm, kp, fg, room, bnd, _⟩, hlen, _⟩ := k.call f ps hf
  cases es with
  | nil =>
    refine PEw (pe_callG0 fg room k.gd (gl_of k hk) hm kp bnd hdb) fun st H Q q => ?_
    obtain ⟨io, env, S, d, S', sl, so, e1, kk⟩ := q
    have e0 : xs = [] := List.eq_nil_of_length_eq_zero ha.ln.symm
    subst e0
    simp only [ev, evs] at e1
    exact ⟨F.lk, io, S, [], d, S', so, .nil, e1, hlen _ _ _ e1, kk⟩
  | cons e es =>
    have h1 : notStar e = true := by
      have := ha.ns
      simp only [List.all_cons, Bool.and_eq_true] at this
      exact this.1
    have h2 : es.all notStar = true := by
      have := ha.ns
      simp only [List.all_cons, Bool.and_eq_true] at this
      exact this.2
    refine PEw (pe_callG fg room k.gd (gl_of k hk) hm kp bnd (ha.pa k) hdb (star_cons h1) (star_all h2)) fun st H Q q => ?_
    obtain ⟨io, env, S, d, S', sl, so, e1, kk⟩ := q
    simp only [ev] at e1
    split at e1
    · cases e1
    · rename_i ds S1 q1
      exact ⟨io, env, S, ds, S1, sl, so, q1, fun io1 H1 vs g1 so1 r1 => ⟨F.lk, io1, S1, ds, d, S', so1, r1, e1, by rw [← r1.len]; exact hlen _ _ _ e1, fun io' H' w g' so' r' => kk io' H' w (g1.trans g') so' r'⟩⟩
theorem sCallL {f : Str} {i : Nat} {e : Expr} {es : List Expr} {xs : List E} {p pos : Pos} (ha : SA G c (e :: es) xs) (hi : c.N[i]? = some f) (hk : c.names.lookup f = some .local ∨ c.names.lookup f = some .cell ∨ c.names.lookup f = some .free) (h1 : (f == ("__debug__" : Str)) = false) (h2 : (f == ("__classdict__" : Str)) = false) :
    SE G c (.Call (.Name f p) (e :: es) [] pos) (.calll i xs) := by
  refine SE.plain (fun X F k => ?_) fun _ _ => rfl
  have h3 : notStar e = true := by
    have := ha.ns
    simp only [List.all_cons, Bool.and_eq_true] at this
    exact this.1
  have h4 : es.all notStar = true := by
    have := ha.ns
    simp only [List.all_cons, Bool.and_eq_true] at this
    exact this.2
  refine PEw (pe_callLG (i := i) (by rw [k.hN]; exact hi) (by unfold Vis; rw [k.nm]; exact hk) k.gd (ha.pa k) h1 h2 (star_cons h3) (star_all h4)) fun st H Q q => ?_
  obtain ⟨io, env, S, d, S', sl, so, e1, kk⟩ := q
  simp only [ev] at e1
  split at e1
  · rename_i g q0
    split at e1
    · cases e1
    · rename_i ds S1 q1
      obtain ⟨v, hv, rv⟩ := sl.at_ i _ q0
      cases rv
      obtain ⟨ps, hf⟩ := k.dom _ _ _ _ e1
      obtain ⟨⟨a, fd, n, hm, kp, fg, room, bnd, _⟩, hlen, hat⟩ := k.call g ps hf
      have ea : a = F.fa g := by
        have := hm.symm.trans hat
        cases this
        rfl
      subst ea
      refine ⟨F.fa g, n, fd, ps, _, hv, fg, room, kp, bnd, io, env, S, ds, S1, sl, so, q1, fun io1 H1 vs g1 so1 r1 => ?_⟩
      exact ⟨F.lk, io1, S1, ds, d, S', so1, r1, e1, by rw [← r1.len]; exact hlen _ _ _ e1, fun io' H' w g' so' r' => kk io' H' w (g1.trans g') so' r'⟩
  · cases e1
/-! keywords -/
structure SK (G : Gb) (c : Cc) (kws : List Keyword) (ks : List Str) (xs : List E) : Prop where
  nm : ∀ (pos : Pos) (env : Env), (backToKw pos (keywordEach kws env)).map (·.1) = ks.map some
  pk : ∀ X F, CxOK G c X F → PK X kws (RdA F (evs G xs))
theorem kNil : SK G c [] [] [] := ⟨fun _ _ => rfl, fun X F k => ⟨fun pos pins s st H Q I q => by
  obtain ⟨io, env, S, d, S', sl, so, e, kk⟩ := q
  simp only [evs, Option.some.injEq, Prod.mk.injEq] at e
  obtain ⟨rfl, rfl⟩ := e
  exact pk_nil.run pos pins s st H Q I (kk io H [] (Grow.refl _ _) so .nil)⟩⟩
theorem kCons {n : Str} {e : Expr} {kp : Pos} {kws : List Keyword} {ks : List Str} {x : E} {xs : List E} (ha : SE G c e x) (hs : SK G c kws ks xs) : SK G c (⟨some n, e, kp⟩ :: kws) (n :: ks) (x :: xs) := by
  refine ⟨fun pos env => by
    have h := hs.nm pos env
    simp only [backToKw, keywordEach, List.map_cons] at h ⊢
    rw [h], fun X F k => ⟨fun pos pins s st H Q I q => ?_⟩⟩
  refine (pk_cons (ha X F k).1 (hs.pk X F k)).run pos pins s st H Q I ?_
  obtain ⟨io, env, S, d, S', sl, so, e1, kk⟩ := q
  simp only [evs] at e1
  split at e1
  · cases e1
  · rename_i d0 S1 q1
    split at e1
    · cases e1
    · rename_i ds S2 q2
      cases e1
      exact ⟨io, env, S, d0, _, sl, so, q1, fun io1 H1 v g1 so1 r1 => ⟨io1, env, _, ds, _, sl.up g1, so1, q2, fun io2 H2 vs g2 so2 r2 => kk io2 H2 (v :: vs) (g1.trans g2) so2 (.cons (r1.up g2) r2)⟩⟩
theorem all_some {α : Type} : ∀ {l : List (Option Str × α)} {ks : List Str}, l.map (·.1) = ks.map some → l.all (·.1.isSome) = true ∧ l.filterMap (·.1) = ks ∧ l.any (·.1.isNone) = false
  | [], [], _ => ⟨rfl, rfl, rfl⟩
  | [], _ :: _, h => by simp at h
  | _ :: _, [], h => by simp at h
  | (n, a) :: l, k :: ks, h => by
    simp only [List.map_cons, List.cons.injEq] at h
    obtain ⟨h1, h2⟩ := h
    obtain ⟨i1, i2, i3⟩ := all_some h2
    subst h1
    refine ⟨by simp only [List.all_cons, Option.isSome_some, i1, Bool.and_self], by rw [List.filterMap_cons]; simp only [i2], by simp only [List.any_cons, Option.isNone_some, i3, Bool.or_self]⟩
theorem pick_vals {io : List Addr} {H : Hp} : ∀ {ix : List Nat} {ds as : List D} {vs : List V}, Reps F io H ds vs → pick ix ds = some as → ∃ ys, pickV ix vs = some ys ∧ Reps F io H as ys
  | [], _, _, _, _, e => by simp only [pick, Option.some.injEq] at e; subst e; exact ⟨[], rfl, .nil⟩
  | i :: is, ds, as, vs, r, e => by
    simp only [pick] at e
    split at e
    · rename_i d q
      obtain ⟨as2, e1, rfl⟩ := Option.map_eq_some_iff.mp e
      obtain ⟨ys, e2, r2⟩ := pick_vals r e1
      obtain ⟨v, e3, r3⟩ := r.get q
      exact ⟨v :: ys, by simp only [pickV, e3, e2, Option.map_some], .cons r3 r2⟩
    · cases e
theorem evs_len : ∀ {xs : List E} {env : EnvD} {S S' : Sto} {ds : List D}, evs G xs env S = some (ds, S') → ds.length = xs.length
  | [], _, _, _, _, e => by simp only [evs, Option.some.injEq, Prod.mk.injEq] at e; obtain ⟨rfl, _⟩ := e; rfl
  | x :: xs, env, S, S', ds, e => by
    simp only [evs] at e
    split at e
    · cases e
    · split at e
      · cases e
      · rename_i ds2 S2 q
        cases e
        rw [List.length_cons, List.length_cons, evs_len q]
theorem sCallK {f : Str} {ps ks : List Str} {ix : List Nat} {kws : List Keyword} {xs : List E} {p pos : Pos} (ha : SK G c kws ks xs) (hl : ks.length = xs.length) (hk : c.names.lookup f = some .globalImplicit) (hf : (f, ps) ∈ c.fns) (hw : (f, ks, ix) ∈ c.kws) (hdb : (f == ("__debug__" : Str)) = false) :
    SE G c (.Call (.Name f p) [] kws pos) (.callk f ks ix xs) := by
  refine SE.plain (fun X F k => ?_) fun _ _ => rfl
  obtain ⟨⟨a, fd, n, hm, kp, fg, room, bnd, kwb⟩, hlen⟩ := k.call f ps hf
  obtain ⟨h1, h2, h3⟩ := all_some (ha.nm pos X.env)
  refine PEw (pe_callGK fg room k.gd (gl_of k hk) hm kp (kwb ks ix hw) (ha.pk X F k) h1 h2 hdb (by
    show ((backTo pos []).any (·.1) || _) = false
    rw [h3]; rfl)) fun st H Q q => ?_
  obtain ⟨io, env, S, d, S', sl, so, e1, kk⟩ := q
  simp only [ev] at e1
  split at e1
  · cases e1
  · rename_i ds S1 q1
    split at e1
    · cases e1
    · rename_i as q2
      refine ⟨io, env, S, ds, S1, sl, so, q1, fun io1 H1 vs g1 so1 r1 => ⟨by rw [← r1.len, evs_len q1, hl], ?_⟩⟩
      obtain ⟨ys, e3, r3⟩ := pick_vals r1 q2
      exact ⟨ys, e3, F.lk, io1, S1, as, d, S', so1, r3, e1, by rw [← r3.len]; exact hlen _ _ _ e1, fun io' H' w g' so' r' => kk io' H' w (g1.trans g') so' r'⟩
/-! displays -/
theorem sTup {es : List Expr} {xs : List E} {j : Nat} {pos : Pos} (ha : SA G c es xs) : SE G c (.Tuple es j pos) (.tup xs) := by
  refine SE.plain (fun X F k => ?_) fun _ _ => rfl
  refine PEw (pe_tup (ha.pa k)) fun st H Q q => ?_
  obtain ⟨io, env, S, d, S', sl, so, e1, kk⟩ := q
  simp only [ev] at e1
  split at e1
  · cases e1
  · rename_i ds S1 q1
    split at e1
    · rename_i hz
      cases e1
      exact ⟨io, env, S, ds, _, sl, so, q1, fun io1 H1 vs g1 so1 r1 => ⟨by rw [← r1.len]; exact hz, fun p hp => kk io1 _ _ (g1.trans (grow_new so1 hp _)) (so1.new hp _) (.tup (.inl (.inl upd_same)) (r1.up (grow_new so1 hp _)))⟩⟩
    · cases e1
theorem sLst {es : List Expr} {xs : List E} {pos : Pos} (ha : SA G c es xs) : SE G c (.List es pos) (.lst xs) := by
  refine SE.plain (fun X F k => ?_) fun _ _ => rfl
  refine PEw (pe_lst (ha.pa k)) fun st H Q q => ?_
  obtain ⟨io, env, S, d, S', sl, so, e1, kk⟩ := q
  simp only [ev] at e1
  split at e1
  · cases e1
  · rename_i ds S1 q1
    split at e1
    · rename_i hz
      cases e1
      exact ⟨io, env, S, ds, _, sl, so, q1, fun io1 H1 vs g1 so1 r1 => ⟨by rw [← r1.len]; exact hz, fun p hp => kk io1 _ _ (g1.trans (grow_new so1 hp _)) (so1.new hp _) (.lst (so1.fresh hp) (so1.nlk hp) upd_same (r1.up (grow_new so1 hp _)))⟩⟩
    · cases e1
theorem sNewl {es : List Expr} {xs : List E} {pos : Pos} (ha : SA G c es xs) : SE G c (.List es pos) (.newl xs) := by
  refine SE.plain (fun X F k => ?_) fun _ _ => rfl
  refine PEw (pe_lst (ha.pa k)) fun st H Q q => ?_
  obtain ⟨io, env, S, d, S', sl, so, e1, kk⟩ := q
  simp only [ev] at e1
  split at e1
  · cases e1
  · rename_i ds S1 q1
    split at e1
    · rename_i hz
      cases e1
      exact ⟨io, env, S, ds, _, sl, so, q1, fun io1 H1 vs g1 so1 r1 => ⟨by rw [← r1.len]; exact hz, fun p hp => kk (io1 ++ [p]) _ _ (g1.trans (grow_newR so1 hp _)) (so1.newR hp ⟨_, upd_same, r1.up (grow_newR so1 hp _)⟩) (.ref (by rw [← so1.len]; simp))⟩⟩
    · cases e1
/-! list(..) held -/
def rNewc (F : Fx) : List V → Hp → VK → Prop := fun vs H Q => ∃ io S ds l, StOK F io H S ∧ Reps F io H ds vs ∧ lst1 S ds = some l ∧ ∀ io' H' v, Grow F io H io' H' → StOK F io' H' (S ++ [.lst l]) → Rep F io' H' (.ref S.length) v → Q v H'
theorem callNewc {X : Cx} {F : Fx} (hK : X.K = F.K) : CallR X (.type "list") (rNewc F) := by
  refine CallRw call_list_of fun x H Q q => ?_
  obtain ⟨io, S, ds, l, so, r, e, k⟩ := q
  match ds, e with
  | [], e => simp [lst1] at e
  | _ :: _ :: _, e => simp [lst1] at e
  | [d0], e =>
    obtain ⟨v, rfl, rv⟩ := r.one
    simp only [lst1, Option.map_eq_some_iff] at e
    obtain ⟨⟨b, l⟩, es, rfl⟩ := e
    obtain ⟨a, zs, rfl, r2, q2⟩ := seq_of so es rv
    refine ⟨a, zs, rfl, ?_, fun p hp => k (io ++ [p]) _ _ (grow_newR so hp _) (so.newR hp ⟨_, upd_same, r2.up (grow_newR so hp _)⟩) (.ref (by rw [← so.len]; simp))⟩
    rw [hK]
    rcases q2 with ⟨_, q2⟩ | ⟨_, q2⟩
    · exact .inr q2
    · exact .inl q2
theorem sNewc {e : Expr} {xs : List E} {p pos : Pos} (ha : SA G c [e] xs) (hk : c.names.lookup ("list" : Str) = some .globalImplicit) : SE G c (.Call (.Name "list" p) [e] [] pos) (.newc xs) := by
  refine SE.plain (fun X F k => ?_) fun _ _ => rfl
  have h1 : notStar e = true := by
    have := ha.ns
    simp only [List.all_cons, Bool.and_eq_true] at this
    exact this.1
  have key : PE X (.Call (.Name "list" p) [e] [] pos) (tCB (rNewc F) (RdA F (evs G xs))) :=
    pe_callTy (callNewc k.hK) (gl_of k hk) (k.free .list) (boot_bf .list) (ha.pa k) (by decide) (by decide) (star_cons h1) (star_all (es := []) rfl)
  refine PEw key fun st H Q q => ?_
  obtain ⟨io, env, S, d, S', sl, so, e1, kk⟩ := q
  simp only [ev] at e1
  split at e1
  · cases e1
  · rename_i ds S1 q1
    split at e1
    · cases e1
    · rename_i l q2
      cases e1
      exact ⟨io, env, S, ds, _, sl, so, q1, fun io1 H1 vs g1 so1 r1 => ⟨io1, _, ds, _, so1, r1, q2, fun io' H' w g' so' r' => kk io' H' w (g1.trans g') so' r'⟩⟩
/-! a + [..] held -/
def rCatR (F : Fx) : R2 := fun x y H Q => ∃ io S a b l, StOK F io H S ∧ Rep F io H a x ∧ Rep F io H b y ∧ catL S a b = some l ∧ ∀ io' H' v, Grow F io H io' H' → StOK F io' H' (S ++ [.lst l]) → Rep F io' H' (.ref S.length) v → Q v H'
theorem opCatR {X : Cx} {F : Fx} : OpR X (binaryOp .Add) (rCatR F) := by
  refine OpRw op_cat fun x y H Q q => ?_
  obtain ⟨io, S, a, b, l, so, ra, rb, e, k⟩ := q
  unfold catL at e
  split at e
  · rename_i l1 l2 q1 q2
    split at e
    · rename_i hz
      cases e
      obtain ⟨p1, xs, rfl, s1, r1⟩ := refL_ok so q1 ra
      obtain ⟨p2, ys, rfl, s2, r2⟩ := refL_ok so q2 rb
      rw [r1.len, r2.len] at hz
      exact ⟨_, _, _, _, rfl, rfl, s1, s2, hz, fun p hp => k (io ++ [p]) _ _ (grow_newR so hp _) (so.newR hp ⟨_, upd_same, (r1.up (grow_newR so hp _)).app (r2.up (grow_newR so hp _))⟩) (.ref (by rw [← so.len]; simp))⟩
    · cases e
  · cases e
theorem sNewb {a b : Expr} {x y : E} {pos : Pos} (ha : SE G c a x) (hb : SE G c b y) : SE G c (.BinOp a .Add b pos) (.newb x y) := by
  refine SE.plain (fun X F k => ?_) fun _ _ => rfl
  refine PEw (pe_op (opCatR (F := F)) (ha X F k).1 (hb X F k).1) fun st H Q q => ?_
  obtain ⟨io, env, S, d, S', sl, so, e, kk⟩ := q
  refine two (f := fun S2 x y => match catL S2 x y with
    | none => none
    | some l => some (.ref S2.length, S2 ++ [.lst l])) ⟨io, env, S, (d, S'), sl, so, by simp only [ev] at e; exact e, fun x1 y1 S1 S2 io2 H2 v u ef g so2 r1 r2 => ?_⟩
  split at ef
  · cases ef
  · rename_i d' eb
    cases ef
    exact ⟨io2, _, x1, y1, _, so2, r1, r2, eb, fun io' H' w g' so' r' => kk io' H' w (g.trans g') so' r'⟩
/-! dict displays -/
def trsOf (F : Fx) (G : Gb) : List Key → List E → List (TE × TE)
  | k :: ks, x :: xs => (tC (kV k), RdE F (ev G x)) :: trsOf F G ks xs
  | _, _ => []
def strKeys : List Key → List (Option Expr) → Prop
  | [], [] => True
  | k :: ks, some (.Constant (.int k') _ _) :: r => k = .inl k' ∧ strKeys ks r
  | k :: ks, some (.Constant (.str k') _ _) :: r => k = .inr k' ∧ strKeys ks r
  | _, _ => False
theorem pps_ok {pos : Pos} (hx : CxOK G c X F) : ∀ {ks : List Key} {keys : List (Option Expr)} {es : List Expr} {xs : List E}, strKeys ks keys → SA G c es xs → keys.length = es.length → PPs X pos keys es (trsOf F G ks xs)
  | [], [], [], [], _, _, _ => pps_nil
  | k :: ks, some (.Constant (.str k') _ _) :: r, e :: es, x :: xs, h, .cons _ ha hs, hl => by
    obtain ⟨h1, h2⟩ := h
    subst h1
    exact pps_cons pe_str (ha X F hx).1 (pps_ok hx h2 hs (by simpa using hl))
  | k :: ks, some (.Constant (.int k') _ _) :: r, e :: es, x :: xs, h, .cons _ ha hs, hl => by
    obtain ⟨h1, h2⟩ := h
    subst h1
    exact pps_cons pe_int (ha X F hx).1 (pps_ok hx h2 hs (by simpa using hl))
  | [], [], _ :: _, _, _, _, hl => by simp at hl
  | _ :: _, _ :: _, [], _, _, _, hl => by simp at hl
theorem tPairs_ok {st : L2.St} : ∀ {ks : List Key} {xs : List E} {io : List Addr} {H : Hp} {env : EnvD} {S S' : Sto} {ds : List D} {Q : List (V × V) → Hp → Prop}, ks.length = xs.length → SlOK F io H st env → StOK F io H S → evs G xs env S = some (ds, S') →
    (∀ io' H' vs, Grow F io H io' H' → StOK F io' H' S' → Reps F io' H' ds vs → Q ((ks.zip vs).map fun p => (kV p.1, p.2)) H') → tPairs (trsOf F G ks xs) st H Q
  | [], [], io, H, env, S, S', ds, Q, _, sl, so, e, k => by
    simp only [evs, Option.some.injEq, Prod.mk.injEq] at e
    obtain ⟨rfl, rfl⟩ := e
    exact k io H [] (Grow.refl _ _) so .nil
  | [], _ :: _, _, _, _, _, _, _, _, h, _, _, _, _ => by simp at h
  | _ :: _, [], _, _, _, _, _, _, _, h, _, _, _, _ => by simp at h
  | kk :: ks, x :: xs, io, H, env, S, S', ds, Q, h, sl, so, e, k => by
    simp only [evs] at e
    split at e
    · cases e
    · rename_i d0 S1 q1
      split at e
      · cases e
      · rename_i ds2 S2 q2
        cases e
        exact ⟨io, env, S, d0, _, sl, so, q1, fun io1 H1 v g1 so1 r1 => tPairs_ok (by simpa using h) (sl.up g1) so1 q2 fun io2 H2 vs g2 so2 r2 => k io2 H2 (v :: vs) (g1.trans g2) so2 (.cons (r1.up g2) r2)⟩
def DRel (F : Fx) (io : List Addr) (H : Hp) (kvs : List (Key × D)) (ys : List (Key × V)) : Prop := ys.map (·.1) = kvs.map (·.1) ∧ Reps F io H (kvs.map (·.2)) (ys.map (·.2))
theorem drel_put {io : List Addr} {H : Hp} {x : Key} {d : D} {v : V} (r : Rep F io H d v) {kvs : List (Key × D)} {ys : List (Key × V)} (h : DRel F io H kvs ys) : DRel F io H (putD x d kvs) (putK ys x v) := by
  have anyE : ∀ (kvs : List (Key × D)) (ys : List (Key × V)), ys.map (·.1) = kvs.map (·.1) → (ys.any fun kv => decide (kv.1 = x)) = (kvs.any fun p => decide (p.1 = x)) := by
    intro kvs
    induction kvs with
    | nil => intro ys e; cases ys with
      | nil => rfl
      | cons _ _ => simp at e
    | cons p kvs ih => intro ys e; cases ys with
      | nil => simp at e
      | cons q ys =>
        simp only [List.map_cons, List.cons.injEq] at e
        simp only [List.any_cons, ih ys e.2, e.1]
  unfold putD putK
  rw [anyE kvs ys h.1]
  by_cases c0 : (kvs.any fun p => decide (p.1 = x)) = true
  · rw [if_pos c0, if_pos c0]
    have : ∀ (kvs : List (Key × D)) (ys : List (Key × V)), DRel F io H kvs ys → DRel F io H (kvs.map fun p => if p.1 = x then (p.1, d) else p) (ys.map fun kv => if kv.1 = x then (kv.1, v) else kv) := by
      intro kvs
      induction kvs with
      | nil => intro ys e; cases ys with
        | nil => exact e
        | cons _ _ => have := e.1; simp at this
      | cons p kvs ih => intro ys e; cases ys with
        | nil => have := e.1; simp at this
        | cons q ys =>
          obtain ⟨e1, e2⟩ := e
          simp only [List.map_cons, List.cons.injEq] at e1
          simp only [List.map_cons] at e2
          cases e2 with
          | cons ra rb =>
            obtain ⟨i1, i2⟩ := ih ys ⟨e1.2, rb⟩
            by_cases z : p.1 = x
            · have z2 : q.1 = x := by rw [e1.1, z]
              refine ⟨?_, ?_⟩
              · rw [List.map_cons, List.map_cons, List.map_cons, List.map_cons, if_pos z2, if_pos z]
                show q.1 :: _ = p.1 :: _
                rw [e1.1, i1]
              · simp only [List.map_cons, if_pos z, if_pos z2]
                exact .cons r i2
            · have z2 : ¬ q.1 = x := fun w => z (e1.1.symm.trans w)
              refine ⟨?_, ?_⟩
              · rw [List.map_cons, List.map_cons, List.map_cons, List.map_cons, if_neg z2, if_neg z]
                rw [e1.1, i1]
              · simp only [List.map_cons, if_neg z, if_neg z2]
                exact .cons ra i2
    exact this kvs ys h
  · rw [if_neg c0, if_neg c0]
    refine ⟨by rw [List.map_append, List.map_append, h.1]; rfl, ?_⟩
    rw [List.map_append, List.map_append]
    exact h.2.app (.cons r .nil)
theorem drel_all {io : List Addr} {H : Hp} : ∀ {ks : List Key} {ds : List D} {vs : List V} {kvs : List (Key × D)} {ys : List (Key × V)}, Reps F io H ds vs → DRel F io H kvs ys → DRel F io H (putAll kvs (ks.zip ds)) (mergeK ys (ks.zip vs))
  | [], _, _, _, _, _, h => h
  | _ :: _, _, _, _, _, .nil, h => h
  | k :: ks, _, _, kvs, ys, .cons r t, h => by
    simp only [List.zip_cons_cons, putAll, List.map_cons]
    exact drel_all t (drel_put r h)
end
end Ev

namespace Ev
open PySem PySem.Spec PyProof.Rows L2
section
variable {G : Gb} {c : Cc} {X : Cx} {F : Fx}
theorem sNewd {ks : List Key} {keys : List (Option Expr)} {es : List Expr} {xs : List E} {pos : Pos} (hs : strKeys ks keys) (ha : SA G c es xs) (hl : keys.length = es.length) (h0 : keys ≠ []) (h15 : keys.length ≤ 15) (hall : keys.all (·.isSome) = true) (hk : ks.length = keys.length) :
    SE G c (.Dict keys es pos) (.newd ks xs) := by
  refine SE.plain (fun X F k => ?_) fun _ _ => rfl
  refine PEw (pe_disp (pps_ok k hs ha hl) hall hl h0 h15) fun st H Q q => ?_
  obtain ⟨io, env, S, d, S', sl, so, e1, kk⟩ := q
  simp only [ev] at e1
  split at e1
  · cases e1
  · rename_i ds S1 q1
    split at e1
    · rename_i hz
      cases e1
      intro p hp
      have g0 := grow_new (F := F) so hp (.dK [])
      have so0 := so.new hp (.dK [])
      refine tPairs_ok (by rw [hk, hl, ha.ln]) (sl.up g0) so0 q1 fun io' H' vs g so' r => ?_
      have hp' : H' p = some (.dK []) := g.keep p _ upd_same (so.fresh hp) (fun _ z => nomatch z)
      have npi : p ∉ io' := g.nin upd_same (so.fresh hp)
      refine ⟨hp', ks.zip vs, rfl, by
        rw [List.length_zip]
        have := Nat.min_le_left ks.length vs.length
        omega, ?_⟩
      have kp : Kp F F io' H' (io' ++ [p]) (upd H' p (.dK (mergeK [] (ks.zip vs)))) := by
        refine ⟨rfl, rfl, rfl, fun n a h => ?_, fun a xs h n m => ?_, fun a xs h => ?_, fun a o u h => ?_⟩
        · obtain ⟨hl, _⟩ := List.getElem?_eq_some_iff.mp h
          rw [List.getElem?_append_left hl]
          exact h
        · have ne : a ≠ p := fun z => by rw [z, hp'] at h; cases h
          refine ⟨fun hm => ?_, m, by rw [upd_ne ne]; exact h⟩
          rcases List.mem_append.mp hm with q | q
          · exact n q
          · exact ne (by simpa using q)
        · rw [upd_ne (fun z => by rw [z, hp'] at h; cases h)]; exact h
        · rw [upd_ne (fun z => by rw [z, hp'] at h; cases h)]; exact h
      have gg : Grow F io H (io' ++ [p]) (upd H' p (.dK (mergeK [] (ks.zip vs)))) := by
        obtain ⟨js, ej, nj⟩ := g.more
        refine ⟨⟨js ++ [p], by rw [ej, List.append_assoc], fun j hj => ?_⟩, fun a o h n nt => ?_, fun a xs h => ?_, fun a o u h => ?_, fun a h => ?_, fun a h => tab_ne (g.tabs a (g0.tabs a h)) fun ps z => by rw [hp'] at z; cases z⟩
        · rcases List.mem_append.mp hj with q | q
          · exact g0.lsts j (nj j q)
          · have : j = p := by simpa using q
            rw [this]; exact hp
        · rw [upd_ne (ne_of_none h hp)]; exact g.keep a o (g0.keep a o h n nt) n nt
        · rw [upd_ne (ne_of_none h hp)]; exact g.tups a xs (g0.tups a xs h)
        · rw [upd_ne (ne_of_none h hp)]; exact g.frzs a o u (g0.frzs a o u h)
        · by_cases z : a = p
          · rw [z, upd_same] at h; cases h
          · rw [upd_ne z] at h; exact g0.lsts a (g.lsts a h)
      refine kk (io' ++ [p]) _ (.ref p) gg ⟨by rw [List.length_append, List.length_append, so'.len]; rfl, ?_, fun a ha => ?_, fun n a m h1 h2 => ?_, fun a ha => tab_ne (so'.tb a ha) fun ps z => by rw [hp'] at z; cases z⟩ (.ref (by rw [← so'.len]; simp))
      · refine List.nodup_append.mpr ⟨so'.nd, by simp, fun a ha b hb z => ?_⟩
        have : b = p := by simpa using hb
        rw [z, this] at ha
        exact npi ha
      · obtain ⟨ni, u, e⟩ := so'.lk a ha
        have nlp := so.nlk (p := p) hp
        refine ⟨fun hm => ?_, ?_⟩
        · rcases List.mem_append.mp hm with q | q
          · exact ni q
          · exact nlp (by rw [← (by simpa using q : a = p)]; exact ha)
        by_cases z : a = p
        · exact ⟨_, by rw [z]; exact upd_same⟩
        · exact ⟨u, by rw [upd_ne z]; exact e⟩
      · by_cases hn : n < io'.length
        · rw [List.getElem?_append_left hn] at h1
          rw [List.getElem?_append_left (by rw [← so'.len]; exact hn)] at h2
          have ne : a ≠ p := fun z => npi (by rw [← z]; exact List.mem_of_getElem? h1)
          exact (so'.at_ n a m h1 h2).kp kp (upd_ne ne)
        · have hn2 : n = io'.length := by
            obtain ⟨hl, _⟩ := List.getElem?_eq_some_iff.mp h1
            rw [List.length_append] at hl
            simp at hl
            omega
          subst hn2
          rw [List.getElem?_append_right (Nat.le_refl _)] at h1
          rw [so'.len, List.getElem?_append_right (Nat.le_refl _)] at h2
          simp at h1 h2
          subst h1
          subst h2
          obtain ⟨d1, d2⟩ := drel_all (F := F) (io := io') (H := H') (ks := ks) (kvs := []) (ys := []) r ⟨rfl, .nil⟩
          exact ⟨_, upd_same, d1, Reps.kp kp _ _ d2⟩
    · cases e1
/-- {} held -/
theorem sNewd0 {pos : Pos} : SE G c (.Dict [] [] pos) (.newd [] []) := by
  refine SE.plain (fun X F k => ?_) fun _ _ => rfl
  refine PEw pe_dnewK fun st H Q q => ?_
  obtain ⟨io, env, S, d, S', sl, so, e1, kk⟩ := q
  simp only [ev, evs, List.length_nil, if_true, Option.some.injEq, Prod.mk.injEq] at e1
  obtain ⟨rfl, rfl⟩ := e1
  intro p hp
  exact kk (io ++ [p]) _ _ (grow_newR so hp _) (so.newR hp ⟨[], upd_same, rfl, .nil⟩) (.ref (by rw [← so.len]; simp))
/-! items, slices -/
def plainIx : Expr → Bool
  | .Name _ _ => true
  | .Constant _ _ _ => true
  | .BinOp _ _ _ _ => true
  | .UnaryOp _ _ _ => true
  | .Call _ _ _ _ => true
  | .Subscript _ _ _ => true
  | .IfExp _ _ _ _ => true
  | _ => false
theorem plainIx_ok {b : Expr} (h : plainIx b = true) : PlainIx b := by
  intro o i
  cases b <;> first
    | rfl
    | (simp [plainIx] at h; done)
theorem sIdx {a b : Expr} {x y : E} {pos : Pos} (ha : SE G c a x) (hb : SE G c b y) (hp : plainIx b = true) : SE G c (.Subscript a b pos) (.idx x y) := by
  refine SE.plain (fun X F k => ?_) fun _ _ => rfl
  refine PEw (pe_ix (ixE k.hK k.hw (by have := k.un; omega)) (ha X F k).1 (hb X F k).1 (plainIx_ok hp)) fun st H Q q => ?_
  obtain ⟨io, env, S, d, S', sl, so, e, kk⟩ := q
  refine two (f := fun S2 x y => match ixf S2 x y with
    | none => none
    | some d => some (d, S2)) ⟨io, env, S, (d, S'), sl, so, by simp only [ev] at e; exact e, fun x1 y1 S1 S2 io2 H2 v u ef g so2 r1 r2 => ?_⟩
  split at ef
  · cases ef
  · rename_i d' eb
    cases ef
    exact ⟨io2, _, x1, y1, _, so2, r1, r2, eb, fun io' H' w g' so' r' => kk io' H' w (g.trans g') so' r'⟩
/-- a part of a slice -/
def SO (G : Gb) (c : Cc) (e : Option Expr) (fl : Bool) (x : E) : Prop := (e = none ∧ fl = false) ∨ ∃ e', e = some e' ∧ fl = true ∧ SE G c e' x
def partE (G : Gb) (fl : Bool) (x : E) (env : EnvD) (S : Sto) : Option (Option Int × Sto) := match fl with
  | false => some (none, S)
  | true => match ev G x env S with
    | some (.int i, S2) => some (some i, S2)
    | _ => none
def RdO (F : Fx) (f : EnvD → Sto → Option (Option Int × Sto)) : TO := fun st H Q => ∃ io env S d S', SlOK F io H st env ∧ StOK F io H S ∧ f env S = some (d, S') ∧ ∀ io' H', Grow F io H io' H' → StOK F io' H' S' → Q d H'
theorem so_ok (k : CxOK G c X F) {e : Option Expr} {fl : Bool} {x : E} (h : SO G c e fl x) : PO X e (RdO F (partE G fl x)) := by
  rcases h with ⟨rfl, rfl⟩ | ⟨e', rfl, rfl, h⟩
  · refine ⟨fun pins s st H Q I q => po_none.run pins s st H Q I ?_⟩
    obtain ⟨io, env, S, d, S', sl, so, e1, kk⟩ := q
    simp only [partE, Option.some.injEq, Prod.mk.injEq] at e1
    obtain ⟨rfl, rfl⟩ := e1
    exact kk io H (Grow.refl _ _) so
  · refine ⟨fun pins s st H Q I q => (po_some (h X F k).1).run pins s st H Q I ?_⟩
    obtain ⟨io, env, S, d, S', sl, so, e1, kk⟩ := q
    simp only [partE] at e1
    split at e1
    · rename_i i S2 q1
      cases e1
      refine ⟨io, env, S, .int i, _, sl, so, q1, fun io' H' v g so' r => ?_⟩
      cases r
      exact ⟨i, rfl, kk io' H' g so'⟩
    · cases e1
theorem sSl {a : Expr} {lo hi : Option Expr} {fl fh : Bool} {x y z : E} {p2 pos : Pos} (ha : SE G c a x) (hl : SO G c lo fl y) (hh : SO G c hi fh z) : SE G c (.Subscript a (.Slice lo hi none p2) pos) (.sl x fl fh y z) := by
  refine SE.plain (fun X F k => ?_) fun _ _ => rfl
  refine PEw (pe_slice (slE k.hK) (ha X F k).1 (so_ok k hl) (so_ok k hh)) fun st H Q q => ?_
  obtain ⟨io, env, S, d, S', sl, so, e, kk⟩ := q
  simp only [ev] at e
  split at e
  · cases e
  · rename_i x1 S1 q1
    refine ⟨io, env, S, x1, S1, sl, so, q1, fun io1 H1 v g1 so1 r1 => ?_⟩
    split at e
    · cases e
    · rename_i l S2 q2
      refine ⟨io1, env, S1, l, S2, sl.up g1, so1, q2, fun io2 H2 g2 so2 => ?_⟩
      split at e
      · cases e
      · rename_i h S3 q3
        refine ⟨io2, env, S2, h, S3, sl.up (g1.trans g2), so2, q3, fun io3 H3 g3 so3 => ?_⟩
        split at e
        · cases e
        · rename_i d' q4
          cases e
          exact ⟨io3, _, x1, _, so3, r1.up (g2.trans g3), q4, fun io' H' w g' so' r' => kk io' H' w (g1.trans (g2.trans (g3.trans g'))) so' r'⟩
end

/-! ### what is walked -/
mutual
theorem same_eq : ∀ (a b : D), same a b = true → a = b
  | .non, b, h => by cases b <;> first | rfl | (simp [same] at h; done)
  | .bl a, b, h => by cases b <;> first | (simp [same] at h; done) | (simp only [same, decide_eq_true_eq] at h; rw [h])
  | .int a, b, h => by cases b <;> first | (simp [same] at h; done) | (simp only [same, decide_eq_true_eq] at h; rw [h])
  | .str a, b, h => by cases b <;> first | (simp [same] at h; done) | (simp only [same, decide_eq_true_eq] at h; rw [h])
  | .ty a, b, h => by cases b <;> first | (simp [same] at h; done) | (simp only [same, decide_eq_true_eq] at h; rw [h])
  | .fn a, b, h => by cases b <;> first | (simp [same] at h; done) | (simp only [same, decide_eq_true_eq] at h; rw [h])
  | .ref a, b, h => by cases b <;> first | (simp [same] at h; done) | (simp only [same, decide_eq_true_eq] at h; rw [h])
  | .tup a, b, h => by cases b <;> first | (simp [same] at h; done) | (simp only [same] at h; rw [sames_eq a _ h])
  | .lst a, b, h => by cases b <;> first | (simp [same] at h; done) | (simp only [same] at h; rw [sames_eq a _ h])
  | .rls a, b, h => by cases b <;> first | (simp [same] at h; done) | (simp only [same] at h; rw [sames_eq a _ h])
  | .wd ks a, b, h => by cases b <;> first | (simp [same] at h; done) | (simp only [same, Bool.and_eq_true, decide_eq_true_eq] at h; rw [h.1, sames_eq a _ h.2])
theorem sames_eq : ∀ (a b : List D), sames a b = true → a = b
  | [], b, h => by cases b <;> first | rfl | (simp [sames] at h; done)
  | x :: xs, b, h => by
    cases b with
    | nil => simp [sames] at h
    | cons y ys =>
      simp only [sames, Bool.and_eq_true] at h
      rw [same_eq x y h.1, sames_eq xs ys h.2]
end
structure ItOK (F : Fx) (io : List Addr) (H : Hp) (J : It) (ds : List D) (gd : Sto → Bool) : Prop where
  go : ∀ (F' : Fx) io' H' S' (i : Nat), Kp F F' io H io' H' → StOK F' io' H' S' → gd S' = true → i < ds.length → J.go i H'
  stop : ∀ (F' : Fx) io' H' S' (i : Nat), Kp F F' io H io' H' → StOK F' io' H' S' → gd S' = true → ds.length ≤ i → J.stop i H'
  yld : ∀ (F' : Fx) io' H' S' (i : Nat) x H2, Kp F F' io H io' H' → StOK F' io' H' S' → gd S' = true → i < ds.length → J.yld i H' x H2 → ∃ d, ds[i]? = some d ∧ Grow F' io' H' io' H2 ∧ StOK F' io' H2 S' ∧ Rep F' io' H2 d x
def RdI (F : Fx) (f : EnvD → Sto → Option ((List D × (Sto → Bool)) × Sto)) : TI := fun st H R => ∃ io env S r S', SlOK F io H st env ∧ StOK F io H S ∧ f env S = some (r, S') ∧ ∀ io' H' J, Grow F io H io' H' → StOK F io' H' S' → ItOK F io' H' J r.1 r.2 → R J H'
def itf (G : Gb) (k : Nat) (its : List E) (env : EnvD) (S : Sto) : Option ((List D × (Sto → Bool)) × Sto) := match evs G its env S with
  | none => none
  | some (as, S1) => match itemsOf S1 k as with
    | none => none
    | some r => some (r, S1)
theorem it_list {F : Fx} {io : List Addr} {H : Hp} {a : Addr} {ds : List D} {gd : Sto → Bool} (h : ∀ (F' : Fx) io' H' S', Kp F F' io H io' H' → StOK F' io' H' S' → gd S' = true → ∃ xs, SqL F'.K H' a xs ∧ Reps F' io' H' ds xs) : ItOK F io H (Itl F.K a) ds gd := by
  refine ⟨fun F' io' H' S' i kp so g hi => ?_, fun F' io' H' S' i kp so g hi => ?_, fun F' io' H' S' i x H2 kp so g hi y => ?_⟩
  · obtain ⟨xs, hs, r⟩ := h F' io' H' S' kp so g
    rw [kp.hK] at hs
    obtain ⟨v, hv, _⟩ := r.get (List.getElem?_eq_getElem hi)
    exact ⟨xs, v, hs, hv⟩
  · obtain ⟨xs, hs, r⟩ := h F' io' H' S' kp so g
    rw [kp.hK] at hs
    exact ⟨xs, hs, by rw [← r.len]; exact hi⟩
  · obtain ⟨xs, hs, r⟩ := h F' io' H' S' kp so g
    rw [kp.hK] at hs
    obtain ⟨e, y⟩ := y
    subst e
    obtain ⟨v, hv, rv⟩ := r.get (List.getElem?_eq_getElem hi)
    have := y xs hs
    rw [hv] at this
    cases this
    exact ⟨_, List.getElem?_eq_getElem hi, Grow.refl _ _, so, rv⟩
theorem it_tup {F : Fx} {io : List Addr} {H : Hp} {a : Addr} {ds : List D} {xs : List V} (hs0 : SqT F.K H a xs) (r0 : Reps F io H ds xs) : ItOK F io H (Itt F.K a) ds fun _ => true := by
  have h : ∀ (F' : Fx) io' H', Kp F F' io H io' H' → SqT F.K H' a xs ∧ Reps F' io' H' ds xs := fun F' io' H' kp => ⟨by have := kp.sqT hs0; rw [kp.hK] at this; exact this, Reps.kp kp _ _ r0⟩
  refine ⟨fun F' io' H' S' i kp so g hi => ?_, fun F' io' H' S' i kp so g hi => ?_, fun F' io' H' S' i x H2 kp so g hi y => ?_⟩
  · obtain ⟨hs, r⟩ := h F' io' H' kp
    obtain ⟨v, hv, _⟩ := r.get (List.getElem?_eq_getElem hi)
    exact ⟨xs, v, hs, hv⟩
  · obtain ⟨hs, r⟩ := h F' io' H' kp
    exact ⟨xs, hs, by rw [← r.len]; exact hi⟩
  · obtain ⟨hs, r⟩ := h F' io' H' kp
    obtain ⟨e, y⟩ := y
    subst e
    obtain ⟨v, hv, rv⟩ := r.get (List.getElem?_eq_getElem hi)
    have := y xs hs
    rw [hv] at this
    cases this
    exact ⟨_, List.getElem?_eq_getElem hi, Grow.refl _ _, so, rv⟩
theorem it_rng {F : Fx} {io : List Addr} {H : Hp} {lo hi : Int} : ItOK F io H (Itr lo (hi - lo).toNat) (rangeD lo hi) fun _ => true := by
  have hl : (rangeD lo hi).length = (hi - lo).toNat := by unfold rangeD; rw [List.length_map, List.length_range]
  refine ⟨fun F' io' H' S' i kp so g h => by rw [hl] at h; exact h, fun F' io' H' S' i kp so g h => by rw [hl] at h; exact h, fun F' io' H' S' i x H2 kp so g h y => ?_⟩
  obtain ⟨e, ex⟩ := y
  subst e
  subst ex
  rw [hl] at h
  refine ⟨.int (lo + i), ?_, Grow.refl _ _, so, .int _⟩
  unfold rangeD
  rw [List.getElem?_map, List.getElem?_range h]
  rfl
theorem enumD_get : ∀ {l : List D} {n i : Nat}, (enumD n l)[i]? = l[i]?.map fun d => .tup [.int ((n + i : Nat) : Int), d]
  | [], n, i => by simp [enumD]
  | d :: r, n, 0 => by simp [enumD]
  | d :: r, n, i + 1 => by
    simp only [enumD, List.getElem?_cons_succ]
    rw [enumD_get (l := r) (n := n + 1) (i := i)]
    have e : n + 1 + i = n + (i + 1) := by omega
    rw [e]
theorem enumD_len : ∀ {l : List D} {n : Nat}, (enumD n l).length = l.length
  | [], n => rfl
  | d :: r, n => by simp [enumD, enumD_len (l := r)]
theorem it_enum {F : Fx} {io : List Addr} {H : Hp} {ds : List D} {J : It} {Sq : PySem.W.Frag → Hp → List V → Prop} (h : ∀ (F' : Fx) io' H' , Kp F F' io H io' H' → ∃ xs, Sq F.K H' xs ∧ Reps F' io' H' ds xs)
    (hgo : ∀ i H', J.go i H' = ∃ (xs : List V) (x : V), Sq F.K H' xs ∧ xs[i]? = some x) (hstop : ∀ i H', J.stop i H' = ∃ xs : List V, Sq F.K H' xs ∧ xs.length ≤ i)
    (hyld : ∀ i H' v H2, J.yld i H' v H2 = ∃ T x, v = .ref T ∧ H' T = none ∧ H2 = upd H' T (.tup [.int (i : Nat), x]) ∧ ∀ xs, Sq F.K H' xs → xs[i]? = some x) : ItOK F io H J (enumD 0 ds) fun _ => true := by
  refine ⟨fun F' io' H' S' i kp so g hi => ?_, fun F' io' H' S' i kp so g hi => ?_, fun F' io' H' S' i x H2 kp so g hi y => ?_⟩
  · obtain ⟨xs, hs, r⟩ := h F' io' H' kp
    rw [enumD_len] at hi
    obtain ⟨v, hv, _⟩ := r.get (List.getElem?_eq_getElem hi)
    rw [hgo]
    exact ⟨xs, v, hs, hv⟩
  · obtain ⟨xs, hs, r⟩ := h F' io' H' kp
    rw [enumD_len] at hi
    rw [hstop]
    exact ⟨xs, hs, by rw [← r.len]; exact hi⟩
  · obtain ⟨xs, hs, r⟩ := h F' io' H' kp
    rw [enumD_len] at hi
    rw [hyld] at y
    obtain ⟨T, v0, rfl, hT, rfl, hx⟩ := y
    obtain ⟨v, hv, rv⟩ := r.get (List.getElem?_eq_getElem hi)
    have e := hx xs hs
    rw [hv] at e
    cases e
    refine ⟨.tup [.int (i : Nat), ds[i]], ?_, grow_new so hT _, so.new hT _, ?_⟩
    · rw [enumD_get, List.getElem?_eq_getElem hi]
      simp
    · exact .tup (.inl (.inl upd_same)) (.cons (.int _) (.cons (rv.up (grow_new so hT _)) .nil))
theorem zipD_get : ∀ {l m : List D} {i : Nat} {a b : D}, l[i]? = some a → m[i]? = some b → (zipD l m)[i]? = some (.tup [a, b])
  | [], _, i, a, b, h, _ => by simp at h
  | _ :: _, [], i, a, b, _, h => by simp at h
  | x :: l, y :: m, 0, a, b, h1, h2 => by simp at h1 h2; subst h1; subst h2; rfl
  | x :: l, y :: m, i + 1, a, b, h1, h2 => by
    simp only [zipD, List.getElem?_cons_succ]
    exact zipD_get (by simpa using h1) (by simpa using h2)
theorem zipD_len : ∀ {l m : List D}, (zipD l m).length = min l.length m.length
  | [], _ => by simp [zipD]
  | _ :: _, [] => by simp [zipD]
  | x :: l, y :: m => by simp only [zipD, List.length_cons, zipD_len (l := l) (m := m)]; omega
theorem it_zip {F : Fx} {io : List Addr} {H : Hp} {ds es : List D} {J : It} {Sa Sb : PySem.W.Frag → Hp → List V → Prop} (ha : ∀ (F' : Fx) io' H' , Kp F F' io H io' H' → ∃ xs, Sa F.K H' xs ∧ Reps F' io' H' ds xs) (hb : ∀ (F' : Fx) io' H' , Kp F F' io H io' H' → ∃ xs, Sb F.K H' xs ∧ Reps F' io' H' es xs)
    (hgo : ∀ i H', J.go i H' = ∃ (xs ys : List V) (x y : V), Sa F.K H' xs ∧ Sb F.K H' ys ∧ xs[i]? = some x ∧ ys[i]? = some y) (hstop : ∀ i H', J.stop i H' = ∃ xs ys : List V, Sa F.K H' xs ∧ Sb F.K H' ys ∧ (xs.length ≤ i ∨ ys.length ≤ i))
    (hyld : ∀ i H' v H2, J.yld i H' v H2 = ∃ T x y, v = .ref T ∧ H' T = none ∧ H2 = upd H' T (.tup [x, y]) ∧ (∀ xs, Sa F.K H' xs → xs[i]? = some x) ∧ ∀ ys, Sb F.K H' ys → ys[i]? = some y) : ItOK F io H J (zipD ds es) fun _ => true := by
  refine ⟨fun F' io' H' S' i kp so g hi => ?_, fun F' io' H' S' i kp so g hi => ?_, fun F' io' H' S' i x H2 kp so g hi y => ?_⟩
  · obtain ⟨xs, hs, r⟩ := ha F' io' H' kp
    obtain ⟨ys, ht, q⟩ := hb F' io' H' kp
    rw [zipD_len] at hi
    obtain ⟨v, hv, _⟩ := r.get (List.getElem?_eq_getElem (show i < ds.length by omega))
    obtain ⟨u, hu, _⟩ := q.get (List.getElem?_eq_getElem (show i < es.length by omega))
    rw [hgo]
    exact ⟨xs, ys, v, u, hs, ht, hv, hu⟩
  · obtain ⟨xs, hs, r⟩ := ha F' io' H' kp
    obtain ⟨ys, ht, q⟩ := hb F' io' H' kp
    rw [zipD_len] at hi
    rw [hstop]
    exact ⟨xs, ys, hs, ht, by rw [← r.len, ← q.len]; omega⟩
  · obtain ⟨xs, hs, r⟩ := ha F' io' H' kp
    obtain ⟨ys, ht, q⟩ := hb F' io' H' kp
    rw [zipD_len] at hi
    rw [hyld] at y
    obtain ⟨T, v0, u0, rfl, hT, rfl, hx, hy⟩ := y
    obtain ⟨v, hv, rv⟩ := r.get (List.getElem?_eq_getElem (show i < ds.length by omega))
    obtain ⟨u, hu, ru⟩ := q.get (List.getElem?_eq_getElem (show i < es.length by omega))
    have e := hx xs hs
    rw [hv] at e
    cases e
    have e := hy ys ht
    rw [hu] at e
    cases e
    refine ⟨.tup [ds[i], es[i]], zipD_get (List.getElem?_eq_getElem (by omega)) (List.getElem?_eq_getElem (by omega)), grow_new so hT _, so.new hT _, ?_⟩
    exact .tup (.inl (.inl upd_same)) (.cons (rv.up (grow_new so hT _)) (.cons (ru.up (grow_new so hT _)) .nil))
/-- a walk: target, what is walked -/
def SI (G : Gb) (c : Cc) (tg iter : Expr) (k : Nat) (its : List E) : Prop := ∀ X F, CxOK G c X F → PI X tg iter (RdI F (itf G k its))
section
variable {G : Gb} {c : Cc} {X : Cx} {F : Fx}
theorem sIt0 {tg e : Expr} {x : E} (ha : SE G c e x) : SI G c tg e 0 [x] := by
  intro X F k
  refine ⟨fun pins s st H R I q => ?_⟩
  obtain ⟨io, env, S, r, S', sl, so, e1, kk⟩ := q
  simp only [itf, evs] at e1
  cases q1 : ev G x env S with
  | none => rw [q1] at e1; cases e1
  | some p =>
    obtain ⟨d, S1⟩ := p
    rw [q1] at e1
    simp only at e1
    have hS : S1 = S' := by
      split at e1
      · cases e1
      · cases e1; rfl
    subst hS
    have hr : itemsOf S1 0 [d] = some r := by
      split at e1
      · cases e1
      · rename_i q2; cases e1; exact q2
    cases d with
    | tup l =>
      simp only [itemsOf, Option.some.injEq] at hr
      subst hr
      refine (pi_tup (ha X F k).1).run pins s st H R I ⟨io, env, S, _, _, sl, so, q1, fun io1 H1 v g1 so1 r1 => ?_⟩
      cases r1 with
      | tup hs rs => exact ⟨_, rfl, ⟨_, by rw [k.hK]; exact hs⟩, kk io1 H1 _ g1 so1 (by rw [k.hK]; exact it_tup hs rs)⟩
    | lst l =>
      simp only [itemsOf, Option.some.injEq] at hr
      subst hr
      refine (pi_list (ha X F k).1).run pins s st H R I ⟨io, env, S, _, _, sl, so, q1, fun io1 H1 v g1 so1 r1 => ?_⟩
      cases r1 with
      | lst n m hs rs => exact ⟨_, rfl, ⟨_, .inl (.inl hs)⟩, kk io1 H1 _ g1 so1 (by
          rw [k.hK]
          exact it_list fun F' io' H' S' kp _ _ => ⟨_, .inl (.inl (kp.lst _ _ hs n m).2.2), Reps.kp kp _ _ rs⟩)⟩
    | rls l =>
      simp only [itemsOf, Option.some.injEq] at hr
      subst hr
      refine (pi_list (ha X F k).1).run pins s st H R I ⟨io, env, S, _, _, sl, so, q1, fun io1 H1 v g1 so1 r1 => ?_⟩
      cases r1 with
      | rlsF hs rs => exact ⟨_, rfl, ⟨_, .inl (.inr ⟨_, hs⟩)⟩, kk io1 H1 _ g1 so1 (by
          rw [k.hK]
          exact it_list fun F' io' H' S' kp _ _ => ⟨_, .inl (.inr ⟨_, kp.frzs _ _ _ hs⟩), Reps.kp kp _ _ rs⟩)⟩
      | rlsK hs rs => exact ⟨_, rfl, ⟨_, by rw [k.hK]; exact .inr hs⟩, kk io1 H1 _ g1 so1 (by
          rw [k.hK]
          exact it_list fun F' io' H' S' kp _ _ => ⟨_, by rw [kp.hK]; exact .inr hs, Reps.kp kp _ _ rs⟩)⟩
    | ref n =>
      simp only [itemsOf] at hr
      split at hr
      · rename_i l q2
        cases hr
        refine (pi_list (ha X F k).1).run pins s st H R I ⟨io, env, S, _, _, sl, so, q1, fun io1 H1 v g1 so1 r1 => ?_⟩
        cases r1 with
        | ref hn =>
          obtain ⟨xs0, h0, _⟩ := so1.lst_at hn q2
          refine ⟨_, rfl, ⟨xs0, .inl (.inl h0)⟩, kk io1 H1 _ g1 so1 ?_⟩
          rw [k.hK]
          refine it_list fun F' io' H' S' kp so' gd => ?_
          simp only [stays] at gd
          split at gd
          · rename_i l2 q3
            have := sames_eq _ _ gd
            subst this
            obtain ⟨xs, h1, h2⟩ := so'.lst_at (kp.get _ _ hn) q3
            exact ⟨xs, .inl (.inl h1), h2⟩
          · cases gd
      · cases hr
    | _ => simp [itemsOf] at hr
theorem sIt2 {elts : List Expr} {kk : Nat} {tpos p pos : Pos} {e : Expr} {x : E} (ha : SA G c [e] [x]) (hk : c.names.lookup ("enumerate" : Str) = some NameKind.globalImplicit) : SI G c (.Tuple elts kk tpos) (.Call (.Name "enumerate" p) [e] [] pos) 2 [x] := by
  intro X F k
  refine ⟨fun pins s st H R I q => ?_⟩
  obtain ⟨io, env, S, r, S', sl, so, e1, kk'⟩ := q
  have ns := ha.ns
  simp only [List.all_cons, List.all_nil, Bool.and_true] at ns
  simp only [itf] at e1
  cases q1 : evs G [x] env S with
  | none => rw [q1] at e1; cases e1
  | some p0 =>
    obtain ⟨ds, S1⟩ := p0
    rw [q1] at e1
    simp only at e1
    split at e1
    · cases e1
    · rename_i r' hr
      cases e1
      have hx := evs_len q1
      obtain ⟨d, rfl⟩ := len_one (show ds.length = 1 from hx)
      refine (pi_enumA (gl_of k hk) k.free2.2.1 (ha.pa k) (by rw [star_cons ns] <;> rfl)).run pins s st H R I ⟨io, env, S, _, _, sl, so, q1, fun io1 H1 vs g1 so1 r1 => ?_⟩
      obtain ⟨v, rfl, rv⟩ := r1.one
      cases d with
      | tup l =>
        simp only [itemsOf, Option.some.injEq] at hr
        subst hr
        cases rv with
        | tup hs rs =>
          rename_i a xs
          refine ⟨a, xs, rfl, .inr ⟨by rw [k.hK]; exact hs, kk' io1 H1 _ g1 so1 ?_⟩⟩
          rw [k.hK]
          refine it_enum (Sq := fun K H' xs => SqT K H' a xs) (fun F' io' H' kp => ⟨xs, ?_, Reps.kp kp _ _ rs⟩) (fun _ _ => rfl) (fun _ _ => rfl) (fun _ _ _ _ => rfl)
          have := kp.sqT hs
          rw [kp.hK] at this
          exact this
      | lst l =>
        simp only [itemsOf, Option.some.injEq] at hr
        subst hr
        cases rv with
        | lst n m hs rs =>
          rename_i a xs
          refine ⟨a, xs, rfl, .inl ⟨.inl (.inl hs), kk' io1 H1 _ g1 so1 ?_⟩⟩
          rw [k.hK]
          exact it_enum (Sq := fun K H' xs => SqL K H' a xs) (fun F' io' H' kp => ⟨xs, .inl (.inl (kp.lst _ _ hs n m).2.2), Reps.kp kp _ _ rs⟩) (fun _ _ => rfl) (fun _ _ => rfl) (fun _ _ _ _ => rfl)
      | rls l =>
        simp only [itemsOf, Option.some.injEq] at hr
        subst hr
        cases rv with
        | rlsF hs rs =>
          rename_i a ob xs
          refine ⟨a, xs, rfl, .inl ⟨.inl (.inr ⟨_, hs⟩), kk' io1 H1 _ g1 so1 ?_⟩⟩
          rw [k.hK]
          exact it_enum (Sq := fun K H' xs => SqL K H' a xs) (fun F' io' H' kp => ⟨xs, .inl (.inr ⟨_, kp.frzs _ _ _ hs⟩), Reps.kp kp _ _ rs⟩) (fun _ _ => rfl) (fun _ _ => rfl) (fun _ _ _ _ => rfl)
        | rlsK hs rs =>
          rename_i a xs
          refine ⟨a, xs, rfl, .inl ⟨by rw [k.hK]; exact .inr hs, kk' io1 H1 _ g1 so1 ?_⟩⟩
          rw [k.hK]
          exact it_enum (Sq := fun K H' xs => SqL K H' a xs) (fun F' io' H' kp => ⟨xs, .inr hs, Reps.kp kp _ _ rs⟩) (fun _ _ => rfl) (fun _ _ => rfl) (fun _ _ _ _ => rfl)
      | _ => simp [itemsOf] at hr
theorem sIt3 {elts : List Expr} {kk : Nat} {tpos p pos : Pos} {e e2 : Expr} {xs : List E} (ha : SA G c [e, e2] xs) (hk : c.names.lookup ("zip" : Str) = some NameKind.globalImplicit) : SI G c (.Tuple elts kk tpos) (.Call (.Name "zip" p) [e, e2] [] pos) 3 xs := by
  intro X F k
  refine ⟨fun pins s st H R I q => ?_⟩
  obtain ⟨io, env, S, r, S', sl, so, e1, kk'⟩ := q
  have ns := ha.ns
  simp only [List.all_cons, List.all_nil, Bool.and_true, Bool.and_eq_true] at ns
  simp only [itf] at e1
  cases q1 : evs G xs env S with
  | none => rw [q1] at e1; cases e1
  | some p0 =>
    obtain ⟨ds, S1⟩ := p0
    rw [q1] at e1
    simp only at e1
    split at e1
    · cases e1
    · rename_i r' hr
      cases e1
      have hx := evs_len q1
      rw [← ha.ln] at hx
      obtain ⟨d, d', rfl⟩ := len_two (show ds.length = 2 from hx)
      refine (RZ.pi_zipA (gl_of k hk) k.free2.2.2.1 (ha.pa k) (by rw [star_cons ns.1, star_cons ns.2] <;> rfl) (by rw [star_cons ns.2] <;> rfl)).run pins s st H R I ⟨io, env, S, _, _, sl, so, q1, fun io1 H1 vs g1 so1 r1 => ?_⟩
      obtain ⟨v, u, rfl, rv, ru⟩ := r1.two
      cases d <;> cases d' <;> simp only [itemsOf] at hr <;> try (cases hr; done)
      · cases hr
        cases rv with
        | tup hs rs =>
          cases ru with
          | tup ht rt =>
            rename_i a xs b ys
            refine ⟨a, b, xs, ys, rfl, .inr ⟨by rw [k.hK]; exact hs, by rw [k.hK]; exact ht, kk' io1 H1 _ g1 so1 ?_⟩⟩
            rw [k.hK]
            refine it_zip (Sa := fun K H' xs => SqT K H' a xs) (Sb := fun K H' xs => SqT K H' b xs) (fun F' io' H' kp => ⟨xs, ?_, Reps.kp kp _ _ rs⟩) (fun F' io' H' kp => ⟨ys, ?_, Reps.kp kp _ _ rt⟩) (fun _ _ => rfl) (fun _ _ => rfl) (fun _ _ _ _ => rfl)
            · have := kp.sqT hs
              rw [kp.hK] at this
              exact this
            · have := kp.sqT ht
              rw [kp.hK] at this
              exact this
      · cases hr
        cases rv with
        | lst n m hs rs =>
          cases ru with
          | lst n2 m2 ht rt =>
            rename_i a xs b ys
            refine ⟨a, b, xs, ys, rfl, .inl ⟨.inl (.inl hs), .inl (.inl ht), kk' io1 H1 _ g1 so1 ?_⟩⟩
            rw [k.hK]
            exact it_zip (Sa := fun K H' xs => SqL K H' a xs) (Sb := fun K H' xs => SqL K H' b xs) (fun F' io' H' kp => ⟨xs, .inl (.inl (kp.lst _ _ hs n m).2.2), Reps.kp kp _ _ rs⟩) (fun F' io' H' kp => ⟨ys, .inl (.inl (kp.lst _ _ ht n2 m2).2.2), Reps.kp kp _ _ rt⟩) (fun _ _ => rfl) (fun _ _ => rfl) (fun _ _ _ _ => rfl)
theorem inR_ok {i : Int} (h : inR i = true) : -(2 ^ 62) ≤ i ∧ i < 2 ^ 62 := of_decide_eq_true h
theorem sIt1 {tg : Expr} {es : List Expr} {xs : List E} {p pos : Pos} (ha : SA G c es xs) (hl : es.length = 1 ∨ es.length = 2) (hk : c.names.lookup ("range" : Str) = some NameKind.globalImplicit) : SI G c tg (.Call (.Name "range" p) es [] pos) 1 xs := by
  intro X F k
  refine ⟨fun pins s st H R I q => ?_⟩
  obtain ⟨io, env, S, r, S', sl, so, e1, kk⟩ := q
  simp only [itf] at e1
  split at e1
  · cases e1
  · rename_i as S1 q1
    split at e1
    · cases e1
    · rename_i r' q2
      cases e1
      have hx := evs_len q1
      rw [← ha.ln] at hx
      rcases hl with hl | hl
      · obtain ⟨e, rfl⟩ := len_one hl
        have ns := ha.ns
        simp only [List.all_cons, List.all_nil, Bool.and_true] at ns
        rw [hl] at hx
        obtain ⟨d, rfl⟩ := len_one hx
        cases d <;> simp only [itemsOf] at q2 <;> try (cases q2; done)
        split at q2
        · rename_i hj
          cases q2
          refine (pi_range1 (gl_of k hk) k.free2.1 (ha.pa k) (by rw [star_cons ns] <;> rfl)).run pins s st H R I ⟨io, env, S, _, _, sl, so, q1, fun io1 H1 vs g1 so1 r1 => ?_⟩
          obtain ⟨v, rfl, rv⟩ := r1.one
          cases rv
          rename_i j
          refine ⟨j, rfl, (inR_ok hj).1, (inR_ok hj).2, kk io1 H1 _ g1 so1 ?_⟩
          have := it_rng (F := F) (io := io1) (H := H1) (lo := 0) (hi := j)
          rw [Int.sub_zero] at this
          exact this
        · cases q2
      · obtain ⟨e, e', rfl⟩ := len_two hl
        have ns := ha.ns
        simp only [List.all_cons, List.all_nil, Bool.and_true, Bool.and_eq_true] at ns
        rw [hl] at hx
        obtain ⟨d, d', rfl⟩ := len_two hx
        cases d <;> cases d' <;> simp only [itemsOf] at q2 <;> try (cases q2; done)
        split at q2
        · rename_i hj
          cases q2
          refine (pi_range2 (gl_of k hk) k.free2.1 (ha.pa k) (by rw [star_cons ns.1, star_cons ns.2] <;> rfl) (by rw [star_cons ns.2] <;> rfl)).run pins s st H R I ⟨io, env, S, _, _, sl, so, q1, fun io1 H1 vs g1 so1 r1 => ?_⟩
          obtain ⟨v, u, rfl, rv, ru⟩ := r1.two
          cases rv
          cases ru
          exact ⟨_, _, rfl, ⟨(inR_ok hj.1).1, (inR_ok hj.1).2, (inR_ok hj.2).1, (inR_ok hj.2).2⟩, kk io1 H1 _ g1 so1 it_rng⟩
        · cases q2
end
end Ev

namespace Ev
open PySem PySem.Spec PyProof.Rows L2
/-! ### targets -/
theorem wipe_set {i : Nat} {v : Option V} : ∀ {ws : List Nat} {st : L2.St}, i ∈ ws → wipe (st.set i v) ws = wipe st ws
  | w :: ws, st, h => by
    by_cases e : w = i
    · subst e
      by_cases h' : w ∈ ws
      · unfold wipe
        rw [wipe_set h']
      · unfold wipe
        have : wipe (st.set w v) ws = (wipe st ws).set w v := by
          clear h
          induction ws with
          | nil => rfl
          | cons u us ih =>
            simp only [List.mem_cons, not_or] at h'
            unfold wipe
            rw [ih h'.2, List.set_comm _ _ h'.1]
        rw [this, List.set_set]
    · have h' : i ∈ ws := by
        rcases List.mem_cons.mp h with z | z
        · exact absurd z.symm e
        · exact z
      unfold wipe
      rw [wipe_set h']
/-- names only -/
def RdB (F : Fx) (tg : List Nat) (one : Bool) : TG := fun v st H Q => ∃ io env d env', SlOK F io H st env ∧ Rep F io H d v ∧ bindT tg one d env = some env' ∧ ∀ st', SlOK F io H st' env' → (∀ ws, (∀ i ∈ tg, i ∈ ws) → wipe st' ws = wipe st ws) → Q st' H
def RdBs (F : Fx) (tg : List Nat) : TGs := fun vs st H Q => ∃ io env ds env', SlOK F io H st env ∧ Reps F io H ds vs ∧ setAll tg ds env = some env' ∧ ∀ st', SlOK F io H st' env' → (∀ ws, (∀ i ∈ tg, i ∈ ws) → wipe st' ws = wipe st ws) → Q st' H
def TgOK (c : Cc) (x : Str) (i : Nat) : Prop := c.N[i]? = some x ∧ (c.names.lookup x = some .local ∨ (c.names.lookup x = some .cell ∧ c.inner = false))
inductive NsT (c : Cc) : List Expr → List Nat → Prop
  | nil : NsT c [] []
  | cons {x : Str} {p : Pos} {i : Nat} {es : List Expr} {is : List Nat} : TgOK c x i → NsT c es is → NsT c (.Name x p :: es) (i :: is)
section
variable {G : Gb} {c : Cc} {X : Cx} {F : Fx}
theorem pg_nm (k : CxOK G c X F) {x : Str} {p : Pos} {i : Nat} (h : TgOK c x i) : PG X (.Name x p) (gName i) := by
  refine pg_name (by rw [k.hN]; exact k.nd) (by rw [k.hN]; exact h.1) ?_ ?_
  · rcases h.2 with q | q
    · exact .inl (by rw [k.nm]; exact q)
    · exact .inr (by rw [k.nm]; exact q.1)
  · rcases h.2 with q | q
    · exact .inr (by rw [k.nm]; exact q)
    · exact .inl (k.st q.2 x)
theorem PGw {tg : Expr} {t t' : TG} (h : PG X tg t) (hw : ∀ v st H Q, t' v st H Q → t v st H Q) : PG X tg t' := ⟨fun pins s st H v u Q I r q => h.run pins s st H v u Q I r (hw v st H Q q)⟩
theorem PGsw {tg : List Expr} {t t' : TGs} (h : PGs X tg t) (hw : ∀ v st H Q, t' v st H Q → t v st H Q) : PGs X tg t' := ⟨fun pins s st H v u Q I r q => h.run pins s st H v u Q I r (hw v st H Q q)⟩
theorem NsT.ns {es : List Expr} {is : List Nat} (h : NsT c es is) (env : Env) : (assignEach es env).length = es.length ∧ (assignEach es env).findIdx? (·.1) = none := by
  induction h with
  | nil => exact ⟨rfl, rfl⟩
  | cons hx _ ih =>
    refine ⟨?_, ?_⟩
    · show List.length (_ :: _) = _
      rw [List.length_cons, List.length_cons, ih.1]
    · show List.findIdx? _ ((false, _) :: _) = none
      rw [List.findIdx?_cons]
      simp only [Bool.false_eq_true, if_false]
      rw [ih.2]
      rfl
theorem NsT.ln {es : List Expr} {is : List Nat} (h : NsT c es is) : es.length = is.length := by
  induction h with
  | nil => rfl
  | cons _ _ ih => rw [List.length_cons, List.length_cons, ih]
theorem setAll_len {is : List Nat} {ds : List D} {env env' : EnvD} (h : setAll is ds env = some env') : is.length = ds.length := by
  induction is generalizing ds env with
  | nil => cases ds with
    | nil => rfl
    | cons => simp [setAll] at h
  | cons i is ih => cases ds with
    | nil => simp [setAll] at h
    | cons d ds =>
      simp only [setAll] at h
      rw [List.length_cons, List.length_cons, ih h]
theorem NsT.pgs (k : CxOK G c X F) {es : List Expr} {is : List Nat} (h : NsT c es is) : PGs X es (RdBs F is) := by
  induction h with
  | nil =>
    refine PGsw pgs_nil fun vs st H Q q => ?_
    obtain ⟨io, env, ds, env', sl, r, e, kk⟩ := q
    cases ds with
    | nil =>
      cases r
      simp only [setAll, Option.some.injEq] at e
      subst e
      exact ⟨rfl, kk st sl fun _ _ => rfl⟩
    | cons => simp [setAll] at e
  | cons hx _ ih =>
    refine PGsw (pgs_cons (pg_nm k hx) ih) fun vs st H Q q => ?_
    obtain ⟨io, env, ds, env', sl, r, e, kk⟩ := q
    cases ds with
    | nil => simp [setAll] at e
    | cons d ds =>
      cases r with
      | cons r rr =>
        simp only [setAll] at e
        refine ⟨_, _, rfl, io, _, ds, env', sl.set r _, rr, e, fun st' sl' hw => kk st' sl' fun ws hws => ?_⟩
        rw [hw ws fun j hj => hws j (List.mem_cons_of_mem _ hj)]
        exact wipe_set (hws _ List.mem_cons_self)
def ST (G : Gb) (c : Cc) (tg : Expr) (is : List Nat) (one : Bool) : Prop := ∀ X F, CxOK G c X F → PG X tg (RdB F is one)
theorem sT1 {x : Str} {p : Pos} {i : Nat} (h : TgOK c x i) : ST G c (.Name x p) [i] true := by
  intro X F k
  refine PGw (pg_nm k h) fun v st H Q q => ?_
  obtain ⟨io, env, d, env', sl, r, e, kk⟩ := q
  simp only [bindT, setAll, Option.some.injEq] at e
  subst e
  exact kk _ (sl.set r i) fun ws hw => wipe_set (hw i (by simp))
theorem sTn {es : List Expr} {is : List Nat} {j : Nat} {p : Pos} (h : NsT c es is) : ST G c (.Tuple es j p) is false := by
  intro X F k
  refine PGw (pg_tup k.calm (h.pgs k) (h.ns X.env).1 (h.ns X.env).2) fun v st H Q q => ?_
  obtain ⟨io, env, d, env', sl, r, e, kk⟩ := q
  cases d <;> simp only [bindT] at e <;> try (cases e; done)
  cases r with
  | tup hs rs => exact ⟨_, _, rfl, by rw [k.hK]; exact hs, by rw [← rs.len, ← setAll_len e, h.ln], io, env, _, env', sl, rs, e, kk⟩
end
/-! ### any target -/
def RdG (F : Fx) (f : D → EnvD → Sto → Option (EnvD × Sto)) : TG := fun v st H Q => ∃ io env S d env' S', SlOK F io H st env ∧ StOK F io H S ∧ Rep F io H d v ∧ f d env S = some (env', S') ∧ ∀ io' H' st', Grow F io H io' H' → StOK F io' H' S' → SlOK F io' H' st' env' → Q st' H'
def RdGs (F : Fx) (f : List D → EnvD → Sto → Option (EnvD × Sto)) : TGs := fun v st H Q => ∃ io env S d env' S', SlOK F io H st env ∧ StOK F io H S ∧ Reps F io H d v ∧ f d env S = some (env', S') ∧ ∀ io' H' st', Grow F io H io' H' → StOK F io' H' S' → SlOK F io' H' st' env' → Q st' H'
/-- no starred target -/
def oneT : Expr → Bool
  | .Name .. => true
  | .Subscript .. => true
  | _ => false
def SG (G : Gb) (c : Cc) (tg : Expr) (t : Tg) : Prop := oneT tg = true ∧ ∀ X F, CxOK G c X F → PG X tg (RdG F (asgT G t))
section
variable {G : Gb} {c : Cc} {X : Cx} {F : Fx}
theorem sGn {x : Str} {p : Pos} {i : Nat} (h : TgOK c x i) : SG G c (.Name x p) (.name i) := by
  refine ⟨rfl, fun X F k => PGw (pg_nm k h) fun v st H Q q => ?_⟩
  obtain ⟨io, env, S, d, env', S', sl, so, r, e, kk⟩ := q
  simp only [asgT, Option.some.injEq, Prod.mk.injEq] at e
  obtain ⟨rfl, rfl⟩ := e
  exact kk io H _ (Grow.refl _ _) so (sl.set r i)
theorem psOr {t t' : TSet} (h : PSet X t) (h' : PSet X t') : PSet X (fun o i v H Q => t o i v H Q ∨ t' o i v H Q) := by
  intro pins s σ H o i v ov iv u Q I r1 r2 r3 q
  rcases q with q | q
  · exact h pins s σ H o i v ov iv u Q I r1 r2 r3 q
  · exact h' pins s σ H o i v ov iv u Q I r1 r2 r3 q
theorem set_dct (hu : X.A.units + 1 < cLine) : PSet X (fun o i v H Q => ∃ a kvs k, o = .ref a ∧ i = kV k ∧ H a = some (.dK kvs) ∧ kvs.length < sizeLine ∧ Q (upd H a (.dK (putK kvs k v)))) := by
  intro pins s σ H o i v ov iv u Q I ro ri rv h
  obtain ⟨a, kvs, k, rfl, rfl, hp, hz, q⟩ := h
  obtain rfl : ov = Value.ref a := ro
  exact d_setItem hu I (DPut.k hp hz) ri rv fun s' I' => ⟨_, I', q⟩
theorem StOK.dct_at {io : List Addr} {H : Hp} {S : Sto} (k : StOK F io H S) {n : Nat} {a : Addr} {l : List (Key × D)} (h1 : io[n]? = some a) (h2 : S[n]? = some (.dct l)) : ∃ ys, H a = some (.dK ys) ∧ DRel F io H l ys := k.at_ n a _ h1 h2
theorem DRel.up {io io' : List Addr} {H H' : Hp} {kvs : List (Key × D)} {ys : List (Key × V)} (h : DRel F io H kvs ys) (g : Grow F io H io' H') : DRel F io' H' kvs ys := ⟨h.1, h.2.up g⟩
theorem keyD_ok {io : List Addr} {H : Hp} {b : D} {x : Key} {v : V} (h : keyD b = some x) (r : Rep F io H b v) : v = kV x := by
  cases b <;> simp only [keyD, Option.some.injEq] at h <;> first
    | (cases h; done)
    | (subst h; cases r; rfl)
theorem sGs {o i : Expr} {x y : E} {p : Pos} (ho : SE G c o x) (hi : SE G c i y) (hx : ∀ (env : Env) v, assign (.Subscript o i p) env v = (do
      let ov ← holding [v] (eval o env)
      let iv ← holding [v, ov] (eval i env)
      standAt p
      holding [v, ov, iv] (setItem ov iv v)
      release [v, ov, iv] []) := by intro _ _; rfl) : SG G c (.Subscript o i p) (.sub x y) := by
  refine ⟨rfl, fun X F k => PGw (pg_sub (ho X F k).1 (hi X F k).1 (psOr set_list (set_dct (by have := k.un; omega))) (hx X.env)) fun v st H Q q => ?_⟩
  obtain ⟨io, env, S, d, env', S', sl, so, r, e, kk⟩ := q
  simp only [asgT] at e
  split at e
  · rename_i n S1 q1
    split at e
    · rename_i b S2 q2
      split at e
      · rename_i l q3
        split at e
        · rename_i j
          split at e
          · rename_i m q4
            cases e
            refine ⟨io, env, S, _, _, sl, so, q1, fun io1 H1 v1 g1 so1 r1 => ⟨io1, env, S1, _, _, sl.up g1, so1, q2, fun io2 H2 v2 g2 so2 r2 => ?_⟩⟩
            cases r1 with
            | ref hn =>
              cases r2
              have hn2 := g2.io_get hn
              obtain ⟨xs, h0, h1⟩ := so2.lst_at hn2 q3
              have hlt : n < S2.length := (List.getElem?_eq_some_iff.mp q3).1
              have rv : Rep F io2 H2 d v := (r.up g1).up g2
              have g3 := grow_set so2 hn2 hlt (.lst (xs.set m v))
              refine .inl ⟨_, xs, j, m, rfl, rfl, h0, by rw [← h1.len]; exact q4, kk io2 _ st ((g1.trans g2).trans g3) ?_ (((sl.up g1).up g2).up g3)⟩
              exact so2.set hn2 hlt ⟨_, upd_same, ((h1.set rv m).up g3)⟩
          · cases e
        · cases e
      · rename_i kvs q3
        split at e
        · rename_i x q5
          split at e
          · rename_i hz
            cases e
            refine ⟨io, env, S, _, _, sl, so, q1, fun io1 H1 v1 g1 so1 r1 => ⟨io1, env, S1, _, _, sl.up g1, so1, q2, fun io2 H2 v2 g2 so2 r2 => ?_⟩⟩
            cases r1 with
            | ref hn =>
              have ek := keyD_ok q5 r2
              subst ek
              have hn2 := g2.io_get hn
              obtain ⟨ys, h0, h1⟩ := so2.dct_at hn2 q3
              have hlt : n < S2.length := (List.getElem?_eq_some_iff.mp q3).1
              have rv : Rep F io2 H2 d v := (r.up g1).up g2
              have g3 := grow_set so2 hn2 hlt (.dK (putK ys x v))
              have hl : ys.length = kvs.length := by have := congrArg List.length h1.1; simpa using this
              refine .inr ⟨_, ys, x, rfl, rfl, h0, by rw [hl]; exact hz, kk io2 _ st ((g1.trans g2).trans g3) ?_ (((sl.up g1).up g2).up g3)⟩
              exact so2.set hn2 hlt ⟨_, upd_same, ((drel_put rv h1).up g3)⟩
          · cases e
        · cases e
      · cases e
    · cases e
  · cases e
inductive SGs (G : Gb) (c : Cc) : List Expr → List Tg → Prop
  | nil : SGs G c [] []
  | cons {e : Expr} {t : Tg} {es : List Expr} {ts : List Tg} : SG G c e t → SGs G c es ts → SGs G c (e :: es) (t :: ts)
theorem oneT_cons {e : Expr} (h : oneT e = true) (es : List Expr) (env : Env) : assignEach (e :: es) env = (false, assign e env) :: assignEach es env := by
  cases e <;> first
    | rfl
    | (cases h; done)
theorem SGs.ns {es : List Expr} {ts : List Tg} (h : SGs G c es ts) (env : Env) : (assignEach es env).length = es.length ∧ (assignEach es env).findIdx? (·.1) = none := by
  induction h with
  | nil => exact ⟨rfl, rfl⟩
  | cons hx _ ih =>
    rw [oneT_cons hx.1]
    refine ⟨by rw [List.length_cons, List.length_cons, ih.1], ?_⟩
    rw [List.findIdx?_cons]
    simp only [Bool.false_eq_true, if_false]
    rw [ih.2]
    rfl
theorem SGs.ln {es : List Expr} {ts : List Tg} (h : SGs G c es ts) : es.length = ts.length := by
  induction h with
  | nil => rfl
  | cons _ _ ih => rw [List.length_cons, List.length_cons, ih]
theorem asgTs_len {ts : List Tg} {ds : List D} {env : EnvD} {S : Sto} {r} (h : asgTs G ts ds env S = some r) : ts.length = ds.length := by
  induction ts generalizing ds env S with
  | nil => cases ds with
    | nil => rfl
    | cons => simp [asgTs] at h
  | cons i is ih => cases ds with
    | nil => simp [asgTs] at h
    | cons d ds =>
      simp only [asgTs] at h
      split at h
      · cases h
      · rw [List.length_cons, List.length_cons, ih h]
theorem SGs.pgs (k : CxOK G c X F) {es : List Expr} {ts : List Tg} (h : SGs G c es ts) : PGs X es (RdGs F (asgTs G ts)) := by
  induction h with
  | nil =>
    refine PGsw pgs_nil fun vs st H Q q => ?_
    obtain ⟨io, env, S, ds, env', S', sl, so, r, e, kk⟩ := q
    cases ds with
    | nil =>
      cases r
      simp only [asgTs, Option.some.injEq, Prod.mk.injEq] at e
      obtain ⟨rfl, rfl⟩ := e
      exact ⟨rfl, kk io H st (Grow.refl _ _) so sl⟩
    | cons => simp [asgTs] at e
  | cons hx _ ih =>
    refine PGsw (pgs_cons (hx.2 X F k) ih (by rw [oneT_cons hx.1]; rfl)) fun vs st H Q q => ?_
    obtain ⟨io, env, S, ds, env', S', sl, so, r, e, kk⟩ := q
    cases ds with
    | nil => simp [asgTs] at e
    | cons d ds =>
      cases r with
      | cons r rr =>
        simp only [asgTs] at e
        split at e
        · cases e
        · rename_i env1 S1 q1
          exact ⟨_, _, rfl, io, env, S, d, env1, S1, sl, so, r, q1, fun io1 H1 st1 g1 so1 sl1 => ⟨io1, env1, S1, ds, env', S', sl1, so1, rr.up g1, e, fun io2 H2 st2 g2 so2 sl2 => kk io2 H2 st2 (g1.trans g2) so2 sl2⟩⟩
end
end Ev

namespace Ev
open PySem PySem.Spec PyProof.Rows L2
/-! ### comprehensions -/
def relN (names outer : List (Str × NameKind)) : List (Str × NameKind) :=
  names.map fun (n, k) => if (k == .free && outer.lookup n == some .cell) then (n, .cell) else (n, k)
def Cc.blk (c : Cc) (scope : Scope) : Cc := { c with names := relN scope.names c.names, inner := true, tab := false }
theorem CxOK.blk {G : Gb} {c : Cc} {X : Cx} {F : Fx} (h : CxOK G c X F) {scope : Scope} (hk : scope.kind = .function) (s : Shared) (H : Hp) (C : Addr) (cl : List (Str × Addr)) (fp : List Addr) (lk : List Addr) :
    CxOK G (c.blk scope) (X.blk s H scope (compEnvC scope cl C X.env) fp) { F with lk := lk } := by
  refine ⟨h.hK, h.hw, h.hN, h.nd, ?_, hk, h.calm, h.gd, h.un, (fun z => by cases z), h.free, h.free3, h.free2, h.glb, fun f ps hf => ⟨(h.call f ps hf).ex, (h.call f ps hf).len, (h.call f ps hf).at_⟩, h.dom, fun ht => by cases ht⟩
  show (relS scope X.env.scope).names = relN scope.names c.names
  unfold relS relN
  rw [h.kf, h.nm]
  simp
theorem blkNames {N : List Str} {sc sc' scope : Scope} {own : List (Str × Nat)} (h : BlkOk N sc scope own) (e : sc'.names = sc.names) : BlkOk N sc' scope own :=
  ⟨h.kind, h.uniq, h.ix, fun y hy z => by rw [e]; exact h.free y hy z, h.own⟩
theorem SlOK.wipe {F : Fx} {io : List Addr} {H : Hp} : ∀ {st : L2.St} {env : EnvD} (vs : List Nat), SlOK F io H st env → SlOK F io H (L2.wipe st vs) (wipeD env vs)
  | st, env, [], h => h
  | st, env, v :: vs, h => by
    have q := SlOK.wipe vs h
    unfold L2.wipe wipeD
    refine ⟨by rw [List.length_set, List.length_set]; exact q.len, fun i d e => ?_⟩
    by_cases z : v = i
    · subst z
      obtain ⟨hl, _⟩ := List.getElem?_eq_some_iff.mp e
      rw [List.length_set] at hl
      rw [List.getElem?_set_self hl] at e
      cases e
    · rw [List.getElem?_set_ne z] at e ⊢
      exact q.at_ i d e
theorem wipe_set_comm {v : Nat} : ∀ (us : List Nat) (st : L2.St), L2.wipe (st.set v none) us = (L2.wipe st us).set v none
  | [], _ => rfl
  | u :: us, st => by
    unfold L2.wipe
    rw [wipe_set_comm us st]
    by_cases e : u = v
    · rw [e]
    · rw [List.set_comm _ _ (Ne.symm e)]
theorem wipe_wipe : ∀ (vs : List Nat) (st : L2.St), L2.wipe (L2.wipe st vs) vs = L2.wipe st vs
  | [], _ => rfl
  | v :: vs, st => by
    show (L2.wipe ((L2.wipe st vs).set v none) vs).set v none = (L2.wipe st vs).set v none
    rw [wipe_set_comm, wipe_wipe vs st, List.set_set]
def condF (G : Gb) (fi : Bool) (cd : E) (e : EnvD) (S : Sto) : Option (Bool × Sto) := match fi with
  | false => some (true, S)
  | true => cond G cd e S
/-- readings whatever lists are being made -/
def AnE (F : Fx) (f : EnvD → Sto → Option (D × Sto)) : TE := fun st H Q => ∃ lk, RdE { F with lk := lk } f st H Q
def AnT (F : Fx) (f : EnvD → Sto → Option (Bool × Sto)) : TT := fun st H Q => ∃ lk, RdT { F with lk := lk } f st H Q
def AnB (F : Fx) (tg : List Nat) (one : Bool) : TG := fun v st H Q => ∃ lk, RdB { F with lk := lk } tg one v st H Q
/-- a comprehension's test, or none -/
def SIf (G : Gb) (c : Cc) : List Expr → Bool → E → Prop
  | [], false, _ => True
  | [e], true, x => SE G c e x
  | _, _, _ => False
theorem Grow.cast {F F' : Fx} {io io' : List Addr} {H H' : Hp} (g : Grow F io H io' H') : Grow F' io H io' H' := ⟨g.more, g.keep, g.tups, g.frzs, g.lsts, g.tabs⟩
section
variable {G : Gb} {c : Cc} {X : Cx} {F : Fx}
theorem sLc {elt tg iter : Expr} {ifs : List Expr} {scope : Scope} {own : List (Str × Nat)} {pos : Pos} {is : List Nat} {one : Bool} {n : Nat} {its : List E} {fi : Bool} {cd y : E}
    (hi : SI G c tg iter n its) (ok : blkC c.N { scope with names := c.names } scope own = true) (hg : ST G (c.blk scope) tg is one) (hin : (is.all fun i => own.any fun p => p.2 == i) = true) (hf : SIf G (c.blk scope) ifs fi cd) (he : SE G (c.blk scope) elt y)
    (X : Cx) (F : Fx) (k : CxOK G c X F) : BlkOk X.N X.env.scope scope own ∧ PI X tg iter (RdI F (itf G n its)) ∧
      (∀ (s : Shared) (H : Hp) (C : Addr) (cl : List (Str × Addr)) (fp : List Addr), PG (X.blk s H scope (compEnvC scope cl C X.env) fp) tg (AnB F is one)) ∧ (∀ (s : Shared) (H : Hp) (C : Addr) (cl : List (Str × Addr)) (fp : List Addr), PTs (X.blk s H scope (compEnvC scope cl C X.env) fp) ifs (AnT F (condF G fi cd))) ∧
      (∀ (s : Shared) (H : Hp) (C : Addr) (cl : List (Str × Addr)) (fp : List Addr), PE (X.blk s H scope (compEnvC scope cl C X.env) fp) elt (AnE F (ev G y))) := by
  have b := blkOk_by ok
  have kf := b.kind
  refine ⟨by rw [k.hN]; exact blkNames b k.nm, hi X F k, fun s H C cl fp => ⟨fun pins s' st H v u Q I r q => ?_⟩, fun s H C cl fp => ?_, fun s H C cl fp => ⟨fun pins s' st H Q I q => ?_⟩⟩
  · obtain ⟨lk, q⟩ := q
    exact (hg _ _ (k.blk kf s _ C cl fp lk)).run pins s' st H v u Q I r q
  · cases ifs with
    | nil =>
      cases fi with
      | true => exact hf.elim
      | false =>
        refine ⟨fun pins s' st H Q I q => pts_nil.run pins s' st H Q I ?_⟩
        obtain ⟨lk, io, env, S, d, S', sl, so, e, kk⟩ := q
        simp only [condF, Option.some.injEq, Prod.mk.injEq] at e
        obtain ⟨rfl, rfl⟩ := e
        exact kk io H (Grow.refl _ _) so
    | cons e r =>
      cases r with
      | cons => exact hf.elim
      | nil =>
        cases fi with
        | false => exact hf.elim
        | true =>
          have hf : SE G (c.blk scope) e cd := hf
          refine pts_one ⟨fun pins s' st H Q I q => ?_⟩
          obtain ⟨lk, q⟩ := q
          exact (hf _ _ (k.blk kf s _ C cl fp lk)).2.run pins s' st H Q I q
  · obtain ⟨lk, q⟩ := q
    exact (he _ _ (k.blk kf s _ C cl fp lk)).1.run pins s' st H Q I q
/-- the loop's invariant -/
structure LcW (G : Gb) (F : Fx) (is vs : List Nat) (one fi : Bool) (cd y : E) (io1 : List Addr) (H1 : Hp) (D : Addr) (env : EnvD) (ds : List Ev.D) (gd : Sto → Bool) (l : List Ev.D) (S2 : Sto) (i m : Nat) (H : Hp) : Prop where
  ex : ∃ (io' : List Addr) (S' : Sto) (acc : List Ev.D) (xs : List V), m = ds.length - i ∧ i ≤ ds.length ∧ Grow F io1 H1 io' H ∧ StOK { F with lk := D :: F.lk } io' H S' ∧ H D = some (.lst xs) ∧ Reps { F with lk := D :: F.lk } io' H acc xs ∧
    compLoop gd (bindT is one) (condF G fi cd) (ev G y) (wipeD env vs) (ds.drop i) S' acc = some (l, S2)
theorem kpD {io1 io' : List Addr} {H1 H' : Hp} {D : Addr} (g : Grow F io1 H1 io' H') (hD : H1 D = none) : Kp F { F with lk := D :: F.lk } io1 H1 io' H' :=
  ⟨rfl, rfl, rfl, fun n a h => g.io_get h, fun a xs h n m => ⟨g.nin h n, fun z => by
    rcases List.mem_cons.mp z with z | z
    · rw [z, hD] at h; cases h
    · exact m z, g.keep _ _ h n (fun _ z => nomatch z)⟩, g.tups, g.frzs⟩
theorem kpBack {io : List Addr} {H : Hp} {D : Addr} : Kp { F with lk := D :: F.lk } F io H io H :=
  ⟨rfl, rfl, rfl, fun n a h => h, fun a xs h n m => ⟨n, fun z => m (List.mem_cons_of_mem _ z), h⟩, fun _ _ h => h, fun _ _ _ h => h⟩
theorem kpUpd {io : List Addr} {H : Hp} {D : Addr} {xs ys : List V} (hD : H D = some (.lst xs)) : Kp { F with lk := D :: F.lk } { F with lk := D :: F.lk } io H io (upd H D (.lst ys)) := by
  refine ⟨rfl, rfl, rfl, fun n a h => h, fun a zs h n m => ⟨n, m, ?_⟩, fun a zs h => ?_, fun a o u h => ?_⟩
  · rw [upd_ne (fun z => m (by rw [z]; exact List.mem_cons_self))]; exact h
  · rw [upd_ne (fun z => by rw [z, hD] at h; cases h)]; exact h
  · rw [upd_ne (fun z => by rw [z, hD] at h; cases h)]; exact h
theorem lc_go (k : CxOK G c X F) {own : List (Str × Nat)} {is : List Nat} {one : Bool} {n : Nat} {its : List E} {fi : Bool} {cd y : E} (hin : (is.all fun i => own.any fun p => p.2 == i) = true) {st : L2.St} {H : Hp} {Q : VK}
    (q : RdE F (ev G (.comp (own.map (·.2)) is one n its fi cd y)) st H Q) : tLc (RdI F (itf G n its)) (AnB F is one) (AnT F (condF G fi cd)) (AnE F (ev G y)) (own.map (·.2)) st H Q := by
  obtain ⟨io, env, S, d, S', sl, so, e, kk⟩ := q
  simp only [ev] at e
  split at e
  · cases e
  · rename_i as S1 q1
    split at e
    · cases e
    · rename_i ds gd q2
      split at e
      · cases e
      · rename_i l S2 q3
        simp only [Option.some.injEq, Prod.mk.injEq] at e
        obtain ⟨rfl, rfl⟩ := e
        replace q3 : compLoop gd (bindT is one) (condF G fi cd) (ev G y) (wipeD env (own.map (·.2))) ds S1 [] = some (l, S2) := by
          rw [← q3]
          congr 1
        refine ⟨io, env, S, (ds, gd), S1, sl, so, by simp only [itf, q1, q2], fun io1 H1 J g1 so1 it D hD => ?_⟩
        have nD : D ∉ io1 := so1.fresh hD
        have nL : D ∉ F.lk := so1.nlk hD
        have so1' : StOK { F with lk := D :: F.lk } io1 (upd H1 D (.lst [])) S1 := by
          have z := so1.new hD (.lst [])
          refine ⟨z.len, z.nd, fun a ha => ?_, fun i a m h1 h2 => (so1.at_ i a m h1 h2).kp ?_ ?_, z.tb⟩
          · rcases List.mem_cons.mp ha with q | q
            · subst q
              exact ⟨nD, _, upd_same⟩
            · exact z.lk a q
          · exact kpD (grow_new so1 hD _) hD
          · obtain ⟨o, eo, _⟩ := (so1.at_ i a m h1 h2).some_
            exact upd_ne (ne_of_none eo hD)
        refine ⟨fun i m H => LcW G F is (own.map (·.2)) one fi cd y io1 H1 D env ds gd l S2 i m H, ⟨ds.length - 0, ⟨io1, S1, [], [], rfl, Nat.zero_le _, grow_new so1 hD _, so1', upd_same, .nil, q3⟩⟩, ?_⟩
        rintro i m H' ⟨io', S', acc, xs, rfl, hi, g', so', hDl, hr, hc⟩
        have kp := kpD g' hD
        by_cases hlt : i < ds.length
        · have hdr : ds.drop i = ds[i] :: ds.drop (i + 1) := List.drop_eq_getElem_cons hlt
          rw [hdr] at hc
          simp only [compLoop] at hc
          split at hc
          · rename_i hgd
            refine .inr ⟨it.go _ io' H' S' i kp so' hgd hlt, fun H'' => LcW G F is (own.map (·.2)) one fi cd y io1 H1 D env ds gd l S2 (i + 1) (ds.length - (i + 1)) H'', fun H'' w => ⟨_, by omega, w⟩, fun x H2 hy => ?_⟩
            obtain ⟨dx, ed, g2, so2, r2⟩ := it.yld _ io' H' S' i x H2 kp so' hgd hlt hy
            rw [List.getElem?_eq_getElem hlt] at ed
            cases ed
            split at hc
            · cases hc
            · rename_i env1 q4
              have slw : SlOK { F with lk := D :: F.lk } io' H2 (L2.wipe st (own.map (·.2))) (wipeD env (own.map (·.2))) := (((sl.up g1).kp kp).up g2).wipe _
              refine ⟨D :: F.lk, io', _, _, env1, slw, r2, q4, fun st' sl' hw => ⟨?_, ?_⟩⟩
              · rw [hw (own.map (·.2)) fun j hj => ?_, wipe_wipe]
                have := (List.all_eq_true.mp hin) j hj
                obtain ⟨p, hp, e⟩ := List.any_eq_true.mp this
                exact List.mem_map.mpr ⟨p, hp, by simpa using e⟩
              · split at hc
                · cases hc
                · rename_i S3 q5
                  refine ⟨D :: F.lk, io', env1, S', false, S3, sl', so2, q5, fun io3 H3 g3 so3 => ?_⟩
                  simp only [Bool.false_eq_true, if_false]
                  exact ⟨io3, S3, acc, xs, rfl, hlt, (g'.trans (g2.cast)).trans g3.cast, so3, g3.keep _ _ (g2.keep _ _ hDl (so'.lk D List.mem_cons_self).1 (fun _ z => nomatch z)) (so2.lk D List.mem_cons_self).1 (fun _ z => nomatch z), (hr.up g2).up g3, hc⟩
                · rename_i S3 q5
                  refine ⟨D :: F.lk, io', env1, S', true, S3, sl', so2, q5, fun io3 H3 g3 so3 => ?_⟩
                  simp only [if_true]
                  split at hc
                  · cases hc
                  · rename_i dv S4 q6
                    split at hc
                    · rename_i hz
                      refine ⟨D :: F.lk, io3, env1, S3, dv, S4, sl'.up g3, so3, q6, fun io4 H4 v g4 so4 r4 => ?_⟩
                      have hD4 := g4.keep _ _ (g3.keep _ _ (g2.keep _ _ hDl (so'.lk D List.mem_cons_self).1 (fun _ z => nomatch z)) (so2.lk D List.mem_cons_self).1 (fun _ z => nomatch z)) (so3.lk D List.mem_cons_self).1 (fun _ z => nomatch z)
                      have hr4 := ((hr.up g2).up g3).up g4
                      have kpu := kpUpd (F := F) (io := io4) (ys := xs ++ [v]) hD4
                      have gg : Grow F io1 H1 io4 H4 := ((g'.trans g2.cast).trans g3.cast).trans g4.cast
                      refine ⟨xs, hD4, by rw [← hr4.len]; exact hz, io4, S4, acc ++ [dv], xs ++ [v], rfl, hlt, ?_, ?_, upd_same, Reps.kp kpu _ _ (hr4.app (.cons r4 .nil)), hc⟩
                      · refine ⟨gg.more, fun a o h na nt => ?_, fun a u h => ?_, fun a o u h => ?_, fun a h => ?_, fun a h => tab_ne (gg.tabs a h) fun ps z => by rw [hD4] at z; cases z⟩
                        · rw [upd_ne (ne_of_none h hD)]; exact gg.keep a o h na nt
                        · rw [upd_ne (ne_of_none h hD)]; exact gg.tups a u h
                        · rw [upd_ne (ne_of_none h hD)]; exact gg.frzs a o u h
                        · by_cases z : a = D
                          · rw [z]; exact hD
                          · rw [upd_ne z] at h; exact gg.lsts a h
                      · refine ⟨so4.len, so4.nd, fun a ha => ⟨(so4.lk a ha).1, ?_⟩, fun j a m h1 h2 => (so4.at_ j a m h1 h2).kp kpu ?_, fun a ha => tab_ne (so4.tb a ha) fun ps z => by rw [hD4] at z; cases z⟩
                        · by_cases z : a = D
                          · rw [z]; exact ⟨_, upd_same⟩
                          · rw [upd_ne z]; exact (so4.lk a ha).2
                        · refine upd_ne fun z => ?_
                          subst z
                          exact (so4.lk a List.mem_cons_self).1 (List.mem_of_getElem? h1)
                    · cases hc
          · cases hc
        · have ei : i = ds.length := by omega
          rw [ei, List.drop_length] at hc
          simp only [compLoop] at hc
          split at hc
          · rename_i hgd
            cases hc
            refine .inl ⟨it.stop _ io' H' S2 i kp so' hgd (show ds.length ≤ i by omega), kk io' H' _ (g1.trans g') ⟨so'.len, so'.nd, fun a ha => so'.lk a (List.mem_cons_of_mem _ ha), fun j a m h1 h2 => (so'.at_ j a m h1 h2).kp kpBack rfl, so'.tb⟩ ?_⟩
            exact .lst (so'.lk D List.mem_cons_self).1 nL hDl (Reps.kp kpBack _ _ hr)
          · cases hc
theorem sComp {elt tg iter : Expr} {ifs : List Expr} {scope : Scope} {own : List (Str × Nat)} {pos : Pos} {is : List Nat} {one : Bool} {n : Nat} {its : List E} {fi : Bool} {cd y : E}
    (hi : SI G c tg iter n its) (ok : blkC c.N { scope with names := c.names } scope own = true) (hg : ST G (c.blk scope) tg is one) (hin : (is.all fun i => own.any fun p => p.2 == i) = true) (hf : SIf G (c.blk scope) ifs fi cd) (he : SE G (c.blk scope) elt y)
    (hs : ∀ env x, foldedSetIterable iter env x = pure x := by intro _ _; rfl) : SE G c (.ListComp elt [⟨tg, iter, ifs, 0⟩] scope pos) (.comp (own.map (·.2)) is one n its fi cd y) := by
  refine SE.plain (fun X F k => ?_) fun _ _ => rfl
  obtain ⟨b, p1, p2, p3, p4⟩ := sLc (elt := elt) (pos := pos) hi ok hg hin hf he X F k
  exact PEw (pe_lc k.calm (by rw [k.hN]; exact k.nd) p1 b p2 p3 p4 (hs X.env)) fun st H Q q => lc_go k hin q
end
end Ev

namespace Ev
open PySem PySem.Spec PyProof.Rows L2
/-! ### all, any of a generator expression -/
/-- the names of a generator expression's frame, but for what is walked -/
def gNames : List (Str × NameKind) → List Str
  | [] => []
  | (n, k) :: r => if n = (".0" : Str) then gNames r else if k = .local ∨ k = .free then n :: gNames r else gNames r
def gCap (c : Cc) (scope : Scope) : List (Option Nat) := (gNames scope.names).map fun n => if scope.names.lookup n = some .free then posOf n c.N else none
def Cc.gen (c : Cc) (scope : Scope) : Cc := { c with N := gNames scope.names, names := scope.names, refs := false, inner := true, tab := false }
def genC (c : Cc) (scope : Scope) : Bool := decide (scope.kind = .function) && (!scope.isCoroutine && ((scope.names.all fun y => decide (y.2 ≠ .cell)) && (decide (scope.names.lookup (".0" : Str) = some NameKind.local) &&
  ((scope.names.all fun y => decide (y.2 ≠ .free) || decide (c.names.lookup y.1 = some .cell) || decide (c.names.lookup y.1 = some .free)) && decide (gNames scope.names).Nodup))))
theorem posOf_N {x : Str} {N : List Str} {i : Nat} (h : posOf x N = some i) : N[i]? = some x := posOf_get h
section
variable {G : Gb} {c : Cc} {X : Cx} {F : Fx} {scope : Scope}
theorem genC_ok (k : CxOK G c X F) (h : genC c scope = true) : GSc X scope (gNames scope.names) (gCap c scope) := by
  simp only [genC, Bool.and_eq_true, decide_eq_true_eq, Bool.not_eq_true', List.all_eq_true, Bool.or_eq_true] at h
  obtain ⟨h1, h2, h3, h4, h5, h6⟩ := h
  refine ⟨h1, h2, h3, h4, fun y hy hf => ?_, by unfold gCap; rw [List.length_map], fun i j x e1 e2 => ?_⟩
  · rw [k.nm]
    rcases h5 y hy with (z | z) | z
    · exact absurd hf z
    · exact .inl z
    · exact .inr z
  · unfold gCap at e2
    rw [List.getElem?_map, e1] at e2
    have e3 : (if scope.names.lookup x = some .free then posOf x c.N else none) = some j := by simpa using e2
    split at e3
    · rename_i hf
      exact ⟨by rw [k.hN]; exact posOf_get e3, hf⟩
    · cases e3
abbrev G1 (G : Gb) : Gb := ⟨G.cl1, fun _ _ _ => none, G.glb⟩
theorem cx_gen (k : CxOK G c X F) (h : genC c scope = true) (ht : c.tab = true) (s4 : Shared) (H4 : Hp) (fp : List Addr) (pn : List (Addr × Obj)) (code : Value) :
    CxOK (G1 G) (c.gen scope) (gX X (gNames scope.names) X.A.in1.in1 s4 H4 (gEnv X scope s4.heap.objs.size code) fp pn) F := by
  have S := genC_ok k h
  simp only [genC, Bool.and_eq_true, decide_eq_true_eq, Bool.not_eq_true', List.all_eq_true, Bool.or_eq_true] at h
  obtain ⟨hr, ⟨cc, P, h1, h2, h3⟩, h4, h5⟩ := k.tab ht
  refine ⟨k.hK, k.hw, rfl, h.2.2.2.2.2, rfl, h.1, rfl, ?_, ?_, (fun z => by cases z), k.free, k.free3, k.free2, k.glb, fun f ps hf => ?_, h5, fun z => by cases z⟩
  · show (X.A.in1.in1.deeper _).guards = some []
    exact k.gd
  · have := hr.un
    show X.A.units + 1 + 1 + 3 + 64 < cLine
    omega
  · obtain ⟨⟨a, fd, n, m1, m2, m3, m4, m5, m6⟩, l, at_⟩ := h4 f ps hf
    exact ⟨⟨a, fd, n, m1, m2, m3, reb_in1 m4 _, m5, m6⟩, l, at_⟩
theorem setAll_off : ∀ {is : List Nat} {ds : List D} {env env1 : EnvD}, setAll is ds env = some env1 → ∀ j, j ∉ is → env1[j]? = env[j]?
  | [], [], env, env1, h, j, _ => by simp only [setAll, Option.some.injEq] at h; subst h; rfl
  | [], _ :: _, _, _, h, _, _ => by simp [setAll] at h
  | _ :: _, [], _, _, h, _, _ => by simp [setAll] at h
  | i :: is, x :: ds, env, env1, h, j, hj => by
    simp only [setAll] at h
    simp only [List.mem_cons, not_or] at hj
    rw [setAll_off h j hj.2, List.getElem?_set_ne (Ne.symm hj.1)]
theorem setAll_ln : ∀ {is : List Nat} {ds : List D} {env env1 : EnvD}, setAll is ds env = some env1 → env1.length = env.length
  | [], [], env, env1, h => by simp only [setAll, Option.some.injEq] at h; subst h; rfl
  | [], _ :: _, _, _, h => by simp [setAll] at h
  | _ :: _, [], _, _, h => by simp [setAll] at h
  | i :: is, x :: ds, env, env1, h => by
    simp only [setAll] at h
    rw [setAll_ln h, List.length_set]
theorem bindT_less {tg : List Nat} {one : Bool} {d : D} {env env1 : EnvD} (h : bindT tg one d env = some env1) (hn : ∀ i ∈ tg, env[i]? = some none) : env1.length = env.length ∧ ∀ (j : Nat) e, env[j]? = some (some e) → env1[j]? = some (some e) := by
  have key : ∀ {ds : List D}, setAll tg ds env = some env1 → env1.length = env.length ∧ ∀ (j : Nat) e, env[j]? = some (some e) → env1[j]? = some (some e) := fun {ds} h => ⟨setAll_ln h, fun j e he => by
    rw [setAll_off h j fun hj => by rw [hn j hj] at he; cases he]
    exact he⟩
  unfold bindT at h
  split at h
  · exact key h
  · split at h
    · exact key h
    · cases h
theorem SlOK.less {io : List Addr} {H : Hp} {st : L2.St} {env env1 : EnvD} (k : SlOK F io H st env1) (hl : env1.length = env.length) (h : ∀ (j : Nat) e, env[j]? = some (some e) → env1[j]? = some (some e)) : SlOK F io H st env :=
  ⟨hl.symm.trans k.len, fun i d e => k.at_ i d (h i d e)⟩
theorem SlOK.cap {io : List Addr} {H : Hp} {st : L2.St} {env : EnvD} (k : SlOK F io H st env) (cap : List (Option Nat)) : SlOK F io H (capS cap st) (capS cap env) := by
  refine ⟨by simp [capS], fun i d e => ?_⟩
  unfold capS at e ⊢
  rw [List.getElem?_map] at e ⊢
  cases hc : cap[i]? with
  | none => rw [hc] at e; cases e
  | some q =>
    rw [hc] at e
    cases q with
    | none => cases e
    | some j =>
      have h4 : (env[j]?).join = some d := by simpa using e
      have h5 : env[j]? = some (some d) := by
        cases hq : env[j]? with
        | none => rw [hq] at h4; cases h4
        | some q => rw [hq] at h4; cases q with
          | none => cases h4
          | some u => cases h4; rfl
      obtain ⟨v, h6, h7⟩ := k.at_ j d h5
      exact ⟨v, by simp [h6], h7⟩
/-- tables growing -/
theorem grow_tab {io : List Addr} {H H4 : Hp} {S : Sto} {P : Addr} (so : StOK F io H S) (hP : GxR.TabG H P) (h : GxR.Tabbed P H H4) : Grow F io H io H4 ∧ StOK F io H4 S := by
  obtain ⟨h1, h2⟩ := h
  obtain ⟨ps, e0, _⟩ := hP
  have g : Grow F io H io H4 := by
    refine ⟨⟨[], by simp, fun _ z => by simp at z⟩, fun a o e na nt => ?_, fun a xs e => ?_, fun a o u e => ?_, fun a e => ?_, fun a e => ?_⟩
    · rw [h2 a fun z => by rw [z, e0] at e; exact nt ps (Option.some.inj e).symm]; exact e
    · rw [h2 a fun z => by rw [z, e0] at e; cases e]; exact e
    · rw [h2 a fun z => by rw [z, e0] at e; cases e]; exact e
    · by_cases z : a = P
      · obtain ⟨qs, e1, _⟩ := h1
        rw [z, e1] at e
        cases e
      · rw [← h2 a z]; exact e
    · by_cases z : a = P
      · rw [z]; exact h1
      · obtain ⟨qs, e1, t⟩ := e
        exact ⟨qs, by rw [h2 a z]; exact e1, t⟩
  refine ⟨g, so.len, so.nd, fun a ha => ?_, fun n a m e1 e2 => ?_, fun a ha => g.tabs a (so.tb a ha)⟩
  · obtain ⟨h3, o, e⟩ := so.lk a ha
    refine ⟨h3, ?_⟩
    by_cases z : a = P
    · obtain ⟨qs, e1, _⟩ := h1
      exact ⟨_, by rw [z]; exact e1⟩
    · exact ⟨o, by rw [h2 a z]; exact e⟩
  · have q := so.at_ n a m e1 e2
    obtain ⟨o, e, _, _, z3⟩ := q.some_
    exact q.grow g (h2 a fun z => by rw [z, e0] at e; exact z3 ps (Option.some.inj e).symm)
/-- the generator's turns by the evaluator -/
theorem gen_go (k : CxOK G c X F) {cap : List (Option Nat)} {is : List Nat} {one st : Bool} {n : Nat} {its : List E} {y : E} (hcap : ∀ i ∈ is, cap[i]? = some none) {P : Addr} (hP : P ∈ F.tb) {σ : L2.St} {H : Hp} {Q : VK}
    (q : RdE F (ev G (.gen st cap is one n its y)) σ H Q) : tGenI P cap (RdI F (itf G n its)) (RdB F is one) (RdE F (ev (G1 G) y)) st σ H Q := by
  obtain ⟨io, env, S, d, S', sl, so, e, kk⟩ := q
  simp only [ev] at e
  split at e
  · cases e
  · rename_i as S1 q1
    split at e
    · cases e
    · rename_i ds gd q2
      split at e
      · cases e
      · rename_i b S2 q3
        simp only [Option.some.injEq, Prod.mk.injEq] at e
        obtain ⟨rfl, rfl⟩ := e
        refine ⟨io, env, S, (ds, gd), S1, sl, so, by simp only [itf, q1, q2], fun io1 H1 J g1 so1 it => ⟨so1.tb P hP, fun H4 hT => ?_⟩⟩
        obtain ⟨g4, so4⟩ := grow_tab so1 (so1.tb P hP) hT
        have slc : SlOK F io1 H4 (capS cap σ) (capS cap env) := ((sl.up g1).up g4).cap cap
        have hnone : ∀ i ∈ is, (capS cap env)[i]? = some none := fun i hi => by
          unfold capS
          rw [List.getElem?_map, hcap i hi]
          rfl
        refine ⟨fun i m σ' H' => ∃ io' S', m = ds.length - i ∧ i ≤ ds.length ∧ Grow F io1 H4 io' H' ∧ StOK F io' H' S' ∧ SlOK F io' H' σ' (capS cap env) ∧ genLoop st gd (bindT is one) (ev (G1 G) y) (capS cap env) (ds.drop i) S' = some (b, S2), ds.length, ⟨io1, S1, rfl, Nat.zero_le _, Grow.refl _ _, so4, slc, q3⟩, ?_⟩
        rintro i m σ' H' ⟨io', S', rfl, hi, g', so', sl', hc⟩
        have kp := (g4.trans g').kp
        by_cases hlt : i < ds.length
        · have hdr : ds.drop i = ds[i] :: ds.drop (i + 1) := List.drop_eq_getElem_cons hlt
          rw [hdr] at hc
          simp only [genLoop] at hc
          split at hc
          · rename_i hgd
            refine .inr ⟨ds.length - (i + 1), by omega, it.go _ io' H' S' i kp so' hgd hlt, fun x H2 hy => ?_⟩
            obtain ⟨dx, ed, g2, so2, r2⟩ := it.yld _ io' H' S' i x H2 kp so' hgd hlt hy
            rw [List.getElem?_eq_getElem hlt] at ed
            cases ed
            split at hc
            · cases hc
            · rename_i env1 q4
              obtain ⟨hl, hless⟩ := bindT_less q4 hnone
              refine ⟨io', _, _, env1, sl'.up g2, r2, q4, fun st' sl2 hw => ?_⟩
              split at hc
              · rename_i b' S3 q5
                refine ⟨io', env1, S', .bl b', S3, sl2, so2, q5, fun io3 H3 v g3 so3 r3 => ?_⟩
                cases r3
                refine ⟨b', rfl, fun eb => ?_, fun nb => ?_⟩
                · rw [if_pos eb] at hc
                  cases hc
                  exact kk io3 H3 _ ((((g1.trans g4).trans g').trans g2).trans g3) so3 (.bl _)
                · rw [if_neg nb] at hc
                  exact ⟨io3, S3, rfl, hlt, (g'.trans g2).trans g3, so3, (sl2.up g3).less hl hless, hc⟩
              · cases hc
          · cases hc
        · have ei : i = ds.length := by omega
          rw [ei, List.drop_length] at hc
          simp only [genLoop] at hc
          split at hc
          · rename_i hgd
            cases hc
            exact .inl ⟨it.stop _ io' H' S2 i kp so' hgd (show ds.length ≤ i by omega), kk io' H' _ ((g1.trans g4).trans g') so' (.bl _)⟩
          · cases hc
theorem genFold_of {iter : Expr} {env : Env} (h : ∀ x, foldedSetIterable iter env x = pure x) (hl : ∀ a b, iter ≠ .List a b) (x : Value) : genFold iter env x = pure x := by
  unfold genFold
  split
  · exact absurd rfl (hl _ _)
  · exact h x
theorem sGen {st : Bool} {nm : Str} {elt tg iter : Expr} {p pos gpos : Pos} {is : List Nat} {one : Bool} {n : Nat} {its : List E} {y : E} (hnm : nm = if st then ("any" : Str) else ("all" : Str)) (hk : c.names.lookup nm = some .globalImplicit) (ht : c.tab = true)
    (hi : SI G c tg iter n its) (hs : genC c scope = true) (hg : ST (G1 G) (c.gen scope) tg is one) (he : SE (G1 G) (c.gen scope) elt y) (hcap : ∀ i ∈ is, (gCap c scope)[i]? = some none)
    (hf : ∀ env x, foldedSetIterable iter env x = pure x) (hl : ∀ a b, iter ≠ .List a b) :
    SE G c (.Call (.Name nm p) [.GeneratorExp elt [⟨tg, iter, [], 0⟩] scope gpos] [] pos) (.gen st (gCap c scope) is one n its y) := by
  refine SE.plain (fun X F k => ?_) fun _ _ => rfl
  obtain ⟨hr, ⟨cc, P, h1, h2, h3⟩, h4, h5⟩ := k.tab ht
  have hX : GFr X (gNames scope.names) scope tg elt (RdB F is one) (RdE F (ev (G1 G) y)) := fun s4 H4 fp pn code =>
    ⟨hg _ _ (cx_gen k hs ht s4 H4 fp pn code), (he _ _ (cx_gen k hs ht s4 H4 fp pn code)).1⟩
  cases st with
  | false =>
    subst hnm
    exact PEw (pe_allI hr (gl_of k hk) (k.free .all) (by decide +kernel) h2 h1 (genC_ok k hs) (hi X F k) hX fun v => genFold_of (hf X.env) hl v) fun st H Q q => gen_go k hcap h3 q
  | true =>
    subst hnm
    exact PEw (pe_anyI hr (gl_of k hk) k.free3 (by decide +kernel) h2 h1 (genC_ok k hs) (hi X F k) hX fun v => genFold_of (hf X.env) hl v) fun st H Q q => gen_go k hcap h3 q
end
end Ev

namespace Ev
open PySem PySem.Spec PyProof.Rows L2
/-! ### statements -/
def endF (F : Fx) (io : List Addr) (H : Hp) (st : L2.St) (D : Ends) : Fl → Prop
  | .nx => D.nx st H
  | .bk => D.bk st H
  | .ct => D.ct st H
  | .rt d => ∀ v, Rep F io H d v → D.rt v H
def RdS (F : Fx) (f : EnvD → Sto → Option (Fl × EnvD × Sto)) : TS := fun D st H => ∃ io env S r env' S', SlOK F io H st env ∧ StOK F io H S ∧ f env S = some (r, env', S') ∧ ∀ io' H' st', Grow F io H io' H' → StOK F io' H' S' → SlOK F io' H' st' env' → endF F io' H' st' D r
def SS (G : Gb) (c : Cc) (w : Nat) (s : Stmt) (t : T) : Prop := ∀ X F, CxOK G c X F → PassesOwn (model X.prog X.w) X.A X.env X.xe → PS X s (RdS F (ex G w t))
def SSs (G : Gb) (c : Cc) (w : Nat) (s : List Stmt) (t : List T) : Prop := ∀ X F, CxOK G c X F → PassesOwn (model X.prog X.w) X.A X.env X.xe → PSs X s (RdS F (exs G w t))
/-- no comprehension -/
def noLc : Expr → Bool
  | .ListComp .. => false
  | .SetComp .. => false
  | .DictComp .. => false
  | _ => true
theorem sw_plain {e : Expr} (h : noLc e = true) (t : Option Expr) (l : Nat) (env : Env) : swapsWith e t l env = pure false := by
  cases e <;> first
    | rfl
    | (cases h; done)
theorem sw_lc {elt : Expr} {gs : List Comprehension} {scope : Scope} {pos py : Pos} {y : Str} {l : Nat} {env : Env} : swapsWith (.ListComp elt gs scope pos) (some (.Name y py)) l env = pure (env.blockKind == .function && env.kindOf y == some .local && py.line == pos.line
      && !(scope.names.any fun (n, k) => n == y && (k == .local || k == .cell))) := rfl
section
variable {G : Gb} {c : Cc} {X : Cx} {F : Fx} {w : Nat}
theorem Loc_of (k : CxOK G c X F) {x : Str} {i : Nat} (h : TgOK c x i) : Loc X.env.scope x := by
  rcases h.2 with q | q
  · exact .inl (by rw [k.nm]; exact q)
  · exact .inr (by rw [k.nm]; exact q.1)
theorem fn_of (k : CxOK G c X F) {x : Str} {i : Nat} (h : TgOK c x i) : X.fn x = true ∨ X.env.scope.names.lookup x = some .local := by
  rcases h.2 with q | q
  · exact .inr (by rw [k.nm]; exact q)
  · exact .inl (k.st q.2 x)
/-- an expression's value bound to a name -/
theorem asg_nm {te : EnvD → Sto → Option (D × Sto)} {i : Nat} {D : Ends} {st : L2.St} {H : Hp} (q : RdS F (fun env S => match te env S with
    | none => none
    | some (d, S1) => some (.nx, env.set i (some d), S1)) D st H) : RdE F te st H fun x H1 => gName i x st H1 D.nx := by
  obtain ⟨io, env, S, r, env', S', sl, so, e, kk⟩ := q
  dsimp only at e
  split at e
  · cases e
  · rename_i d S1 q1
    cases e
    exact ⟨io, env, S, d, S', sl, so, q1, fun io1 H1 v g1 so1 r1 => kk io1 H1 _ g1 so1 ((sl.up g1).set r1 i)⟩
theorem ex_asg {i : Nat} {x : E} : ex G w (.asg (.name i) x) = fun env S => match ev G x env S with
    | none => none
    | some (d, S1) => some (.nx, env.set i (some d), S1) := by
  funext env S
  simp only [ex, asgT] <;> (cases ev G x env S <;> rfl)
theorem sSet {x : Str} {p pos : Pos} {i : Nat} {e : Expr} {y : E} (h : TgOK c x i) (he : SE G c e y) (hn : noLc e = true) : SS G c w (.Assign [.Name x p] e pos) (.asg (.name i) y) := by
  intro X F k hp
  refine PSw (ps_set (by rw [k.hN]; exact k.nd) (by rw [k.hN]; exact h.1) (Loc_of k h) (he X F k).1 (sw_plain hn _ _ _) (fn_of k h)) fun D st H q => ?_
  rw [ex_asg] at q
  exact asg_nm q
theorem sSetLc {x : Str} {py spos : Pos} {i : Nat} {elt tg iter : Expr} {ifs : List Expr} {scope : Scope} {own : List (Str × Nat)} {pos : Pos} {is : List Nat} {one : Bool} {n : Nat} {its : List E} {fi : Bool} {cd y : E} (h : TgOK c x i)
    (hi : SI G c tg iter n its) (ok : blkC c.N { scope with names := c.names } scope own = true) (hg : ST G (c.blk scope) tg is one) (hin : (is.all fun i => own.any fun p => p.2 == i) = true) (hf : SIf G (c.blk scope) ifs fi cd) (he : SE G (c.blk scope) elt y)
    (hs : ∀ env x, foldedSetIterable iter env x = pure x := by intro _ _; rfl) : SS G c w (.Assign [.Name x py] (.ListComp elt [⟨tg, iter, ifs, 0⟩] scope pos) spos) (.asg (.name i) (.comp (own.map (·.2)) is one n its fi cd y)) := by
  intro X F k hp
  by_cases hsw : (X.env.blockKind == .function && X.env.kindOf x == some .local && py.line == pos.line && !(scope.names.any fun (n, k) => n == x && (k == .local || k == .cell))) = true
  · obtain ⟨b, p1, p2, p3, p4⟩ := sLc (elt := elt) (pos := pos) hi ok hg hin hf he X F k
    have hl : X.env.scope.names.lookup x = some .local := by
      simp only [Bool.and_eq_true] at hsw
      have := hsw.1.1.2
      unfold Env.kindOf at this
      simpa using this
    refine PSw (ps_setLc k.calm (by rw [k.hN]; exact k.nd) (by rw [k.hN]; exact h.1) hl (by rw [sw_lc, hsw]) p1 b p2 p3 p4 (hs X.env)) fun D st H q => ?_
    rw [ex_asg] at q
    exact lc_go k hin (asg_nm q)
  · refine PSw (ps_set (by rw [k.hN]; exact k.nd) (by rw [k.hN]; exact h.1) (Loc_of k h) ((sComp hi ok hg hin hf he hs) X F k).1 (by rw [sw_lc]; exact congrArg pure (Bool.eq_false_iff.mpr hsw)) (fn_of k h)) fun D st H q => ?_
    rw [ex_asg] at q
    exact asg_nm q
theorem sSub {o i e : Expr} {p pos : Pos} {x1 x2 y : E} (hg : SG G c (.Subscript o i p) (.sub x1 x2)) (he : SE G c e y) (hn : noLc e = true) : SS G c w (.Assign [.Subscript o i p] e pos) (.asg (.sub x1 x2) y) := by
  intro X F k hp
  refine PSw (ps_asg (he X F k).1 (hg.2 X F k) (by unfold swapsWithSole; exact sw_plain hn _ _ _) (by cases e <;> rfl)) fun D st H q => ?_
  obtain ⟨io, env, S, r, env', S', sl, so, e, kk⟩ := q
  simp only [ex] at e
  split at e
  · cases e
  · rename_i d S1 q1
    split at e
    · cases e
    · rename_i env1 S2 q2
      cases e
      exact ⟨io, env, S, d, S1, sl, so, q1, fun io1 H1 v g1 so1 r1 => ⟨io1, env, S1, d, _, _, sl.up g1, so1, r1, q2, fun io2 H2 st2 g2 so2 sl2 => kk io2 H2 st2 (g1.trans g2) so2 sl2⟩⟩
/-- what the two-name form tells -/
def swN (names : List (Str × NameKind)) (ts vs : List Expr) : Option (Option (List Str)) :=
  if (!(ts.length == 2 || ts.length == 3) || vs.length != ts.length) = true then some none else
  if (vs.any fun | .Starred .. => true | _ => false) = true then some none else
  let line := (ts.head?.map (·.pos.line)).getD 0
  let ns := ts.filterMap fun
    | .Name id pos => if names.lookup id == some .local && pos.line == line then some id else none
    | _ => none
  if (ns.length != ts.length || ns.eraseDups.length != ns.length) = true then some none else
  if (vs.all (foldedForSure 8)) = true then some none else
  if (vs.all (constantsAlone 8)) = true then none else some (some ns)
theorem swN_ok (k : CxOK G c X F) {ts vs : List Expr} {j j2 : Nat} {p p2 : Pos} {r : Option (List Str)} (h : swN c.names ts vs = some r) : swappedStores [.Tuple ts j p] (.Tuple vs j2 p2) X.env = pure r := by
  have hb : (X.env.blockKind != ScopeKind.function) = false := by
    unfold Env.blockKind
    rw [k.kf]
    rfl
  have hk : ∀ id, X.env.kindOf id = c.names.lookup id := fun id => by unfold Env.kindOf; rw [k.nm]
  simp only [swN] at h
  simp only [swappedStores, hb, Bool.or_false, hk]
  split at h
  · rename_i h1
    refine (if_pos h1).trans ?_
    cases h; rfl
  · rename_i h1
    refine (if_neg h1).trans ?_
    split at h
    · rename_i h2
      refine (if_pos h2).trans ?_
      cases h; rfl
    · rename_i h2
      refine (if_neg h2).trans ?_
      split at h
      · rename_i h3
        refine (if_pos h3).trans ?_
        cases h; rfl
      · rename_i h3
        refine (if_neg h3).trans ?_
        split at h
        · rename_i h4
          refine (if_pos h4).trans ?_
          cases h; rfl
        · rename_i h4
          refine (if_neg h4).trans ?_
          split at h
          · cases h
          · rename_i h5
            refine (if_neg h5).trans ?_
            cases h; rfl
end
end Ev

namespace Ev
open PySem PySem.Spec PyProof.Rows L2
section
variable {G : Gb} {c : Cc} {X : Cx} {F : Fx} {w : Nat}
theorem sAsgT {ts : List Expr} {j : Nat} {p pos : Pos} {tgs : List Tg} {e : Expr} {y : E} (hg : SGs G c ts tgs) (he : SE G c e y) (hw : ∀ X F, CxOK G c X F → swappedStores [.Tuple ts j p] e X.env = pure none) : SS G c w (.Assign [.Tuple ts j p] e pos) (.tup tgs y) := by
  intro X F k hp
  refine PSw (ps_asg (he X F k).1 (pg_tup k.calm (hg.pgs k) (hg.ns X.env).1 (hg.ns X.env).2) (by unfold swapsWithSole; cases e <;> rfl) (hw X F k)) fun D st H q => ?_
  obtain ⟨io, env, S, r, env', S', sl, so, e, kk⟩ := q
  simp only [ex] at e
  split at e
  · rename_i l S1 q1
    split at e
    · cases e
    · rename_i env1 S2 q2
      cases e
      refine ⟨io, env, S, _, S1, sl, so, q1, fun io1 H1 v g1 so1 r1 => ?_⟩
      cases r1 with
      | tup hs rs => exact ⟨_, _, rfl, by rw [k.hK]; exact hs, by rw [← rs.len, ← asgTs_len q2, hg.ln], io1, env, S1, _, _, _, sl.up g1, so1, rs, q2, fun io2 H2 st2 g2 so2 sl2 => kk io2 H2 st2 (g1.trans g2) so2 sl2⟩
  · cases e
theorem sPar2 {x y : Str} {a b : Expr} {px py pt pos : Pos} {i j kt k2 : Nat} {pt2 : Pos} {es : List E} (hx : c.N[i]? = some x) (hy : c.N[j]? = some y) (hij : i ≠ j) (lx : c.names.lookup x = some .local) (ly : c.names.lookup y = some .local) (ha : SA G c [a, b] es)
    (hw : swN c.names [.Name x px, .Name y py] [a, b] = some (some [x, y])) : SS G c w (.Assign [.Tuple [.Name x px, .Name y py] kt pt] (.Tuple [a, b] k2 pt2) pos) (.par [i, j] es) := by
  intro X F k hp
  refine PSw (ps_par k.calm (by rw [k.hN]; exact k.nd) (by rw [k.hN]; exact hx) (by rw [k.hN]; exact hy) hij (by rw [k.nm]; exact lx) (by rw [k.nm]; exact ly) (ha.pa k) (swN_ok k hw)) fun D st H q => ?_
  obtain ⟨io, env, S, r, env', S', sl, so, e, kk⟩ := q
  simp only [ex] at e
  split at e
  · cases e
  · rename_i ds S1 q1
    split at e
    · cases e
    · rename_i env1 q2
      cases e
      refine ⟨io, env, S, ds, _, sl, so, q1, fun io1 H1 vs g1 so1 r1 => ?_⟩
      cases r1 with
      | nil => simp [setAll] at q2
      | cons r r2 => cases r2 with
        | nil => simp [setAll] at q2
        | cons r' r2 => cases r2 with
          | cons => simp [setAll] at q2
          | nil =>
            simp only [setAll, Option.some.injEq] at q2
            subst q2
            exact ⟨_, _, rfl, kk io1 H1 _ g1 so1 (((sl.up g1).set r i).set r' j)⟩
theorem sPar3 {x y z : Str} {a b d : Expr} {px py pz pt pos : Pos} {i j l kt k2 : Nat} {pt2 : Pos} {es : List E} (hx : c.N[i]? = some x) (hy : c.N[j]? = some y) (hz : c.N[l]? = some z) (hij : i ≠ j) (hil : i ≠ l) (hjl : j ≠ l) (lx : c.names.lookup x = some .local) (ly : c.names.lookup y = some .local) (lz : c.names.lookup z = some .local)
    (ha : SA G c [a, b, d] es) (hw : swN c.names [.Name x px, .Name y py, .Name z pz] [a, b, d] = some (some [x, y, z])) : SS G c w (.Assign [.Tuple [.Name x px, .Name y py, .Name z pz] kt pt] (.Tuple [a, b, d] k2 pt2) pos) (.par [i, j, l] es) := by
  intro X F k hp
  refine PSw (ps_par3 k.calm (by rw [k.hN]; exact k.nd) (by rw [k.hN]; exact hx) (by rw [k.hN]; exact hy) (by rw [k.hN]; exact hz) hij hil hjl (by rw [k.nm]; exact lx) (by rw [k.nm]; exact ly) (by rw [k.nm]; exact lz) (ha.pa k) (swN_ok k hw)) fun D st H q => ?_
  obtain ⟨io, env, S, r, env', S', sl, so, e, kk⟩ := q
  simp only [ex] at e
  split at e
  · cases e
  · rename_i ds S1 q1
    split at e
    · cases e
    · rename_i env1 q2
      cases e
      refine ⟨io, env, S, ds, _, sl, so, q1, fun io1 H1 vs g1 so1 r1 => ?_⟩
      cases r1 with
      | nil => simp [setAll] at q2
      | cons r r2 => cases r2 with
        | nil => simp [setAll] at q2
        | cons r' r2 => cases r2 with
          | nil => simp [setAll] at q2
          | cons r'' r2 => cases r2 with
            | cons => simp [setAll] at q2
            | nil =>
              simp only [setAll, Option.some.injEq] at q2
              subst q2
              exact ⟨_, _, _, rfl, kk io1 H1 _ g1 so1 ((((sl.up g1).set r i).set r' j).set r'' l)⟩
theorem noI_tup : typeLookup (.type "tuple") (dunderI "add") = pure none := by rw [typeLookup_type, builtinLookup_eq_fast]; kernel_rfl
theorem icat_tup0 {prog : Program} {w : World} {A : Around} {E : Value → Shared → Prop} {s : Shared} {t b : Addr} {ws : List Value} {Q : Value → Shared → Prop} (ht : IsTup s.heap t ([] : List Value).toArray) (hb : IsTup s.heap b ws.toArray) (h : Q (.ref b) s) : wpAny (model prog w) A (inplaceOp .Add (.ref t) (.ref b)) Q E s := by
  obtain ⟨⟨cls, dd, data, sl⟩, ho, hc, n, hd⟩ := id ht
  obtain ⟨⟨cls2, dd2, data2, sl2⟩, ho2, hc2, n2, hd2⟩ := id hb
  simp only at hc hd hc2 hd2
  subst hc hd hc2 hd2
  exact wpAny_inplaceOp_concat ⟨_, ho, rfl⟩ ⟨_, ho2, rfl⟩ noI_tup noFill_tuple_add seq_tuple_add (call_meets PySem.F.slot_tuple_add ⟨_, ho, rfl⟩ PySem.F.entry_tuple_add (PySem.F.args_tuple_add_2 _ _)
    (tuple_addW0 t b ([] : List Value).toArray ws.toArray n n2 dd dd2 sl sl2 (by simp)) ⟨ho, ho2, h⟩)
theorem icat_tup {prog : Program} {w : World} {A : Around} {E : Value → Shared → Prop} {s : Shared} {t b : Addr} {vs ws : List Value} {Q : Value → Shared → Prop} (ht : IsTup s.heap t vs.toArray) (hb : IsTup s.heap b ws.toArray) (hv : vs ≠ [])
    (h1 : ws = [] → Q (.ref t) s) (h2 : ws ≠ [] → Q (.ref s.heap.objs.size) { s with heap := s.heap.push { cls := .type "tuple", data := .seq (vs ++ ws).toArray } })
    (hsz : vs.length + ws.length ≤ sizeLine) : wpAny (model prog w) A (inplaceOp .Add (.ref t) (.ref b)) Q E s := by
  obtain ⟨⟨cls, dd, data, sl⟩, ho, hc, n, hd⟩ := id ht
  obtain ⟨⟨cls2, dd2, data2, sl2⟩, ho2, hc2, n2, hd2⟩ := id hb
  simp only at hc hd hc2 hd2
  subst hc hd hc2 hd2
  have e : vs.toArray ++ ws.toArray = (vs ++ ws).toArray := by simp
  by_cases hw : ws = []
  · exact wpAny_inplaceOp_concat ⟨_, ho, rfl⟩ ⟨_, ho2, rfl⟩ noI_tup noFill_tuple_add seq_tuple_add (call_meets PySem.F.slot_tuple_add ⟨_, ho, rfl⟩ PySem.F.entry_tuple_add (PySem.F.args_tuple_add_2 _ _)
      (tuple_addW1 t b vs.toArray ws.toArray n n2 dd dd2 sl sl2 (by simpa using hv) (by simp [hw])) ⟨ho, ho2, h1 hw⟩)
  · refine wpAny_inplaceOp_concat ⟨_, ho, rfl⟩ ⟨_, ho2, rfl⟩ noI_tup noFill_tuple_add seq_tuple_add (call_meets PySem.F.slot_tuple_add ⟨_, ho, rfl⟩ PySem.F.entry_tuple_add (PySem.F.args_tuple_add_2 _ _)
      (tuple_addW2 t b vs.toArray ws.toArray n n2 dd dd2 sl sl2 (by simpa using hv) (by simpa using hw) (by rw [List.size_toArray, List.size_toArray]; exact hsz)) ⟨ho, ho2, ?_⟩)
    rw [e]
    exact h2 hw
theorem ip_catA : PIp X .Add (rCatA X.K) := by
  intro pins s σ H x y v u Q I rx ry h
  obtain ⟨a, b, xs, ys, rfl, rfl, ha, hb, hz, q0, q1, q2⟩ := h
  cases rx
  cases ry
  obtain ⟨its, r1, p1, _⟩ := I.tuple ha
  obtain ⟨its2, r2, p2, _⟩ := I.tuple hb
  by_cases hx : xs = []
  · subst hx
    cases r1
    exact icat_tup0 p1 p2 ⟨.ref b, H, I, rfl, q0 rfl⟩
  · refine icat_tup p1 p2 (fun z => hx (r1.nil_iff.mp z)) (fun z => ⟨.ref a, H, I, rfl, q1 hx (r2.nil_iff.mp z)⟩) (fun z => ?_) (by rw [← r1.length, ← r2.length]; exact hz)
    refine ⟨.ref s.heap.objs.size, _, I.laid (t' := s.toks) (o := .tup (xs ++ ys)) (fun b ob q => Heap.get?_push_of_some _ q) (Nat.le_refl _) ?_, rfl, q2 hx (fun w => z (r2.nil_iff.mpr w)) _ (I.hok.fresh (Nat.le_refl _))⟩
    exact ⟨by rw [List.length_append]; exact hz, _, r1.append r2, IsTup.new _ _⟩
theorem ip_strA : PIp X .Add (fun x y H Q => ∃ a b, x = .str a ∧ y = .str b ∧ a.length + b.length ≤ sizeLine ∧ Q (.str (a ++ b)) H) := by
  intro pins s σ H x y v u Q I rx ry h
  obtain ⟨a, b, rfl, rfl, hz, q⟩ := h
  obtain ⟨t, rfl⟩ := rx
  obtain ⟨t', rfl⟩ := ry
  exact PyProof.Rows.iadd_str (fun t'' tk => ⟨.str _, H, I.tok _, ⟨_, rfl⟩, q⟩) hz
theorem ip_of {op : Operator} (hK : X.K = F.K) (h : op = .Add ∨ op = .Sub) : PIp X op (fun x y H Q => ∃ io S a b d, StOK F io H S ∧ Rep F io H a x ∧ Rep F io H b y ∧ augF op a b = some d ∧ ∀ io' H' v, Grow F io H io' H' → StOK F io' H' S → Rep F io' H' d v → Q v H') := by
  intro pins s st H x y v u Q I r1 r2 q
  obtain ⟨io, S, a, b, d, so, ra, rb, e, k⟩ := q
  cases a <;> cases b <;> simp only [augF] at e <;> try (cases e; done)
  · obtain ⟨z, e2, rfl⟩ := Option.map_eq_some_iff.mp e
    cases ra
    cases rb
    have fin := k io H _ (Grow.refl _ _) so (.int z)
    rcases h with rfl | rfl
    · simp only [ibop, Option.some.injEq] at e2
      subst e2
      exact ip_add pins s st H _ _ v u Q I r1 r2 ⟨_, _, rfl, rfl, fin⟩
    · simp only [ibop, Option.some.injEq] at e2
      subst e2
      exact ip_sub pins s st H _ _ v u Q I r1 r2 ⟨_, _, rfl, rfl, fin⟩
  · cases ra
    cases rb
    rcases h with rfl | rfl
    · simp only [bop] at e
      split at e
      · rename_i hz
        cases e
        exact ip_strA pins s st H _ _ v u Q I r1 r2 ⟨_, _, rfl, rfl, hz, k io H _ (Grow.refl _ _) so (.str _)⟩
      · cases e
    · simp [bop] at e
  · rcases h with rfl | rfl
    · simp only [bop] at e
      split at e
      · rename_i hz
        cases e
        cases ra with
        | tup hs rs =>
          cases rb with
          | tup ht rt =>
            rename_i l m pa xs pb ys
            refine ip_catA pins s st H _ _ v u Q I r1 r2 ⟨_, _, _, _, rfl, rfl, by rw [hK]; exact hs, by rw [hK]; exact ht, by rw [← rs.len, ← rt.len]; exact hz, fun e0 => ?_, fun _ e0 => ?_, fun _ _ p hp => ?_⟩
            · subst e0
              cases rs
              exact k io H _ (Grow.refl _ _) so (.tup ht rt)
            · subst e0
              cases rt
              rw [List.append_nil] at k
              exact k io H _ (Grow.refl _ _) so (.tup hs rs)
            · exact k io _ _ (grow_new so hp _) (so.new hp _) (.tup (.inl (.inl upd_same)) ((rs.app rt).up (grow_new so hp _)))
      · cases e
    · simp [bop] at e
theorem sAug {x : Str} {p pos : Pos} {i : Nat} {op : Operator} {e : Expr} {y : E} (h : TgOK c x i) (ho : op = .Add ∨ op = .Sub) (he : SE G c e y) : SS G c w (.AugAssign (.Name x p) op e pos) (.aug i op y) := by
  intro X F k hp
  refine PSw (ps_aug (by rw [k.hN]; exact k.nd) (by rw [k.hN]; exact h.1) (Loc_of k h) (he X F k).1 (ip_of (F := F) k.hK ho) (fn_of k h)) fun D st H q => ?_
  obtain ⟨io, env, S, r, env', S', sl, so, e, kk⟩ := q
  simp only [ex] at e
  split at e
  · rename_i x0 q0
    split at e
    · rename_i y0 S1 q1
      split at e
      · rename_i z q2
        cases e
        obtain ⟨v, hv, rv⟩ := sl.at_ i _ q0
        refine ⟨_, hv, io, env, S, _, _, sl, so, q1, fun io1 H1 u g1 so1 r1 => ?_⟩
        exact ⟨io1, _, x0, y0, z, so1, rv.up g1, r1, q2, fun io2 H2 v2 g2 so2 r2 => kk io2 H2 _ (g1.trans g2) so2 (((sl.up g1).up g2).set r2 i)⟩
      · cases e
    · cases e
  · cases e
theorem sExpr {e : Expr} {y : E} {pos : Pos} (he : SE G c e y) (hn : noLc e = true) : SS G c w (.Expr e pos) (.expr y) := by
  intro X F k hp
  refine PSw (ps_expr (he X F k).1 (sw_plain hn _ _ _)) fun D st H q => ?_
  obtain ⟨io, env, S, r, env', S', sl, so, e, kk⟩ := q
  simp only [ex] at e
  split at e
  · cases e
  · rename_i d S1 q1
    cases e
    exact ⟨io, env, S, d, _, sl, so, q1, fun io1 H1 v g1 so1 r1 => kk io1 H1 st g1 so1 (sl.up g1)⟩
theorem sDoc {x : Str} {j : Nat} {p pos : Pos} : SS G c w (.Expr (.Constant (.str x) j p) pos) .pass := by
  intro X F k hp
  refine PSw ps_doc fun D st H q => ?_
  obtain ⟨io, env, S, r, env', S', sl, so, e, kk⟩ := q
  simp only [ex, Option.some.injEq, Prod.mk.injEq] at e
  obtain ⟨rfl, rfl, rfl⟩ := e
  exact kk io H st (Grow.refl _ _) so sl
theorem sPass {pos : Pos} : SS G c w (.Pass pos) .pass := by
  intro X F k hp
  refine PSw ps_pass fun D st H q => ?_
  obtain ⟨io, env, S, r, env', S', sl, so, e, kk⟩ := q
  simp only [ex, Option.some.injEq, Prod.mk.injEq] at e
  obtain ⟨rfl, rfl, rfl⟩ := e
  exact kk io H st (Grow.refl _ _) so sl
theorem sBrk {pos : Pos} : SS G c w (.Break pos) .brk := by
  intro X F k hp
  refine PSw ps_break fun D st H q => ?_
  obtain ⟨io, env, S, r, env', S', sl, so, e, kk⟩ := q
  simp only [ex, Option.some.injEq, Prod.mk.injEq] at e
  obtain ⟨rfl, rfl, rfl⟩ := e
  exact kk io H st (Grow.refl _ _) so sl
theorem sCont {pos : Pos} : SS G c w (.Continue pos) .cont := by
  intro X F k hp
  refine PSw ps_continue fun D st H q => ?_
  obtain ⟨io, env, S, r, env', S', sl, so, e, kk⟩ := q
  simp only [ex, Option.some.injEq, Prod.mk.injEq] at e
  obtain ⟨rfl, rfl, rfl⟩ := e
  exact kk io H st (Grow.refl _ _) so sl
theorem sRetN {pos : Pos} : SS G c w (.Return none pos) .retN := by
  intro X F k hp
  refine PSw ps_retN fun D st H q => ?_
  obtain ⟨io, env, S, r, env', S', sl, so, e, kk⟩ := q
  simp only [ex, Option.some.injEq, Prod.mk.injEq] at e
  obtain ⟨rfl, rfl, rfl⟩ := e
  exact kk io H st (Grow.refl _ _) so sl _ .non
theorem sRet {e : Expr} {y : E} {pos : Pos} (he : SE G c e y) : SS G c w (.Return (some e) pos) (.ret y) := by
  intro X F k hp
  refine PSw (ps_ret (he X F k).1) fun D st H q => ?_
  obtain ⟨io, env, S, r, env', S', sl, so, e, kk⟩ := q
  simp only [ex] at e
  split at e
  · cases e
  · rename_i d S1 q1
    cases e
    exact ⟨io, env, S, d, _, sl, so, q1, fun io1 H1 v g1 so1 r1 => kk io1 H1 st g1 so1 (sl.up g1) v r1⟩
theorem sStop {s : Stmt} : SS G c w s .stop := by
  intro X F k hp
  refine PSw ps_never fun D st H q => ?_
  obtain ⟨io, env, S, r, env', S', sl, so, e, kk⟩ := q
  simp [ex] at e
theorem ssNil : SSs G c w [] [] := by
  intro X F k hp
  refine PSsw pss_nil fun D st H q => ?_
  obtain ⟨io, env, S, r, env', S', sl, so, e, kk⟩ := q
  simp only [exs, Option.some.injEq, Prod.mk.injEq] at e
  obtain ⟨rfl, rfl, rfl⟩ := e
  exact kk io H st (Grow.refl _ _) so sl
theorem ssCons {s : Stmt} {ss : List Stmt} {t : T} {ts : List T} (h : SS G c w s t) (hs : SSs G c w ss ts) : SSs G c w (s :: ss) (t :: ts) := by
  intro X F k hp
  refine PSsw (pss_cons (h X F k hp) (hs X F k hp)) fun D st H q => ?_
  obtain ⟨io, env, S, r, env', S', sl, so, e, kk⟩ := q
  simp only [exs] at e
  split at e
  · cases e
  · rename_i env1 S1 q1
    refine ⟨io, env, S, .nx, env1, S1, sl, so, q1, fun io1 H1 st1 g1 so1 sl1 => ⟨io1, env1, S1, r, env', S', sl1, so1, e, fun io2 H2 st2 g2 so2 sl2 => kk io2 H2 st2 (g1.trans g2) so2 sl2⟩⟩
  · rename_i r1 hne q1
    cases e
    refine ⟨io, env, S, r, env', S', sl, so, q1, fun io1 H1 st1 g1 so1 sl1 => ?_⟩
    have z := kk io1 H1 st1 g1 so1 sl1
    cases r with
    | nx => exact absurd rfl (hne env' S')
    | bk => exact z
    | ct => exact z
    | rt d => exact z
theorem sIfS {e : Expr} {a b : List Stmt} {x : E} {ta tb : List T} {pos : Pos} (he : SE G c e x) (ha : SSs G c w a ta) (hb : SSs G c w b tb) : SS G c w (.If e a b pos) (.ife x ta tb) := by
  intro X F k hp
  refine PSw (ps_if (he X F k).2 (ha X F k hp) (hb X F k hp)) fun D st H q => ?_
  obtain ⟨io, env, S, r, env', S', sl, so, e, kk⟩ := q
  simp only [ex] at e
  split at e
  · cases e
  · rename_i S1 q1
    refine ⟨io, env, S, true, S1, sl, so, q1, fun io1 H1 g1 so1 => ?_⟩
    simp only [if_true]
    exact ⟨io1, env, S1, r, env', S', sl.up g1, so1, e, fun io2 H2 st2 g2 so2 sl2 => kk io2 H2 st2 (g1.trans g2) so2 sl2⟩
  · rename_i S1 q1
    refine ⟨io, env, S, false, S1, sl, so, q1, fun io1 H1 g1 so1 => ?_⟩
    simp only [Bool.false_eq_true, if_false]
    exact ⟨io1, env, S1, r, env', S', sl.up g1, so1, e, fun io2 H2 st2 g2 so2 sl2 => kk io2 H2 st2 (g1.trans g2) so2 sl2⟩
theorem sWhile {e : Expr} {a : List Stmt} {x : E} {ta : List T} {pos : Pos} (he : SE G c e x) (ha : SSs G c w a ta) : SS G c w (.While e a [] pos) (.while' x ta) := by
  intro X F k hp
  refine PSw (ps_while hp (he X F k).2 (ha X F k hp)) fun D st H q => ?_
  obtain ⟨io, env, S, r, env', S', sl, so, e, kk⟩ := q
  simp only [ex] at e
  refine ⟨fun m st1 H1 => ∃ io1 env1 S1, Grow F io H io1 H1 ∧ SlOK F io1 H1 st1 env1 ∧ StOK F io1 H1 S1 ∧ whileLoop (cond G x) (exs G w ta) m env1 S1 = some (r, env', S'), ⟨w, io, env, S, Grow.refl _ _, sl, so, e⟩, ?_⟩
  rintro m st1 H1 ⟨io1, env1, S1, g1, sl1, so1, e1⟩
  cases m with
  | zero => simp [whileLoop] at e1
  | succ m =>
    simp only [whileLoop] at e1
    split at e1
    · cases e1
    · rename_i S2 q2
      cases e1
      refine ⟨io1, _, S1, false, _, sl1, so1, q2, fun io2 H2 g2 so2 => ?_⟩
      simp only [Bool.false_eq_true, if_false]
      exact kk io2 H2 st1 (g1.trans g2) so2 (sl1.up g2)
    · rename_i S2 q2
      refine ⟨io1, env1, S1, true, S2, sl1, so1, q2, fun io2 H2 g2 so2 => ?_⟩
      simp only [if_true]
      refine ⟨fun st3 H3 => ∃ io3 env3 S3, Grow F io H io3 H3 ∧ SlOK F io3 H3 st3 env3 ∧ StOK F io3 H3 S3 ∧ whileLoop (cond G x) (exs G w ta) m env3 S3 = some (r, env', S'), fun st3 H3 h => ⟨m, Nat.lt_succ_self m, h⟩, ?_⟩
      split at e1
      · cases e1
      · rename_i env3 S3 q3
        exact ⟨io2, env1, S2, .nx, env3, S3, sl1.up g2, so2, q3, fun io4 H4 st4 g4 so4 sl4 => ⟨io4, env3, S3, (g1.trans g2).trans g4, sl4, so4, e1⟩⟩
      · rename_i env3 S3 q3
        exact ⟨io2, env1, S2, .ct, env3, S3, sl1.up g2, so2, q3, fun io4 H4 st4 g4 so4 sl4 => ⟨io4, env3, S3, (g1.trans g2).trans g4, sl4, so4, e1⟩⟩
      · rename_i env3 S3 q3
        cases e1
        exact ⟨io2, env1, S2, .bk, _, _, sl1.up g2, so2, q3, fun io4 H4 st4 g4 so4 sl4 => kk io4 H4 st4 ((g1.trans g2).trans g4) so4 sl4⟩
      · rename_i d env3 S3 q3
        cases e1
        exact ⟨io2, env1, S2, .rt d, _, _, sl1.up g2, so2, q3, fun io4 H4 st4 g4 so4 sl4 => kk io4 H4 st4 ((g1.trans g2).trans g4) so4 sl4⟩
theorem sFor {tg iter : Expr} {a : List Stmt} {is : List Nat} {one : Bool} {n : Nat} {its : List E} {ta : List T} {pos : Pos} (hi : SI G c tg iter n its) (hg : ST G c tg is one) (ha : SSs G c w a ta)
    (hs : ∀ env x, foldedSetIterable iter env x = pure x := by intro _ _; rfl) : SS G c w (.For tg iter a [] pos) (.for' is one n its ta) := by
  intro X F k hp
  refine PSw (ps_for hp k.calm (hi X F k) (hg X F k) (ha X F k hp) (hs X.env)) fun D st H q => ?_
  obtain ⟨io, env, S, r, env', S', sl, so, e, kk⟩ := q
  simp only [ex] at e
  split at e
  · cases e
  · rename_i as S1 q1
    split at e
    · cases e
    · rename_i ds gd q2
      refine ⟨io, env, S, (ds, gd), S1, sl, so, by simp only [itf, q1, q2], fun io1 H1 J g1 so1 it => ?_⟩
      refine ⟨fun i m st1 H2 => ∃ io2 env2 S2, m = ds.length - i ∧ i ≤ ds.length ∧ Grow F io1 H1 io2 H2 ∧ SlOK F io2 H2 st1 env2 ∧ StOK F io2 H2 S2 ∧ forLoop gd (bindT is one) (exs G w ta) (ds.drop i) env2 S2 = some (r, env', S'), ⟨_, io1, env, S1, rfl, Nat.zero_le _, Grow.refl _ _, sl.up g1, so1, e⟩, ?_⟩
      rintro i m st2 H2 ⟨io2, env2, S2, rfl, hi, g2, sl2, so2, e2⟩
      by_cases hlt : i < ds.length
      · have hdr : ds.drop i = ds[i] :: ds.drop (i + 1) := List.drop_eq_getElem_cons hlt
        rw [hdr] at e2
        simp only [forLoop] at e2
        split at e2
        · rename_i hgd
          refine .inr ⟨it.go _ io2 H2 S2 i g2.kp so2 hgd hlt, fun st3 H3 => ∃ io3 env3 S3, Grow F io1 H1 io3 H3 ∧ SlOK F io3 H3 st3 env3 ∧ StOK F io3 H3 S3 ∧ forLoop gd (bindT is one) (exs G w ta) (ds.drop (i + 1)) env3 S3 = some (r, env', S'), ?_, fun x H3 hy => ?_⟩
          · rintro st3 H3 ⟨io3, env3, S3, g3, sl3, so3, e3⟩
            exact ⟨ds.length - (i + 1), by omega, io3, env3, S3, rfl, hlt, g3, sl3, so3, e3⟩
          · obtain ⟨dx, ed, g3, so3, r3⟩ := it.yld _ io2 H2 S2 i x H3 g2.kp so2 hgd hlt hy
            rw [List.getElem?_eq_getElem hlt] at ed
            cases ed
            split at e2
            · cases e2
            · rename_i env1 q4
              refine ⟨io2, env2, _, env1, sl2.up g3, r3, q4, fun st4 sl4 _ => ?_⟩
              split at e2
              · cases e2
              · rename_i env3 S3 q3
                exact ⟨io2, env1, S2, .nx, env3, S3, sl4, so3, q3, fun io4 H4 st4 g4 so4 sl4 => ⟨io4, env3, S3, (g2.trans g3).trans g4, sl4, so4, e2⟩⟩
              · rename_i env3 S3 q3
                exact ⟨io2, env1, S2, .ct, env3, S3, sl4, so3, q3, fun io4 H4 st4 g4 so4 sl4 => ⟨io4, env3, S3, (g2.trans g3).trans g4, sl4, so4, e2⟩⟩
              · rename_i env3 S3 q3
                cases e2
                exact ⟨io2, env1, S2, .bk, _, _, sl4, so3, q3, fun io4 H4 st4 g4 so4 sl4 => kk io4 H4 st4 (g1.trans ((g2.trans g3).trans g4)) so4 sl4⟩
              · rename_i d env3 S3 q3
                cases e2
                exact ⟨io2, env1, S2, .rt d, _, _, sl4, so3, q3, fun io4 H4 st4 g4 so4 sl4 => kk io4 H4 st4 (g1.trans ((g2.trans g3).trans g4)) so4 sl4⟩
        · cases e2
      · have ei : i = ds.length := by omega
        rw [ei, List.drop_length] at e2
        simp only [forLoop] at e2
        split at e2
        · rename_i hgd
          cases e2
          exact .inl ⟨it.stop _ io2 H2 _ i g2.kp so2 hgd (show ds.length ≤ i by omega), kk io2 H2 st2 (g1.trans g2) so2 sl2⟩
        · cases e2
/-! targets within one another -/
def RdBP (F : Fx) (p : Pt) : TG := fun v st H Q => ∃ io env d env', SlOK F io H st env ∧ Rep F io H d v ∧ bindP p d env = some env' ∧ ∀ st', SlOK F io H st' env' → Q st' H
def RdBPs (F : Fx) (p : List Pt) : TGs := fun vs st H Q => ∃ io env ds env', SlOK F io H st env ∧ Reps F io H ds vs ∧ bindPs p ds env = some env' ∧ ∀ st', SlOK F io H st' env' → Q st' H
def STn (G : Gb) (c : Cc) (tg : Expr) (p : Pt) : Prop := ∀ X F, CxOK G c X F → PG X tg (RdBP F p)
/-- a target that is a name or a tuple -/
def nmT : Expr → Bool
  | .Name .. => true
  | .Tuple .. => true
  | _ => false
theorem nmT_cons {e : Expr} (h : nmT e = true) (es : List Expr) (env : Env) : assignEach (e :: es) env = (false, assign e env) :: assignEach es env := by
  cases e <;> first
    | rfl
    | (cases h; done)
inductive SGn (G : Gb) (c : Cc) : List Expr → List Pt → Prop
  | nil : SGn G c [] []
  | cons {e : Expr} {p : Pt} {es : List Expr} {ps : List Pt} : nmT e = true → STn G c e p → SGn G c es ps → SGn G c (e :: es) (p :: ps)
theorem SGn.ns {es : List Expr} {ps : List Pt} (h : SGn G c es ps) (env : Env) : (assignEach es env).length = es.length ∧ (assignEach es env).findIdx? (·.1) = none := by
  induction h with
  | nil => exact ⟨rfl, rfl⟩
  | cons hn hx _ ih =>
    rw [nmT_cons hn]
    refine ⟨by rw [List.length_cons, List.length_cons, ih.1], ?_⟩
    rw [List.findIdx?_cons]
    simp only [Bool.false_eq_true, if_false]
    rw [ih.2]
    rfl
theorem SGn.ln {es : List Expr} {ps : List Pt} (h : SGn G c es ps) : es.length = ps.length := by
  induction h with
  | nil => rfl
  | cons _ _ _ ih => rw [List.length_cons, List.length_cons, ih]
theorem bindPs_len {ps : List Pt} {ds : List D} {env env' : EnvD} (h : bindPs ps ds env = some env') : ps.length = ds.length := by
  induction ps generalizing ds env with
  | nil => cases ds with
    | nil => rfl
    | cons => simp [bindPs] at h
  | cons p ps ih => cases ds with
    | nil => simp [bindPs] at h
    | cons d ds =>
      simp only [bindPs] at h
      split at h
      · rw [List.length_cons, List.length_cons, ih h]
      · cases h
theorem SGn.pgs (k : CxOK G c X F) {es : List Expr} {ps : List Pt} (h : SGn G c es ps) : PGs X es (RdBPs F ps) := by
  induction h with
  | nil =>
    refine PGsw pgs_nil fun vs st H Q q => ?_
    obtain ⟨io, env, ds, env', sl, r, e, kk⟩ := q
    cases ds with
    | nil =>
      cases r
      simp only [bindPs, Option.some.injEq] at e
      subst e
      exact ⟨rfl, kk st sl⟩
    | cons => simp [bindPs] at e
  | cons hn hx _ ih =>
    refine PGsw (pgs_cons (hx X F k) ih (by rw [nmT_cons hn]; rfl)) fun vs st H Q q => ?_
    obtain ⟨io, env, ds, env', sl, r, e, kk⟩ := q
    cases ds with
    | nil => simp [bindPs] at e
    | cons d ds =>
      cases r with
      | cons r rr =>
        simp only [bindPs] at e
        split at e
        · rename_i env1 q1
          exact ⟨_, _, rfl, io, env, d, env1, sl, r, q1, fun st1 sl1 => ⟨io, env1, ds, env', sl1, rr, e, kk⟩⟩
        · cases e
theorem sPn {x : Str} {p : Pos} {i : Nat} (h : TgOK c x i) : STn G c (.Name x p) (.nm i) := by
  intro X F k
  refine PGw (pg_nm k h) fun v st H Q q => ?_
  obtain ⟨io, env, d, env', sl, r, e, kk⟩ := q
  simp only [bindP, Option.some.injEq] at e
  subst e
  exact kk _ (sl.set r i)
theorem sPt {es : List Expr} {ps : List Pt} {j : Nat} {p : Pos} (h : SGn G c es ps) : STn G c (.Tuple es j p) (.tp ps) := by
  intro X F k
  refine PGw (pg_tup k.calm (h.pgs k) (h.ns X.env).1 (h.ns X.env).2) fun v st H Q q => ?_
  obtain ⟨io, env, d, env', sl, r, e, kk⟩ := q
  cases d <;> simp only [bindP] at e <;> try (cases e; done)
  cases r with
  | tup hs rs => exact ⟨_, _, rfl, by rw [k.hK]; exact hs, by rw [← rs.len, ← bindPs_len e, h.ln], io, env, _, env', sl, rs, e, kk⟩
theorem sForN {tg iter : Expr} {a : List Stmt} {ps : Pt} {n : Nat} {its : List E} {ta : List T} {pos : Pos} (hi : SI G c tg iter n its) (hg : STn G c tg ps) (ha : SSs G c w a ta)
    (hs : ∀ env x, foldedSetIterable iter env x = pure x := by intro _ _; rfl) : SS G c w (.For tg iter a [] pos) (.forN ps n its ta) := by
  intro X F k hp
  refine PSw (ps_for hp k.calm (hi X F k) (hg X F k) (ha X F k hp) (hs X.env)) fun D st H q => ?_
  obtain ⟨io, env, S, r, env', S', sl, so, e, kk⟩ := q
  simp only [ex] at e
  split at e
  · cases e
  · rename_i as S1 q1
    split at e
    · cases e
    · rename_i ds gd q2
      refine ⟨io, env, S, (ds, gd), S1, sl, so, by simp only [itf, q1, q2], fun io1 H1 J g1 so1 it => ?_⟩
      refine ⟨fun i m st1 H2 => ∃ io2 env2 S2, m = ds.length - i ∧ i ≤ ds.length ∧ Grow F io1 H1 io2 H2 ∧ SlOK F io2 H2 st1 env2 ∧ StOK F io2 H2 S2 ∧ forLoop gd (bindP ps) (exs G w ta) (ds.drop i) env2 S2 = some (r, env', S'), ⟨_, io1, env, S1, rfl, Nat.zero_le _, Grow.refl _ _, sl.up g1, so1, e⟩, ?_⟩
      rintro i m st2 H2 ⟨io2, env2, S2, rfl, hi, g2, sl2, so2, e2⟩
      by_cases hlt : i < ds.length
      · have hdr : ds.drop i = ds[i] :: ds.drop (i + 1) := List.drop_eq_getElem_cons hlt
        rw [hdr] at e2
        simp only [forLoop] at e2
        split at e2
        · rename_i hgd
          refine .inr ⟨it.go _ io2 H2 S2 i g2.kp so2 hgd hlt, fun st3 H3 => ∃ io3 env3 S3, Grow F io1 H1 io3 H3 ∧ SlOK F io3 H3 st3 env3 ∧ StOK F io3 H3 S3 ∧ forLoop gd (bindP ps) (exs G w ta) (ds.drop (i + 1)) env3 S3 = some (r, env', S'), ?_, fun x H3 hy => ?_⟩
          · rintro st3 H3 ⟨io3, env3, S3, g3, sl3, so3, e3⟩
            exact ⟨ds.length - (i + 1), by omega, io3, env3, S3, rfl, hlt, g3, sl3, so3, e3⟩
          · obtain ⟨dx, ed, g3, so3, r3⟩ := it.yld _ io2 H2 S2 i x H3 g2.kp so2 hgd hlt hy
            rw [List.getElem?_eq_getElem hlt] at ed
            cases ed
            split at e2
            · cases e2
            · rename_i env1 q4
              refine ⟨io2, env2, _, env1, sl2.up g3, r3, q4, fun st4 sl4 => ?_⟩
              split at e2
              · cases e2
              · rename_i env3 S3 q3
                exact ⟨io2, env1, S2, .nx, env3, S3, sl4, so3, q3, fun io4 H4 st4 g4 so4 sl4 => ⟨io4, env3, S3, (g2.trans g3).trans g4, sl4, so4, e2⟩⟩
              · rename_i env3 S3 q3
                exact ⟨io2, env1, S2, .ct, env3, S3, sl4, so3, q3, fun io4 H4 st4 g4 so4 sl4 => ⟨io4, env3, S3, (g2.trans g3).trans g4, sl4, so4, e2⟩⟩
              · rename_i env3 S3 q3
                cases e2
                exact ⟨io2, env1, S2, .bk, _, _, sl4, so3, q3, fun io4 H4 st4 g4 so4 sl4 => kk io4 H4 st4 (g1.trans ((g2.trans g3).trans g4)) so4 sl4⟩
              · rename_i d env3 S3 q3
                cases e2
                exact ⟨io2, env1, S2, .rt d, _, _, sl4, so3, q3, fun io4 H4 st4 g4 so4 sl4 => kk io4 H4 st4 (g1.trans ((g2.trans g3).trans g4)) so4 sl4⟩
        · cases e2
      · have ei : i = ds.length := by omega
        rw [ei, List.drop_length] at e2
        simp only [forLoop] at e2
        split at e2
        · rename_i hgd
          cases e2
          exact .inl ⟨it.stop _ io2 H2 _ i g2.kp so2 hgd (show ds.length ≤ i by omega), kk io2 H2 st2 (g1.trans g2) so2 sl2⟩
        · cases e2
/-- o.append(e) -/
theorem nodup_inj : ∀ {l : List Addr}, l.Nodup → ∀ {i j : Nat} (hi : i < l.length) (hj : j < l.length), l[i] = l[j] → i = j
  | [], _, i, _, hi, _, _ => absurd hi (by simp)
  | a :: l, nd, 0, 0, _, _, _ => rfl
  | a :: l, nd, 0, j + 1, _, hj, e => by
    have h1 := (List.nodup_cons.mp nd).1
    have h2 : a = l[j]'(by simpa using hj) := e
    exact absurd (by rw [h2]; exact List.getElem_mem _) h1
  | a :: l, nd, i + 1, 0, hi, _, e => by
    have h1 := (List.nodup_cons.mp nd).1
    have h2 : l[i]'(by simpa using hi) = a := e
    exact absurd (by rw [← h2]; exact List.getElem_mem _) h1
  | a :: l, nd, i + 1, j + 1, hi, hj, e => by
    have h2 : l[i]'(by simpa using hi) = l[j]'(by simpa using hj) := e
    exact congrArg Nat.succ (nodup_inj (List.nodup_cons.mp nd).2 _ _ h2)
/-! d.update(e): both dicts with keys ints and texts -/
theorem d_update {pins : List (Addr × Obj)} {st : L2.St} {H : Hp} {s : Shared} {a b : Addr} {kvs more : List (Key × V)} {A : Around} {E : Value → Shared → Prop} {Q : Value → Shared → Prop} (I : Inv X pins st H s) (e : H a = some (.dK kvs)) (e2 : H b = some (.dK more)) (hne : a ≠ b) (hz : kvs.length + more.length ≤ sizeLine)
    (h : ∀ s', Inv X pins st (upd H a (.dK (mergeK kvs more))) s' → Q .none s') : wpAny (model X.prog X.w) A (call (.builtin "dict.update") [.ref a, .ref b]) Q E s := by
  obtain ⟨z, hd, vs, rel, dd⟩ := dk_of I.hok e
  obtain ⟨z2, hd2, ws, rel2, dd2⟩ := dk_of I.hok e2
  refine call_meetsIn PySem.F.slot_dict_update dd.typeIs PySem.F.entry_dict_update (PySem.F.args_dict_update_2 _ _) (meets_dict_update (mixKind X.prog X.w) a b hne hd2)
    ⟨vs, ws, dd, dd2, by rw [← rel.length, ← rel2.length]; exact hz, fun h' dd' _ hs => h _ ?_⟩
  have he : ∃ q, h'.get? a = some q := let ⟨q, _, _, hq, _⟩ := dd'; ⟨q, hq⟩
  exact d_write I (by rw [e]; exact True.intro) hs he (dk_new (Nat.le_trans (length_mergeK _ _) hz) hd (rel2.merge rel) dd')
def rUpdate : V → List V → Hp → VK → Prop := fun x vs H Q => ∃ a b kvs more, x = .ref a ∧ vs = [.ref b] ∧ H a = some (.dK kvs) ∧ H b = some (.dK more) ∧ a ≠ b ∧ kvs.length + more.length ≤ sizeLine ∧ Q .non (upd H a (.dK (mergeK kvs more)))
theorem mt_update : MtR X "dict.update" rUpdate := by
  intro pins s st H x vs v us Q I rx rv h
  obtain ⟨a, b, kvs, more, rfl, rfl, e, e2, hne, hz, q⟩ := h
  cases rx
  obtain ⟨u, rfl, ru⟩ := rv.one
  cases ru
  exact d_update I e e2 hne hz fun s' I' => ⟨.non, _, I', rfl, q⟩
theorem drel_merge {io : List Addr} {H : Hp} : ∀ {more kvs : List (Key × D)} {ys zs : List (Key × V)}, DRel F io H more zs → DRel F io H kvs ys → DRel F io H (putAll kvs more) (mergeK ys zs)
  | [], kvs, ys, zs, h, h2 => by
    have : zs = [] := by have := h.1; cases zs with
      | nil => rfl
      | cons _ _ => simp at this
    subst this
    exact h2
  | (k, d) :: more, kvs, ys, zs, h, h2 => by
    obtain ⟨h1, h3⟩ := h
    cases zs with
    | nil => simp at h1
    | cons z zs =>
      simp only [List.map_cons, List.cons.injEq] at h1
      simp only [List.map_cons] at h3
      obtain ⟨zk, zv⟩ := z
      obtain ⟨e1, e2⟩ := h1
      simp only at e1
      subst e1
      cases h3 with
      | cons r t =>
        have h5 : DRel F io H more zs := ⟨e2, t⟩
        have h6 := drel_merge h5 (drel_put (x := zk) r h2)
        exact h6
theorem drel_len {io : List Addr} {H : Hp} {kvs : List (Key × D)} {ys : List (Key × V)} (h : DRel F io H kvs ys) : ys.length = kvs.length := by
  have := congrArg List.length h.1
  simpa using this
theorem sUpdate {o e : Expr} {x y : E} {apos cpos pos : Pos} (ho : SE G c o x) (he : SE G c e y) (hn : notStar e = true) (hb : ∀ env, attributeBase o ("update" : Str) env (eval o env) = eval o env) (hl : (apos.endLine == cpos.line) = true) :
    SS G c w (.Expr (.Call (.Attribute o ("update" : Str) apos) [e] [] cpos) pos) (.update x y) := by
  intro X F k hp
  have hst : starEach [e] X.env = (false, eval e X.env) :: starEach [] X.env := star_cons hn
  refine PSw (ps_expr (pe_bm PySem.F.plainAttrs_dict PySem.F.slot_dict_update PySem.F.type_dict_update mt_update (ho X F k).1 (SA.pa k (.cons hn he .nil)) (hb X.env) (by rw [hst]; rfl) hl hst rfl) (sw_plain rfl _ _ _)) fun D st H q => ?_
  obtain ⟨io, env, S, r, env', S', sl, so, e, kk⟩ := q
  simp only [ex] at e
  split at e
  · rename_i n S1 q1
    split at e
    case' isFalse => cases e
    rename_i hL
    split at e
    · rename_i m S2 q2
      split at e
      · rename_i kvs more q3 q4
        split at e
        · rename_i hz
          cases e
          refine ⟨io, env, S, _, _, sl, so, q1, fun io1 H1 v g1 so1 r1 => ?_⟩
          cases r1 with
          | ref hn =>
            rename_i p
            have hp1 : ∃ ys, H1 p = some (.dK ys) := by
              simp only [isDc] at hL
              split at hL
              · rename_i l0 q0
                obtain ⟨ys, h0, _⟩ := so1.dct_at hn q0
                exact ⟨ys, h0⟩
              · cases hL
            refine ⟨.inr (.inr (.inl ⟨rfl, .inl hp1⟩)), io1, env, S1, [.ref m], S2, sl.up g1, so1, by simp only [evs, q2], fun io2 H2 vs g2 so2 r2 => ?_⟩
            obtain ⟨v2, rfl, rv⟩ := r2.one
            cases rv with
            | ref hm =>
              rename_i b
              have hn2 := g2.io_get hn
              obtain ⟨ys, h0, h1⟩ := so2.dct_at hn2 q3
              obtain ⟨zs, h3, h4⟩ := so2.dct_at hm q4
              have hlt : n < S2.length := (List.getElem?_eq_some_iff.mp q3).1
              have hne : p ≠ b := fun z => hz.1 (by
                subst z
                have l1 := (List.getElem?_eq_some_iff.mp hn2)
                have l2 := (List.getElem?_eq_some_iff.mp hm)
                obtain ⟨a1, a2⟩ := l1
                obtain ⟨b1, b2⟩ := l2
                exact nodup_inj so2.nd a1 b1 (a2.trans b2.symm))
              have g3 := grow_set so2 hn2 hlt (.dK (mergeK ys zs))
              refine ⟨p, b, ys, zs, rfl, rfl, h0, h3, hne, by rw [drel_len h1, drel_len h4]; exact hz.2, kk io2 _ st ((g1.trans g2).trans g3) ?_ (((sl.up g1).up g2).up g3)⟩
              obtain ⟨d1, d2⟩ := drel_merge h4 h1
              exact so2.set hn2 hlt ⟨_, upd_same, d1, d2.up g3⟩
        · cases e
      · cases e
    · cases e
  · cases e
theorem sAppend {o e : Expr} {x y : E} {apos cpos pos : Pos} (ho : SE G c o x) (he : SE G c e y) (hn : notStar e = true) (hb : ∀ env, attributeBase o ("append" : Str) env (eval o env) = eval o env) (hl : (apos.endLine == cpos.line) = true) :
    SS G c w (.Expr (.Call (.Attribute o ("append" : Str) apos) [e] [] cpos) pos) (.append x y) := by
  intro X F k hp
  have hst : starEach [e] X.env = (false, eval e X.env) :: starEach [] X.env := star_cons hn
  refine PSw (ps_expr (pe_bm PySem.F.plainAttrs_list PySem.F.slot_list_append PySem.F.type_list_append mt_append (ho X F k).1 (SA.pa k (.cons hn he .nil)) (hb X.env) (by rw [hst]; rfl) hl hst rfl) (sw_plain rfl _ _ _)) fun D st H q => ?_
  obtain ⟨io, env, S, r, env', S', sl, so, e, kk⟩ := q
  simp only [ex] at e
  split at e
  · rename_i n S1 q1
    split at e
    case' isFalse => cases e
    rename_i hL
    split at e
    · rename_i d S2 q2
      split at e
      · rename_i l q3
        split at e
        · rename_i hz
          cases e
          refine ⟨io, env, S, _, _, sl, so, q1, fun io1 H1 v g1 so1 r1 => ?_⟩
          cases r1 with
          | ref hn =>
            rename_i p
            have hp1 : ∃ xs, H1 p = some (.lst xs) := by
              simp only [isL] at hL
              split at hL
              · rename_i l0 q0
                obtain ⟨xs, h0, _⟩ := so1.lst_at hn q0
                exact ⟨xs, h0⟩
              · cases hL
            refine ⟨.inl ⟨rfl, ?_⟩, io1, env, S1, [d], S2, sl.up g1, so1, by simp only [evs, q2], fun io2 H2 vs g2 so2 r2 => ?_⟩
            · obtain ⟨xs, h⟩ := hp1
              exact ⟨xs, .inl (.inl h)⟩
            · obtain ⟨v2, rfl, rv⟩ := r2.one
              have hn2 := g2.io_get hn
              obtain ⟨xs, h0, h1⟩ := so2.lst_at hn2 q3
              have hlt : n < S2.length := (List.getElem?_eq_some_iff.mp q3).1
              have g3 := grow_set so2 hn2 hlt (.lst (xs ++ [v2]))
              refine ⟨p, xs, v2, rfl, rfl, h0, by rw [← h1.len]; exact hz, kk io2 _ st ((g1.trans g2).trans g3) ?_ (((sl.up g1).up g2).up g3)⟩
              exact so2.set hn2 hlt ⟨_, upd_same, (h1.app (.cons rv .nil)).up g3⟩
        · cases e
      · cases e
    · cases e
  · cases e
end
end Ev

namespace Ev
open PySem PySem.Spec PyProof.Rows L2
/-! ### from the text to the evaluator's form, with its proof -/
section
variable {G : Gb} {c : Cc} {X : Cx} {F : Fx} {w : Nat}
theorem sIfE {a b d : Expr} {x y z : E} {pos : Pos} (ha : SE G c a x) (hb : SE G c b y) (hd : SE G c d z) : SE G c (.IfExp a b d pos) (.ife x y z) := by
  intro X F k
  refine ⟨sIf ha hb hd X F k, ⟨fun pins s st H Q I q => ?_⟩⟩
  obtain ⟨io, env, S, t, S', sl, so, e, kk⟩ := q
  obtain ⟨d0, e1, e2⟩ := of_cond e
  simp only [ev] at e1
  split at e1
  · cases e1
  · rename_i x1 S1 q1
    split at e1
    · cases e1
    · rename_i q2
      refine isTrue_IfExp (thn ((ha X F k).2.run pins s st H (fun b H1 => b = true ∧ RdT F (cond G y) st H1 Q) I ⟨io, env, S, true, S1, sl, so, cond_of q1 q2, fun io1 H1 g1 so1 => ⟨rfl, io1, env, S1, t, S', sl.up g1, so1, cond_of e1 e2, fun io2 H2 g2 so2 => kk io2 H2 (g1.trans g2) so2⟩⟩) fun b s2 h => ?_)
      obtain ⟨H1, I1, hb1, q3⟩ := h
      subst hb1
      exact (hb X F k).2.run pins s2 st H1 Q I1 q3
    · rename_i q2
      refine isTrue_IfExp (thn ((ha X F k).2.run pins s st H (fun b H1 => b = false ∧ RdT F (cond G z) st H1 Q) I ⟨io, env, S, false, S1, sl, so, cond_of q1 q2, fun io1 H1 g1 so1 => ⟨rfl, io1, env, S1, t, S', sl.up g1, so1, cond_of e1 e2, fun io2 H2 g2 so2 => kk io2 H2 (g1.trans g2) so2⟩⟩) fun b s2 h => ?_)
      obtain ⟨H1, I1, hb1, q3⟩ := h
      subst hb1
      exact (hd X F k).2.run pins s2 st H1 Q I1 q3
end
/-- a type's name -/
def tyOf (x : Str) : Option String :=
  if x = ("int" : Str) then some "int" else if x = ("str" : Str) then some "str" else if x = ("tuple" : Str) then some "tuple" else if x = ("list" : Str) then some "list" else if x = ("bool" : Str) then some "bool" else if x = ("dict" : Str) then some "dict" else none
theorem tyOf_ok {x : Str} {n : String} (h : tyOf x = some n) : bootBuiltins x = some (.type n) ∧ (∀ {G c X F}, CxOK G c X F → X.mg x = none) ∧ x ≠ "__name__" ∧ (x == ("__debug__" : Str)) = false := by
  unfold tyOf at h
  split at h
  · rename_i e; cases h; subst e; exact ⟨by decide +kernel, fun k => k.free .int, by decide, by decide⟩
  split at h
  · rename_i e; cases h; subst e; exact ⟨by decide +kernel, fun k => k.free .str, by decide, by decide⟩
  split at h
  · rename_i e; cases h; subst e; exact ⟨by decide +kernel, fun k => k.free .tuple, by decide, by decide⟩
  split at h
  · rename_i e; cases h; subst e; exact ⟨by decide +kernel, fun k => k.free .list, by decide, by decide⟩
  split at h
  · rename_i e; cases h; subst e; exact ⟨by decide +kernel, fun k => k.free2.2.2.2.1, by decide, by decide⟩
  split at h
  · rename_i e; cases h; subst e; exact ⟨by decide +kernel, fun k => k.free2.2.2.2.2, by decide, by decide⟩
  · cases h
def bfOf (x : Str) : Option Bf :=
  [Bf.len, .isinstance, .int, .abs, .max, .min, .repr, .divmod, .all, .tuple, .list, .str, .sorted].find? fun f => decide (f.name = x)
theorem bfOf_ok {x : Str} {f : Bf} (h : bfOf x = some f) : f.name = x := by
  have := List.find?_some h
  simpa using this
def ownOf (N : List Str) : List (Str × NameKind) → List (Str × Nat)
  | [] => []
  | (n, k) :: r => if (k == .local || k == .cell) = true then match posOf n N with
      | some i => (n, i) :: ownOf N r
      | none => ownOf N r
    else ownOf N r
/-- a target of names -/
def cT1 (c : Cc) : Expr → Option Nat
  | .Name x _ => match posOf x c.N with
    | none => none
    | some i => match c.names.lookup x with
      | some .local => some i
      | some .cell => if c.inner = true then none else some i
      | _ => none
  | _ => none
def cTs (c : Cc) : List Expr → Option (List Nat)
  | [] => some []
  | e :: es => match cT1 c e, cTs c es with
    | some i, some is => some (i :: is)
    | _, _ => none
def cT (c : Cc) : Expr → Option (List Nat × Bool)
  | .Tuple es _ _ => (cTs c es).map fun is => (is, false)
  | e => (cT1 c e).map fun i => ([i], true)
theorem cT1_ok {c : Cc} {e : Expr} {i : Nat} (h : cT1 c e = some i) : ∃ x p, e = .Name x p ∧ TgOK c x i := by
  cases e <;> simp only [cT1] at h <;> try (cases h; done)
  rename_i x p
  refine ⟨x, p, rfl, ?_⟩
  split at h
  · cases h
  · rename_i j q
    split at h
    · rename_i q2
      cases h
      exact ⟨posOf_get q, .inl q2⟩
    · rename_i q2
      split at h
      · cases h
      · rename_i q3
        cases h
        exact ⟨posOf_get q, .inr ⟨q2, by simpa using q3⟩⟩
    · cases h
theorem cTs_ok {c : Cc} : ∀ {es : List Expr} {is : List Nat}, cTs c es = some is → NsT c es is
  | [], is, h => by simp only [cTs, Option.some.injEq] at h; subst h; exact .nil
  | e :: es, is, h => by
    simp only [cTs] at h
    split at h
    · rename_i i is' q1 q2
      cases h
      obtain ⟨x, p, rfl, hx⟩ := cT1_ok q1
      exact .cons hx (cTs_ok q2)
    · cases h
theorem cT_ok {G : Gb} {c : Cc} {e : Expr} {r : List Nat × Bool} (h : cT c e = some r) : ST G c e r.1 r.2 := by
  have one : ∀ {e : Expr}, (cT1 c e).map (fun i => ([i], true)) = some r → ST G c e r.1 r.2 := fun {e} h => by
    obtain ⟨i, q, rfl⟩ := Option.map_eq_some_iff.mp h
    obtain ⟨x, p, rfl, hx⟩ := cT1_ok q
    exact sT1 hx
  cases e <;> first
    | exact one h
    | (obtain ⟨is, q, rfl⟩ := Option.map_eq_some_iff.mp (show (cTs c _).map (fun is => (is, false)) = some r from h)
       exact sTn (cTs_ok q))
def keysOf : List (Option Expr) → Option (List Key)
  | [] => some []
  | some (.Constant (.str k) _ _) :: r => (keysOf r).map (.inr k :: ·)
  | some (.Constant (.int k) _ _) :: r => (keysOf r).map (.inl k :: ·)
  | _ :: _ => none
theorem keysOf_ok : ∀ {keys : List (Option Expr)} {ks : List Key}, keysOf keys = some ks → strKeys ks keys ∧ keys.all (·.isSome) = true ∧ ks.length = keys.length
  | [], ks, h => by simp only [keysOf, Option.some.injEq] at h; subst h; exact ⟨trivial, rfl, rfl⟩
  | k :: r, ks, h => by
    unfold keysOf at h
    split at h
    · rename_i e; cases e
    · rename_i k' a b r' e
      cases e
      obtain ⟨ks', q, rfl⟩ := Option.map_eq_some_iff.mp h
      obtain ⟨h1, h2, h3⟩ := keysOf_ok q
      exact ⟨⟨rfl, h1⟩, by simp [h2], by simp [h3]⟩
    · rename_i k' a b r' e
      cases e
      obtain ⟨ks', q, rfl⟩ := Option.map_eq_some_iff.mp h
      obtain ⟨h1, h2, h3⟩ := keysOf_ok q
      exact ⟨⟨rfl, h1⟩, by simp [h2], by simp [h3]⟩
    · cases h
mutual
def cP (c : Cc) : Expr → Option Pt
  | .Name x p => (cT1 c (.Name x p)).map .nm
  | .Tuple es _ _ => (cPs c es).map .tp
  | _ => none
def cPs (c : Cc) : List Expr → Option (List Pt)
  | [] => some []
  | e :: es => match cP c e, cPs c es with
    | some p, some ps => some (p :: ps)
    | _, _ => none
end
mutual
theorem cP_ok {G : Gb} {c : Cc} : ∀ {e : Expr} {p : Pt}, cP c e = some p → nmT e = true ∧ STn G c e p
  | .Name x q, p, h => by
    simp only [cP] at h
    obtain ⟨i, q1, rfl⟩ := Option.map_eq_some_iff.mp h
    obtain ⟨x, p, e, hx⟩ := cT1_ok q1
    cases e
    exact ⟨rfl, sPn hx⟩
  | .Tuple es j q, p, h => by
    simp only [cP] at h
    obtain ⟨ps, q1, rfl⟩ := Option.map_eq_some_iff.mp h
    exact ⟨rfl, sPt (cPs_ok q1)⟩
theorem cPs_ok {G : Gb} {c : Cc} : ∀ {es : List Expr} {ps : List Pt}, cPs c es = some ps → SGn G c es ps
  | [], ps, h => by simp only [cPs, Option.some.injEq] at h; subst h; exact .nil
  | e :: es, ps, h => by
    simp only [cPs] at h
    split at h
    · rename_i p ps' q1 q2
      cases h
      exact .cons (cP_ok (G := G) q1).1 (cP_ok q1).2 (cPs_ok q2)
    · cases h
end
/-- which iterables: the kind and the parts -/
def isTup : Expr → Bool
  | .Tuple .. => true
  | _ => false
def iterOf (c : Cc) (tg : Expr) : Expr → Nat × List Expr
  | .Call (.Name f p) es [] pos => if (decide (f = ("range" : Str)) && decide (c.names.lookup ("range" : Str) = some NameKind.globalImplicit) && (es.length == 1 || es.length == 2)) = true then (1, es) else if (decide (f = ("enumerate" : Str)) && decide (c.names.lookup ("enumerate" : Str) = some NameKind.globalImplicit) && es.length == 1 && isTup tg) = true then (2, es) else if (decide (f = ("zip" : Str)) && decide (c.names.lookup ("zip" : Str) = some NameKind.globalImplicit) && es.length == 2 && isTup tg) = true then (3, es) else (0, [.Call (.Name f p) es [] pos])
  | e => (0, [e])
def notSet : Expr → Bool
  | .Set .. => false
  | _ => true
theorem notSet_ok {e : Expr} (h : notSet e = true) (env : Env) (x : Value) : foldedSetIterable e env x = pure x := by
  cases e <;> first
    | rfl
    | (cases h; done)
def notLst : Expr → Bool
  | .List .. => false
  | _ => true
mutual
def cE : Nat → Cc → Expr → Option E
  | 0, _, _ => none
  | n + 1, c, e => match e with
    | .Name x _ => if (x == ("__debug__" : Str) || x == ("__classdict__" : Str)) = true then none else match c.names.lookup x with
      | some .local => (posOf x c.N).map .var
      | some .cell => (posOf x c.N).map .var
      | some .free => (posOf x c.N).map .var
      | some .globalImplicit => if x ∈ c.glbs then some (.glob x) else if (c.fns.any fun p => decide (p.1 = x)) = true then some (.cst (.fn x)) else (tyOf x).map fun n => .cst (.ty n)
      | _ => none
    | .Constant (.int i) _ _ => some (.cst (.int i))
    | .Constant (.bool b) _ _ => some (.cst (.bl b))
    | .Constant .none _ _ => some (.cst .non)
    | .Constant (.str s) _ _ => some (.cst (.str s))
    | .BinOp a op b _ => match cE n c a, cE n c b with
      | some x, some y => some (.bin op x y)
      | _, _ => none
    | .UnaryOp .USub a _ => (cE n c a).map .neg
    | .UnaryOp .Not a _ => (cE n c a).map .not'
    | .UnaryOp .Invert a _ => (cE n c a).map .inv
    | .Call (.Attribute (.Name x p) a apos) [] [] cpos => if a = ("bit_length" : Str) ∧ (apos.endLine == cpos.line) = true then (cE n c (.Name x p)).map .blen else none
    | .Call (.Attribute (.BinOp l op r p) a apos) [] [] cpos => if a = ("bit_length" : Str) ∧ (apos.endLine == cpos.line) = true then (cE n c (.BinOp l op r p)).map .blen else none
    | .Call (.Attribute (.JoinedStr [.FormattedValue (.Name x p) (-1) (some (.JoinedStr [.Constant (.str sp) _ _] _)) _] _) a apos) [.Constant (.str z) _ _] [] cpos => if a = ("count" : Str) ∧ sp = ("b" : Str) ∧ z = ("1" : Str) ∧ (apos.endLine == cpos.line) = true then (cE n c (.Name x p)).map .ones else none
    | .Compare a [op] [b] _ => if behindInMarks op b = false then match cE n c a, cE n c b with
      | some x, some y => some (.cmp op x y)
      | _, _ => none
      else none
    | .Compare a [op, op'] [b, d] _ => if lastMarks [op, op'] [b, d] = false then match cE n c a, cE n c b, cE n c d with
      | some x, some y, some z => some (.chain op op' x y z)
      | _, _, _ => none
      else none
    | .BoolOp op vs _ => cB n c op vs
    | .IfExp a b d _ => match cE n c a, cE n c b, cE n c d with
      | some x, some y, some z => some (.ife x y z)
      | _, _, _ => none
    | .Call (.Name f _) [.GeneratorExp elt [⟨tg, iter, [], 0⟩] scope _] [] _ => cX n c f elt tg iter scope
    | .Call (.Name f _) es [] _ => if (decide (c.names.lookup f = some .globalImplicit) && !(f == ("__debug__" : Str))) = true then match cEs n c es with
        | none => none
        | some xs => if (c.fns.any fun p => decide (p.1 = f)) = true then some (.call f xs) else match bfOf f, es with
          | some g, _ :: _ => some (.blt g xs)
          | _, _ => none
      else if ((decide (c.names.lookup f = some .local) || decide (c.names.lookup f = some .cell) || decide (c.names.lookup f = some .free)) && !(f == ("__debug__" : Str)) && !(f == ("__classdict__" : Str))) = true then match posOf f c.N, es, cEs n c es with
        | some i, _ :: _, some xs => some (.calll i xs)
        | _, _, _ => none
      else none
    | .Call (.Name f _) [] kws _ => if (decide (c.names.lookup f = some .globalImplicit) && !(f == ("__debug__" : Str))) = true then match cKs n c kws with
        | none => none
        | some (ks, xs) => match c.kws.find? fun p => decide (p.1 = f ∧ p.2.1 = ks) with
          | none => none
          | some p => if (c.fns.any fun p => decide (p.1 = f)) = true ∧ ks.length = xs.length then some (.callk f ks p.2.2 xs) else none
      else none
    | .Tuple es _ _ => (cEs n c es).map .tup
    | .List es _ => (cEs n c es).map .lst
    | .Dict [] [] _ => some (.newd [] [])
    | .Dict keys es _ => match keysOf keys, cEs n c es with
      | some ks, some xs => if keys.length = es.length ∧ keys ≠ [] ∧ keys.length ≤ 15 then some (.newd ks xs) else none
      | _, _ => none
    | .Subscript a (.Slice lo hi none _) _ => match cE n c a, cO n c lo, cO n c hi with
      | some x, some (fl, y), some (fh, z) => some (.sl x fl fh y z)
      | _, _, _ => none
    | .Subscript a b _ => if plainIx b = true then match cE n c a, cE n c b with
      | some x, some y => some (.idx x y)
      | _, _ => none
      else none
    | .ListComp elt [⟨tg, iter, ifs, 0⟩] scope _ => cC n c elt tg iter ifs scope
    | _ => none
def cEs : Nat → Cc → List Expr → Option (List E)
  | 0, _, _ => none
  | _ + 1, _, [] => some []
  | n + 1, c, e :: es => if notStar e = true then match cE n c e, cEs n c es with
    | some x, some xs => some (x :: xs)
    | _, _ => none
    else none
def cB : Nat → Cc → BoolOp → List Expr → Option E
  | 0, _, _, _ => none
  | n + 1, c, op, [a] => cE n c a
  | n + 1, c, op, a :: b :: r => match cE n c a, cB n c op (b :: r) with
    | some x, some y => match op with
      | .And => some (.and' x y)
      | .Or => some (.or' x y)
    | _, _ => none
  | _, _, _, [] => none
def cKs : Nat → Cc → List Keyword → Option (List Str × List E)
  | 0, _, _ => none
  | _ + 1, _, [] => some ([], [])
  | n + 1, c, ⟨some k, e, _⟩ :: r => match cE n c e, cKs n c r with
    | some x, some (ks, xs) => some (k :: ks, x :: xs)
    | _, _ => none
  | _, _, _ :: _ => none
def cO : Nat → Cc → Option Expr → Option (Bool × E)
  | 0, _, _ => none
  | _ + 1, _, none => some (false, .cst .non)
  | n + 1, c, some e => (cE n c e).map fun x => (true, x)
/-- a comprehension -/
def cC : Nat → Cc → Expr → Expr → Expr → List Expr → Scope → Option E
  | 0, _, _, _, _, _, _ => none
  | n + 1, c, elt, tg, iter, ifs, scope => if notSet iter = true ∧ blkC c.N { scope with names := c.names } scope (ownOf c.N scope.names) = true then
      match cT (c.blk scope) tg, cEs n c (iterOf c tg iter).2, cE n (c.blk scope) elt with
      | some (is, one), some its, some y => if (is.all fun i => (ownOf c.N scope.names).any fun p => p.2 == i) = true then match ifs with
        | [] => some (.comp ((ownOf c.N scope.names).map (·.2)) is one (iterOf c tg iter).1 its false (.cst .non) y)
        | [e] => (cE n (c.blk scope) e).map fun x => .comp ((ownOf c.N scope.names).map (·.2)) is one (iterOf c tg iter).1 its true x y
        | _ => none
        else none
      | _, _, _ => none
    else none
/-- all, any of a generator expression -/
def cX : Nat → Cc → Str → Expr → Expr → Expr → Scope → Option E
  | 0, _, _, _, _, _, _ => none
  | n + 1, c, f, elt, tg, iter, scope => if (f = ("all" : Str) ∨ f = ("any" : Str)) ∧ c.names.lookup f = some .globalImplicit ∧ c.tab = true ∧ notSet iter = true ∧ notLst iter = true ∧ genC c scope = true then
      match cT (c.gen scope) tg, cEs n c (iterOf c tg iter).2, cE n (c.gen scope) elt with
      | some (is, one), some its, some y => if (is.all fun i => (gCap c scope)[i]? == some none) = true then some (.gen (decide (f = ("any" : Str))) (gCap c scope) is one (iterOf c tg iter).1 its y) else none
      | _, _, _ => none
    else none
end
section
variable {G : Gb} {c : Cc}
theorem isTup_ok {e : Expr} (h : isTup e = true) : ∃ a b p, e = .Tuple a b p := by
  cases e <;> first
    | exact ⟨_, _, _, rfl⟩
    | (cases h; done)
theorem iterOf_ok {tg iter : Expr} {its : List E} (h : SA G c (iterOf c tg iter).2 its) : SI G c tg iter (iterOf c tg iter).1 its := by
  have base : ∀ {e : Expr}, SA G c [e] its → SI G c tg e 0 its := fun {e} h => by
    cases h with
    | cons _ ha hs =>
      cases hs
      exact sIt0 ha
  generalize hq : iterOf c tg iter = r at h ⊢
  unfold iterOf at hq
  split at hq
  · split at hq
    · rename_i hc
      subst hq
      simp only [Bool.and_eq_true, decide_eq_true_eq, Bool.or_eq_true, beq_iff_eq] at hc
      obtain ⟨⟨rfl, hk⟩, hl⟩ := hc
      exact sIt1 h hl hk
    · split at hq
      · rename_i hc
        subst hq
        simp only [Bool.and_eq_true, decide_eq_true_eq, beq_iff_eq] at hc
        obtain ⟨⟨⟨rfl, hk⟩, hl⟩, ht⟩ := hc
        obtain ⟨a, b, p0, rfl⟩ := isTup_ok ht
        obtain ⟨e, rfl⟩ := len_one hl
        simp only at h ⊢
        cases h with
        | cons h1 h2 h3 =>
          cases h3
          exact sIt2 (.cons h1 h2 .nil) hk
      · split at hq
        · rename_i hc
          subst hq
          simp only [Bool.and_eq_true, decide_eq_true_eq, beq_iff_eq] at hc
          obtain ⟨⟨⟨rfl, hk⟩, hl⟩, ht⟩ := hc
          obtain ⟨a, b, p0, rfl⟩ := isTup_ok ht
          obtain ⟨e, e', rfl⟩ := len_two hl
          simp only at h ⊢
          exact sIt3 h hk
        · subst hq
          exact base h
  · subst hq
    exact base h
theorem fns_of {f : Str} (h : (c.fns.any fun p => decide (p.1 = f)) = true) : ∃ ps, (f, ps) ∈ c.fns := by
  obtain ⟨p, hp, e⟩ := List.any_eq_true.mp h
  simp only [decide_eq_true_eq] at e
  subst e
  exact ⟨p.2, hp⟩
structure COK (G : Gb) (n : Nat) : Prop where
  e : ∀ c e x, cE n c e = some x → SE G c e x
  es : ∀ c e x, cEs n c e = some x → SA G c e x
  b : ∀ c op vs x, cB n c op vs = some x → ∀ pos, SW G c (.BoolOp op vs pos) x
  k : ∀ c kws ks xs, cKs n c kws = some (ks, xs) → SK G c kws ks xs
  o : ∀ c e fl x, cO n c e = some (fl, x) → SO G c e fl x
  cc : ∀ c elt tg iter ifs scope x, cC n c elt tg iter ifs scope = some x → ∃ (own : List (Str × Nat)) (is : List Nat) (one : Bool) (m : Nat) (its : List E) (fi : Bool) (cd y : E), x = .comp (own.map (·.2)) is one m its fi cd y ∧
    SI G c tg iter m its ∧ blkC c.N { scope with names := c.names } scope own = true ∧ ST G (c.blk scope) tg is one ∧ (is.all fun i => own.any fun p => p.2 == i) = true ∧ SIf G (c.blk scope) ifs fi cd ∧ SE G (c.blk scope) elt y ∧ notSet iter = true
  x : ∀ c f elt tg iter scope y, cX n c f elt tg iter scope = some y → ∀ p pos gpos, SE G c (.Call (.Name f p) [.GeneratorExp elt [⟨tg, iter, [], 0⟩] scope gpos] [] pos) y
theorem notLst_ok {e : Expr} (h : notLst e = true) (a b) : e ≠ .List a b := fun z => by subst z; cases h
theorem cok (G : Gb) : ∀ n, COK G n
  | 0 => ⟨fun c e x h => by simp [cE] at h, fun c e x h => by simp [cEs] at h, fun c op vs x h => by simp [cB] at h, fun c kws ks xs h => by simp [cKs] at h, fun c e fl x h => by simp [cO] at h, fun c elt tg iter ifs scope x h => by simp [cC] at h, fun c f elt tg iter scope y h => by simp [cX] at h⟩
  | n + 1 => by
    have ih := cok G n
    have ih1 := cok (G1 G) n
    refine ⟨fun c e x h => ?_, fun c es xs h => ?_, fun c op vs x h pos => ?_, fun c kws ks xs h => ?_, fun c e fl x h => ?_, fun c elt tg iter ifs scope x h => ?_, fun c f elt tg iter scope y h p pos gpos => ?_⟩
    · have two : ∀ {a b : Expr} {f : E → E → E}, (match cE n c a, cE n c b with
          | some x, some y => some (f x y)
          | _, _ => none) = some x → ∃ y z, SE G c a y ∧ SE G c b z ∧ x = f y z := fun {a b f} h => by
        split at h
        · rename_i x1 y1 q1 q2
          cases h
          exact ⟨x1, y1, ih.e _ _ _ q1, ih.e _ _ _ q2, rfl⟩
        · cases h
      have three : ∀ {a b d : Expr} {f : E → E → E → E}, (match cE n c a, cE n c b, cE n c d with
          | some x, some y, some z => some (f x y z)
          | _, _, _ => none) = some x → ∃ y z u, SE G c a y ∧ SE G c b z ∧ SE G c d u ∧ x = f y z u := fun {a b d f} h => by
        split at h
        · rename_i x1 y1 z1 q1 q2 q3
          cases h
          exact ⟨x1, y1, z1, ih.e _ _ _ q1, ih.e _ _ _ q2, ih.e _ _ _ q3, rfl⟩
        · cases h
      simp only [cE] at h
      split at h
      · -- a name
        rename_i x0 p
        split at h
        · cases h
        · rename_i hd
          simp only [Bool.or_eq_true, not_or, Bool.not_eq_true] at hd
          split at h
          · rename_i q1
            obtain ⟨i, q, rfl⟩ := Option.map_eq_some_iff.mp h
            exact sVar (posOf_get q) (.inl q1) hd.1 hd.2
          · rename_i q1
            obtain ⟨i, q, rfl⟩ := Option.map_eq_some_iff.mp h
            exact sVar (posOf_get q) (.inr (.inl q1)) hd.1 hd.2
          · rename_i q1
            obtain ⟨i, q, rfl⟩ := Option.map_eq_some_iff.mp h
            exact sVar (posOf_get q) (.inr (.inr q1)) hd.1 hd.2
          · rename_i q1
            split at h
            · rename_i hg
              cases h
              exact sGlb q1 hg hd.1
            · split at h
              · rename_i hf
                cases h
                obtain ⟨ps, hp⟩ := fns_of hf
                exact sFn q1 hp hd.1
              obtain ⟨i, q, rfl⟩ := Option.map_eq_some_iff.mp h
              obtain ⟨h1, h2, h3, h4⟩ := tyOf_ok q
              exact sTy q1 h1 (fun X F k => h2 k) h3 h4
          · cases h
      · cases h; exact sInt
      · cases h; exact sBl
      · cases h; exact sNon
      · cases h; exact sStr
      · obtain ⟨y, z, h1, h2, rfl⟩ := two h
        exact sBin h1 h2
      · obtain ⟨y, q, rfl⟩ := Option.map_eq_some_iff.mp h
        exact sNeg (ih.e _ _ _ q)
      · obtain ⟨y, q, rfl⟩ := Option.map_eq_some_iff.mp h
        exact sNot (ih.e _ _ _ q)
      · obtain ⟨y, q, rfl⟩ := Option.map_eq_some_iff.mp h
        exact sInv (ih.e _ _ _ q)
      · split at h
        · rename_i hb
          obtain ⟨rfl, h2⟩ := hb
          obtain ⟨y, q, rfl⟩ := Option.map_eq_some_iff.mp h
          exact sBlen (ih.e _ _ _ q) (fun _ => rfl) h2
        · cases h
      · split at h
        · rename_i hb
          obtain ⟨rfl, h2⟩ := hb
          obtain ⟨y, q, rfl⟩ := Option.map_eq_some_iff.mp h
          exact sBlen (ih.e _ _ _ q) (fun _ => rfl) h2
        · cases h
      · split at h
        · rename_i hb
          obtain ⟨rfl, h2, h3, h4⟩ := hb
          obtain ⟨y, q, rfl⟩ := Option.map_eq_some_iff.mp h
          exact sOnes h2 h3 (ih.e _ _ _ q) h4
        · cases h
      · split at h
        · rename_i hm
          obtain ⟨y, z, h1, h2, rfl⟩ := two h
          exact sCmp h1 h2 hm
        · cases h
      · split at h
        · rename_i hm
          obtain ⟨y, z, u, h1, h2, h3, rfl⟩ := three h
          exact sChain h1 h2 h3 hm
        · cases h
      · exact (ih.b _ _ _ _ h _).se
      · obtain ⟨y, z, u, h1, h2, h3, rfl⟩ := three h
        exact sIfE h1 h2 h3
      · exact ih.x _ _ _ _ _ _ _ h _ _ _
      · -- a call by place
        split at h
        · rename_i hk
          simp only [Bool.and_eq_true, decide_eq_true_eq, Bool.not_eq_true'] at hk
          split at h
          · cases h
          · rename_i xs q
            split at h
            · rename_i hf
              cases h
              obtain ⟨ps, hp⟩ := fns_of hf
              exact sCall (ih.es _ _ _ q) hk.1 hp hk.2
            · split at h
              · rename_i q2 hne
                cases h
                have e := bfOf_ok q2
                subst e
                exact sBlt (ih.es _ _ _ q) hk.1
              · cases h
        · split at h
          · rename_i hk
            simp only [Bool.and_eq_true, decide_eq_true_eq, Bool.not_eq_true', Bool.or_eq_true] at hk
            split at h
            · rename_i i e0 es0 xs q1 hne q2
              cases h
              exact sCallL (ih.es _ _ _ q2) (posOf_get q1) (by rcases hk.1.1 with (z | z) | z; exact .inl z; exact .inr (.inl z); exact .inr (.inr z)) hk.1.2 hk.2
            · cases h
          · cases h
      · -- by keywords
        split at h
        · rename_i hk
          simp only [Bool.and_eq_true, decide_eq_true_eq, Bool.not_eq_true'] at hk
          split at h
          · cases h
          · rename_i ks xs q
            split at h
            · cases h
            · rename_i p q2
              split at h
              · rename_i hf
                cases h
                obtain ⟨ps, hp⟩ := fns_of hf.1
                have e1 := List.mem_of_find?_eq_some q2
                have e2 := List.find?_some q2
                simp only [decide_eq_true_eq] at e2
                obtain ⟨f1, ks1, ix1⟩ := p
                obtain ⟨rfl, rfl⟩ := e2
                exact sCallK (ih.k _ _ _ _ q) hf.2 hk.1 hp e1 hk.2
              · cases h
        · cases h
      · obtain ⟨y, q, rfl⟩ := Option.map_eq_some_iff.mp h
        exact sTup (ih.es _ _ _ q)
      · obtain ⟨y, q, rfl⟩ := Option.map_eq_some_iff.mp h
        exact sLst (ih.es _ _ _ q)
      · cases h
        exact sNewd0
      · split at h
        · rename_i ks xs q1 q2
          split at h
          · rename_i hl
            cases h
            obtain ⟨h1, h2, h3⟩ := keysOf_ok q1
            exact sNewd h1 (ih.es _ _ _ q2) hl.1 hl.2.1 hl.2.2 h2 h3
          · cases h
        · cases h
      · split at h
        · rename_i x1 fl y fh z q1 q2 q3
          cases h
          exact sSl (ih.e _ _ _ q1) (ih.o _ _ _ _ q2) (ih.o _ _ _ _ q3)
        · cases h
      · split at h
        · rename_i hp
          obtain ⟨y, z, h1, h2, rfl⟩ := two h
          exact sIdx h1 h2 hp
        · cases h
      · obtain ⟨own, is, one, m, its, fi, cd, y, rfl, h1, h2, h3, h4, h5, h6, h7⟩ := ih.cc _ _ _ _ _ _ _ h
        exact sComp h1 h2 h3 h4 h5 h6 (notSet_ok h7)
      · cases h
    · cases es with
      | nil => simp only [cEs, Option.some.injEq] at h; subst h; exact .nil
      | cons e es =>
        simp only [cEs] at h
        split at h
        · rename_i hn
          split at h
          · rename_i x xs' q1 q2
            cases h
            exact .cons hn (ih.e _ _ _ q1) (ih.es _ _ _ q2)
          · cases h
        · cases h
    · cases vs with
      | nil => simp [cB] at h
      | cons a r =>
        cases r with
        | nil =>
          simp only [cB] at h
          cases op with
          | And => exact wAnd1 (ih.e _ _ _ h)
          | Or => exact wOr1 (ih.e _ _ _ h)
        | cons b r =>
          simp only [cB] at h
          split at h
          · rename_i x1 y1 q1 q2
            cases op with
            | And => cases h; exact wAnd (ih.e _ _ _ q1) (ih.b _ _ _ _ q2 pos)
            | Or => cases h; exact wOr (ih.e _ _ _ q1) (ih.b _ _ _ _ q2 pos)
          · cases h
    · cases kws with
      | nil => simp only [cKs, Option.some.injEq, Prod.mk.injEq] at h; obtain ⟨rfl, rfl⟩ := h; exact kNil
      | cons kw r =>
        obtain ⟨nm, e, kp⟩ := kw
        cases nm with
        | none => simp [cKs] at h
        | some k =>
          simp only [cKs] at h
          split at h
          · rename_i x1 ks1 xs1 q1 q2
            cases h
            exact kCons (ih.e _ _ _ q1) (ih.k _ _ _ _ q2)
          · cases h
    · cases e with
      | none => simp only [cO, Option.some.injEq, Prod.mk.injEq] at h; exact .inl ⟨rfl, h.1.symm⟩
      | some e =>
        simp only [cO] at h
        obtain ⟨x', q, e2⟩ := Option.map_eq_some_iff.mp h
        cases e2
        exact .inr ⟨e, rfl, rfl, ih.e _ _ _ q⟩
    · simp only [cC] at h
      split at h
      · rename_i hb
        split at h
        · rename_i is one its y q1 q2 q3
          split at h
          · rename_i hin
            split at h
            · cases h
              exact ⟨_, is, one, _, its, false, _, y, rfl, iterOf_ok (ih.es _ _ _ q2), hb.2, cT_ok q1, hin, trivial, ih.e _ _ _ q3, hb.1⟩
            · obtain ⟨x', q, e2⟩ := Option.map_eq_some_iff.mp h
              cases e2
              exact ⟨_, is, one, _, its, true, _, y, rfl, iterOf_ok (ih.es _ _ _ q2), hb.2, cT_ok q1, hin, ih.e _ _ _ q, ih.e _ _ _ q3, hb.1⟩
            · cases h
          · cases h
        · cases h
      · cases h
    · simp only [cX] at h
      split at h
      · rename_i hc
        obtain ⟨h1, h2, h3, h4, h5, h6⟩ := hc
        split at h
        · rename_i is one its y0 q1 q2 q3
          split at h
          · rename_i hcap
            cases h
            refine sGen (G := G) ?_ h2 h3 (iterOf_ok (ih.es _ _ _ q2)) h6 (cT_ok (G := G1 G) q1) (ih1.e _ _ _ q3) (fun i hi => ?_) (notSet_ok h4) (notLst_ok h5)
            · rcases h1 with rfl | rfl <;> rfl
            · simpa using List.all_eq_true.mp hcap i hi
          · cases h
        · cases h
      · cases h
end
end Ev

namespace Ev
open PySem PySem.Spec PyProof.Rows L2
/-- an expression whose list display is to be held and changed -/
def cV (n : Nat) (c : Cc) (e : Expr) : Option E := if c.refs = true then match e with
    | .List es _ => (cEs n c es).map .newl
    | .IfExp a (.List b _) (.List d _) _ => match cE n c a, cEs n c b, cEs n c d with
      | some x, some y, some z => some (.ife x (.newl y) (.newl z))
      | _, _, _ => none
    | .BinOp a .Add (.List es lp) _ => match cE n c a, cEs n c es with
      | some x, some ys => some (.newb x (.lst ys))
      | _, _ => none
    | .Call (.Name f p) [a] [] pos => if f = ("list" : Str) ∧ c.names.lookup ("list" : Str) = some .globalImplicit then (cEs n c [a]).map .newc else cE n c (.Call (.Name f p) [a] [] pos)
    | e => cE n c e
  else cE n c e
def cVs (n : Nat) (c : Cc) : List Expr → Option (List E)
  | [] => some []
  | e :: es => if notStar e = true then match cV n c e, cVs n c es with
    | some x, some xs => some (x :: xs)
    | _, _ => none
    else none
theorem cV_ok {G : Gb} {n : Nat} {c : Cc} {e : Expr} {x : E} (h : cV n c e = some x) : SE G c e x := by
  unfold cV at h
  split at h
  · split at h
    · obtain ⟨y, q, rfl⟩ := Option.map_eq_some_iff.mp h
      exact sNewl ((cok G n).es _ _ _ q)
    · split at h
      · rename_i x1 y1 z1 q1 q2 q3
        cases h
        exact sIfE ((cok G n).e _ _ _ q1) (sNewl ((cok G n).es _ _ _ q2)) (sNewl ((cok G n).es _ _ _ q3))
      · cases h
    · split at h
      · rename_i x1 y1 q1 q2
        cases h
        exact sNewb ((cok G n).e _ _ _ q1) (sLst ((cok G n).es _ _ _ q2))
      · cases h
    · split at h
      · rename_i hf
        obtain ⟨rfl, hk⟩ := hf
        obtain ⟨y, q, rfl⟩ := Option.map_eq_some_iff.mp h
        exact sNewc ((cok G n).es _ _ _ q) hk
      · exact (cok G n).e _ _ _ h
    · exact (cok G n).e _ _ _ h
  · exact (cok G n).e _ _ _ h
theorem cVs_ok {G : Gb} {n : Nat} {c : Cc} : ∀ {es : List Expr} {xs : List E}, cVs n c es = some xs → SA G c es xs
  | [], xs, h => by simp only [cVs, Option.some.injEq] at h; subst h; exact .nil
  | e :: es, xs, h => by
    simp only [cVs] at h
    split at h
    · rename_i hn
      split at h
      · rename_i x xs' q1 q2
        cases h
        exact .cons hn (cV_ok q1) (cVs_ok q2)
      · cases h
    · cases h
def cG (n : Nat) (c : Cc) : Expr → Option Tg
  | .Name x p => (cT1 c (.Name x p)).map .name
  | .Subscript o i _ => if plainIx i = true then match cE n c o, cE n c i with
      | some x, some y => some (.sub x y)
      | _, _ => none
    else none
  | _ => none
def cGs (n : Nat) (c : Cc) : List Expr → Option (List Tg)
  | [] => some []
  | e :: es => match cG n c e, cGs n c es with
    | some x, some xs => some (x :: xs)
    | _, _ => none
def orStop : Option T → T
  | some t => t
  | none => .stop
def cPar (n : Nat) (c : Cc) : List Expr → List Expr → Option T
  | [.Name x px, .Name y py], [a, b] => match posOf x c.N, posOf y c.N, cVs n c [a, b] with
    | some i, some j, some es => if i ≠ j ∧ c.names.lookup x = some .local ∧ c.names.lookup y = some .local ∧ swN c.names [.Name x px, .Name y py] [a, b] = some (some [x, y]) then some (.par [i, j] es) else none
    | _, _, _ => none
  | [.Name x px, .Name y py, .Name z pz], [a, b, d] => match posOf x c.N, posOf y c.N, posOf z c.N, cVs n c [a, b, d] with
    | some i, some j, some l, some es => if i ≠ j ∧ i ≠ l ∧ j ≠ l ∧ c.names.lookup x = some .local ∧ c.names.lookup y = some .local ∧ c.names.lookup z = some .local ∧ swN c.names [.Name x px, .Name y py, .Name z pz] [a, b, d] = some (some [x, y, z]) then some (.par [i, j, l] es) else none
    | _, _, _, _ => none
  | _, _ => none
def isTupE : Expr → Bool
  | .Tuple .. => true
  | _ => false
def isLcE : Expr → Bool
  | .ListComp _ [⟨_, _, _, 0⟩] _ _ => true
  | _ => false
def cAsg (n : Nat) (c : Cc) (tgt e : Expr) : Option T := match tgt with
  | .Name x p => match cT1 c (.Name x p) with
    | none => none
    | some i => match e with
      | .ListComp elt [⟨tg, iter, ifs, 0⟩] scope _ => (cC n c elt tg iter ifs scope).map fun y => .asg (.name i) y
      | e => if noLc e = true then (cV n c e).map fun y => .asg (.name i) y else none
  | .Subscript o i p => if noLc e = true then match cG n c (.Subscript o i p), cE n c e with
      | some t, some y => some (.asg t y)
      | _, _ => none
    else none
  | .Tuple ts _ _ => match e with
    | .Tuple vs _ _ => match swN c.names ts vs with
      | some none => match cGs n c ts, cVs n c vs with
        | some tgs, some ys => some (.tup tgs (.tup ys))
        | _, _ => none
      | some (some _) => cPar n c ts vs
      | none => none
    | e => match cGs n c ts, cE n c e with
      | some tgs, some y => some (.tup tgs y)
      | _, _ => none
  | _ => none
mutual
def cS : Nat → Cc → Stmt → T
  | 0, _, _ => .stop
  | n + 1, c, s => match s with
    | .Expr (.Constant (.str _) _ _) _ => .pass
    | .Expr (.Call (.Attribute (.Name o po) a apos) [e] [] cpos) _ => if a = ("append" : Str) ∧ notStar e = true ∧ (apos.endLine == cpos.line) = true then match cE n c (.Name o po), cE n c e with
        | some x, some y => .append x y
        | _, _ => .stop
      else if a = ("update" : Str) ∧ notStar e = true ∧ (apos.endLine == cpos.line) = true then match cE n c (.Name o po), cE n c e with
        | some x, some y => .update x y
        | _, _ => .stop
      else .stop
    | .Expr e _ => if noLc e = true then match cE n c e with
        | some y => .expr y
        | none => .stop
      else .stop
    | .Assign [tgt] e _ => orStop (cAsg n c tgt e)
    | .AugAssign (.Name x p) op e _ => match cT1 c (.Name x p), cE n c e with
      | some i, some y => if op = .Add ∨ op = .Sub then .aug i op y else .stop
      | _, _ => .stop
    | .Return none _ => .retN
    | .Return (some e) _ => match cV n c e with
      | some y => .ret y
      | none => .stop
    | .Pass _ => .pass
    | .Break _ => .brk
    | .Continue _ => .cont
    | .If e a b _ => match cE n c e with
      | some y => .ife y (cSs n c a) (cSs n c b)
      | none => .stop
    | .While e a [] _ => match cE n c e with
      | some y => .while' y (cSs n c a)
      | none => .stop
    | .For tg iter a [] _ => match cT c tg, cEs n c (iterOf c tg iter).2 with
      | some (is, one), some its => if notSet iter = true then .for' is one (iterOf c tg iter).1 its (cSs n c a) else .stop
      | none, some its => match cP c tg with
        | some ps => if notSet iter = true then .forN ps (iterOf c tg iter).1 its (cSs n c a) else .stop
        | none => .stop
      | _, _ => .stop
    | _ => .stop
def cSs : Nat → Cc → List Stmt → List T
  | 0, _, _ => [.stop]
  | _ + 1, _, [] => []
  | n + 1, c, s :: ss => cS n c s :: cSs n c ss
end
section
variable {G : Gb} {c : Cc} {w : Nat}
theorem ssStop {ss : List Stmt} : SSs G c w ss [.stop] := by
  intro X F k hp
  refine PSsw pss_never fun D st H q => ?_
  obtain ⟨io, env, S, r, env', S', sl, so, e, kk⟩ := q
  simp [exs, ex] at e
theorem cG_ok {n : Nat} {e : Expr} {t : Tg} (h : cG n c e = some t) : SG G c e t := by
  cases e with
  | Subscript o i p =>
    simp only [cG] at h
    split at h
    · rename_i hp
      split at h
      · rename_i x y q1 q2
        cases h
        refine sGs ((cok G n).e _ _ _ q1) ((cok G n).e _ _ _ q2) ?_
        cases i <;> first
          | (intro _ _; rfl)
          | (cases hp; done)
      · cases h
    · cases h
  | Name x p =>
    simp only [cG] at h
    obtain ⟨i, q, rfl⟩ := Option.map_eq_some_iff.mp h
    obtain ⟨x, p, e, hx⟩ := cT1_ok q
    cases e
    exact sGn hx
  | _ => simp [cG] at h
theorem cGs_ok {n : Nat} : ∀ {es : List Expr} {ts : List Tg}, cGs n c es = some ts → SGs G c es ts
  | [], ts, h => by simp only [cGs, Option.some.injEq] at h; subst h; exact .nil
  | e :: es, ts, h => by
    simp only [cGs] at h
    split at h
    · rename_i x xs q1 q2
      cases h
      exact .cons (cG_ok q1) (cGs_ok q2)
    · cases h
theorem sw_none {ts : List Expr} {j : Nat} {p : Pos} {e : Expr} {env : Env} (h : isTupE e = false) : swappedStores [.Tuple ts j p] e env = pure none := by
  cases e <;> first
    | rfl
    | (cases h; done)
theorem cPar_ok {n : Nat} {ts vs : List Expr} {j j2 : Nat} {p p2 pos : Pos} {t : T} (h : cPar n c ts vs = some t) : SS G c w (.Assign [.Tuple ts j p] (.Tuple vs j2 p2) pos) t := by
  unfold cPar at h
  split at h
  · split at h
    · rename_i i j es q1 q2 q3
      split at h
      · rename_i hc
        cases h
        exact sPar2 (posOf_get q1) (posOf_get q2) hc.1 hc.2.1 hc.2.2.1 (cVs_ok q3) hc.2.2.2
      · cases h
    · cases h
  · split at h
    · rename_i i j l es q1 q2 q3 q4
      split at h
      · rename_i hc
        cases h
        exact sPar3 (posOf_get q1) (posOf_get q2) (posOf_get q3) hc.1 hc.2.1 hc.2.2.1 hc.2.2.2.1 hc.2.2.2.2.1 hc.2.2.2.2.2.1 (cVs_ok q4) hc.2.2.2.2.2.2
      · cases h
    · cases h
  · cases h
theorem cAsg_ok {n : Nat} {tgt e : Expr} {pos : Pos} {t : T} (h : cAsg n c tgt e = some t) : SS G c w (.Assign [tgt] e pos) t := by
  unfold cAsg at h
  split at h
  · split at h
    · cases h
    · rename_i i q
      obtain ⟨x, p, e1, hx⟩ := cT1_ok q
      cases e1
      split at h
      · obtain ⟨y, q2, rfl⟩ := Option.map_eq_some_iff.mp h
        obtain ⟨own, is, one, m, its, fi, cd, y, rfl, h1, h2, h3, h4, h5, h6, h7⟩ := (cok G n).cc _ _ _ _ _ _ _ q2
        exact sSetLc hx h1 h2 h3 h4 h5 h6 (notSet_ok h7)
      · split at h
        · rename_i hn
          obtain ⟨y, q2, rfl⟩ := Option.map_eq_some_iff.mp h
          exact sSet hx (cV_ok q2) hn
        · cases h
  · split at h
    · rename_i hn
      split at h
      · rename_i t y q1 q2
        cases h
        have hg := cG_ok (G := G) q1
        simp only [cG] at q1
        split at q1
        · split at q1
          · cases q1
            exact sSub hg ((cok G n).e _ _ _ q2) hn
          · cases q1
        · cases q1
      · cases h
    · cases h
  · split at h
    · split at h
      · rename_i q0
        split at h
        · rename_i tgs ys q1 q2
          cases h
          exact sAsgT (cGs_ok q1) (sTup (cVs_ok q2)) fun X F k => swN_ok k q0
        · cases h
      · exact cPar_ok h
      · cases h
    · rename_i hne
      split at h
      · rename_i tgs y q1 q2
        cases h
        refine sAsgT (cGs_ok q1) ((cok G n).e _ _ _ q2) fun X F k => sw_none ?_
        cases e <;> first
          | rfl
          | exact absurd rfl (hne _ _ _)
      · cases h
  · cases h
structure SOKs (G : Gb) (w n : Nat) : Prop where
  s : ∀ c s, SS G c w s (cS n c s)
  ss : ∀ c s, SSs G c w s (cSs n c s)
theorem sok (G : Gb) (w : Nat) : ∀ n, SOKs G w n
  | 0 => ⟨fun c s => by simp only [cS]; exact sStop, fun c s => by simp only [cSs]; exact ssStop⟩
  | n + 1 => by
    have ih := sok G w n
    refine ⟨fun c s => ?_, fun c s => ?_⟩
    · simp only [cS]
      split
      · exact sDoc
      · split
        · rename_i hc
          obtain ⟨rfl, h2, h3⟩ := hc
          split
          · rename_i x y q1 q2
            exact sAppend ((cok G n).e _ _ _ q1) ((cok G n).e _ _ _ q2) h2 (fun _ => rfl) h3
          · exact sStop
        · split
          · rename_i hc
            obtain ⟨rfl, h2, h3⟩ := hc
            split
            · rename_i x y q1 q2
              exact sUpdate ((cok G n).e _ _ _ q1) ((cok G n).e _ _ _ q2) h2 (fun _ => rfl) h3
            · exact sStop
          · exact sStop
      · split
        · rename_i hn
          split
          · rename_i y q
            exact sExpr ((cok G n).e _ _ _ q) hn
          · exact sStop
        · exact sStop
      · rename_i tgt e pos
        cases q : cAsg n c tgt e with
        | none => exact sStop
        | some t => exact cAsg_ok q
      · split
        · rename_i i y q1 q2
          obtain ⟨x, p, e, hx⟩ := cT1_ok q1
          cases e
          split
          · rename_i ho
            exact sAug hx ho ((cok G n).e _ _ _ q2)
          · exact sStop
        · exact sStop
      · exact sRetN
      · split
        · rename_i y q
          exact sRet (cV_ok q)
        · exact sStop
      · exact sPass
      · exact sBrk
      · exact sCont
      · split
        · rename_i y q
          exact sIfS ((cok G n).e _ _ _ q) (ih.ss _ _) (ih.ss _ _)
        · exact sStop
      · split
        · rename_i y q
          exact sWhile ((cok G n).e _ _ _ q) (ih.ss _ _)
        · exact sStop
      · split
        · rename_i is one its q1 q2
          split
          · rename_i hs
            exact sFor (iterOf_ok ((cok G n).es _ _ _ q2)) (cT_ok q1) (ih.ss _ _) (notSet_ok hs)
          · exact sStop
        · rename_i its q1 q2
          split
          · rename_i ps q3
            split
            · rename_i hs
              exact sForN (iterOf_ok ((cok G n).es _ _ _ q2)) (cP_ok q3).2 (ih.ss _ _) (notSet_ok hs)
            · exact sStop
          · exact sStop
        · exact sStop
      · exact sStop
    · cases s with
      | nil => simp only [cSs]; exact ssNil
      | cons s ss => simp only [cSs]; exact ssCons (ih.s _ _) (ih.ss _ _)
end
end Ev

namespace Ev
open PySem PySem.Spec PyProof.Rows L2
/-! ### a text's defs -/
def Pg.fns (p : Pg) : List (Str × List Str) := p.ds.map fun d => (d.name, d.ps)
def Pg.cc (p : Pg) (d : DI) : Cc := ⟨d.N, d.scope.names, p.fns, p.glbs, p.kws, d.refs, false, d.tab⟩
/-- what the evaluator knows of them -/
structure Ag (p : Pg) (df : Str → Option Df) : Prop where
  dom : ∀ g e, df g = some e → ∃ d ∈ p.ds, d.name = g
  df : ∀ d ∈ p.ds, df d.name = some ⟨d.ps, d.N.length, cSs p.fuel (p.cc d) d.body⟩
/-- what the machine holds of them -/
structure Mc (p : Pg) (K : PySem.W.Frag) (mg : Str → Option Value) (fa : Str → Addr) (glb : Str → Option D) (tb : List Addr) (w : World) (base : Heap) : Prop where
  fn : ∀ d ∈ p.ds, ∃ fd, FunD K d.name d.name d.params d.body d.scope [] [] (fa d.name) fd ∧ mg d.name = some (.ref (fa d.name)) ∧ Binds K fd d.ps [] ∧ ∀ ks ix, (d.name, ks, ix) ∈ p.kws → KwOK K fd d.ps ks ix
  sc : ∀ d ∈ p.ds, FnScope d.N d.ps d.scope
  free : ∀ f : Bf, mg f.name = none
  free3 : mg "any" = none
  free2 : mg "range" = none ∧ mg "enumerate" = none ∧ mg "zip" = none ∧ mg "bool" = none ∧ mg "dict" = none
  glb : ∀ g d, g ∈ p.glbs → glb g = some d → ∃ u v, mg g = some u ∧ RelV v u ∧ ∀ lk io H, Rep ⟨K, fa, lk, tb, w⟩ io H d v
  tab : ∀ d ∈ p.ds, d.tab = true → ∀ fd, FunD K d.name d.name d.params d.body d.scope [] [] (fa d.name) fd → ∃ cc P, fd.code = .ref cc ∧ GxR.TabB base mg cc P ∧ P ∈ tb
section
variable {p : Pg} {df : Str → Option Df} {glb : Str → Option D} {wf : Nat} {P : Program} {w : World} {K : PySem.W.Frag} {mg : Str → Option Value} {base : Heap} {fa : Str → Addr} {tb : List Addr}
theorem callN_len {n : Nat} {f : Str} {d : Df} (h : df f = some d) (as : List D) (S : Sto) (r : D × Sto) (e : callN df glb wf n f as S = some r) : as.length = d.ps.length := by
  cases n with
  | zero => simp [callN] at e
  | succ n =>
    simp only [callN, h] at e
    split at e
    · assumption
    · cases e
theorem start_ok {F : Fx} {io : List Addr} {H : Hp} {N : List Str} {as : List D} {vs : List V} {d : Df} (hn : d.n = N.length) (r : Reps F io H as vs) : SlOK F io H (L2.start N vs) (startD d as) := by
  have hl := r.len
  refine ⟨by simp [startD, L2.start, hn, hl], fun i e he => ?_⟩
  unfold startD at he
  by_cases hi : i < as.length
  · rw [List.getElem?_append_left (by simpa using hi), List.getElem?_map] at he
    cases q : as[i]? with
    | none => rw [q] at he; cases he
    | some a =>
      rw [q] at he
      cases he
      obtain ⟨v, e1, e2⟩ := r.get q
      refine ⟨v, ?_, e2⟩
      unfold L2.start
      rw [List.getElem?_append_left (by simp; omega), List.getElem?_map, e1]
      rfl
  · rw [List.getElem?_append_right (by simpa using hi), List.getElem?_replicate] at he
    split at he <;> cases he
theorem callN_dom (A : Ag p df) {n : Nat} {g : Str} {ds : List D} {S : Sto} {r : D × Sto} (e : callN df glb wf n g ds S = some r) : ∃ ps, (g, ps) ∈ p.ds.map fun d => (d.name, d.ps) := by
  have hd3 : ∃ e2, df g = some e2 := by
    cases n with
    | zero => simp [callN] at e
    | succ n =>
      simp only [callN] at e
      split at e
      · cases e
      · rename_i d0 q0
        exact ⟨d0, q0⟩
  obtain ⟨e2, h2⟩ := hd3
  obtain ⟨d3, hd3, rfl⟩ := A.dom g e2 h2
  exact ⟨d3.ps, List.mem_map_of_mem (f := fun d : DI => (d.name, d.ps)) hd3⟩
def Lv (p : Pg) (df : Str → Option Df) (glb : Str → Option D) (wf : Nat) (P : Program) (w : World) (K : PySem.W.Frag) (mg : Str → Option Value) (base : Heap) (fa : Str → Addr) (tb : List Addr) (k n : Nat) : Prop :=
  ∀ d ∈ p.ds, ∀ fd, FunD K d.name d.name d.params d.body d.scope [] [] (fa d.name) fd → FnG P w K mg base k (fa d.name) fd d.ps (spG K fa tb w d.ps (callN df glb wf n d.name))
theorem lev0 (k : Nat) : Lv p df glb wf P w K mg base fa tb k 0 := by
  intro d hd fd T
  refine ⟨fun vs H Q q => ?_, fun ar outs sh H args us vs Q _ _ _ _ _ q => ?_⟩
  · obtain ⟨lk, io, S, ds, r, S', so, rs, e, _⟩ := q
    simp [callN] at e
  · obtain ⟨lk, io, S, ds, r, S', so, rs, e, _⟩ := q
    simp [callN] at e
theorem lev1 (A : Ag p df) (M : Mc p K mg fa glb tb w base) {n k1 : Nat} (ih : Lv p df glb wf P w K mg base fa tb (n + 1) n) (ih1 : Lv p df glb wf P w K mg base fa tb k1 (n - 1)) (hk : k1 ≤ n) : Lv p df glb wf P w K mg base fa tb (n + 2) (n + 1) := by
  intro d hd fd T
  refine FnG.of T (M.sc d hd) (fun vs H Q q => ?_) fun cdv hcdv ar outs sh H vs Q gd room wish => ?_
  · obtain ⟨lk, io, S, ds, r, S', so, rs, e, hl, _⟩ := q
    exact hl
  obtain ⟨lk, io, S, as, r, S', so, rs, e, hl, kk⟩ := wish
  have hdf := A.df d hd
  simp only [callN, hdf] at e
  split at e
  case' isFalse => cases e
  rename_i hlen
  have ck : CxOK ⟨callN df glb wf n, callN df glb wf (n - 1), glb⟩ (p.cc d) (cxOf CX0 P w K mg base d.N d.name d.scope (fa d.name) cdv ar outs sh H E0) ⟨K, fa, lk, tb, w⟩ := by
    have callk : ∀ {m k j : Nat}, Lv p df glb wf P w K mg base fa tb k m → Room (k + j) (ar.deeper (envOfC d.name d.scope sh.heap.objs.size (fa d.name) cdv)) → ∀ f ps, (f, ps) ∈ (p.cc d).fns →
        CallOK (cxOf CX0 P w K mg base d.N d.name d.scope (fa d.name) cdv ar outs sh H E0) ⟨K, fa, lk, tb, w⟩ (p.cc d).kws (callN df glb wf m) f ps j := by
      intro m k j L hroom f ps hf
      obtain ⟨d2, hd2, e2⟩ := List.mem_map.mp (show (f, ps) ∈ p.ds.map fun d => (d.name, d.ps) from hf)
      cases e2
      obtain ⟨fd2, T2, hm, hb, hk⟩ := M.fn d2 hd2
      exact ⟨⟨fa d2.name, fd2, k, hm, T2.kp, L d2 hd2 fd2 T2, hroom, hb, hk⟩, fun ds S r e => callN_len (A.df d2 hd2) ds S r e, hm⟩
    refine ⟨rfl, rfl, rfl, (M.sc d hd).nd, rfl, (M.sc d hd).kind, rfl, ?_, room.units, fun _ _ => rfl, M.free, M.free3, M.free2, fun g e hg he => ?_, callk ih room, fun g ds S r e => callN_dom A e, fun ht => ⟨room.mono (by omega), ?_, callk ih1 (room.mono (by omega)), fun g ds S r e => callN_dom A e⟩⟩
    · show (ar.deeper _).guards = some []
      exact gd
    · obtain ⟨u, v, h1, h2, h3⟩ := M.glb g e hg he
      exact ⟨u, v, h1, h2, fun lk io H => h3 lk io H⟩
    · obtain ⟨cc, P, h1, h2, h3⟩ := M.tab d hd ht fd T
      exact ⟨cc, P, hcdv.symm.trans h1, h2, h3⟩
  have ps := (sok (⟨callN df glb wf n, callN df glb wf (n - 1), glb⟩ : Gb) wf p.fuel).ss (p.cc d) d.body _ _ ck PassesOwn.leaving
  refine ⟨_, ps, ?_⟩
  have sl : SlOK ⟨K, fa, lk, tb, w⟩ io H (L2.start d.N vs) (startD ⟨d.ps, d.N.length, cSs p.fuel (p.cc d) d.body⟩ as) := start_ok rfl rs
  revert e
  cases q : exs ⟨callN df glb wf n, callN df glb wf (n - 1), glb⟩ wf (cSs p.fuel (p.cc d) d.body) (startD ⟨d.ps, d.N.length, cSs p.fuel (p.cc d) d.body⟩ as) S with
  | none => intro e; cases e
  | some z =>
    obtain ⟨fl, env', S1⟩ := z
    intro e
    refine ⟨io, _, S, fl, env', S1, sl, so, q, fun io' H' st' g so' sl' => ?_⟩
    cases fl with
    | rt x =>
      simp only [Option.some.injEq, Prod.mk.injEq] at e
      obtain ⟨rfl, rfl⟩ := e
      exact fun v rv => kk io' H' v g so' rv
    | nx =>
      simp only [Option.some.injEq, Prod.mk.injEq] at e
      obtain ⟨rfl, rfl⟩ := e
      exact kk io' H' .non g so' .non
    | bk => cases e
    | ct => cases e
theorem lev2 (A : Ag p df) (M : Mc p K mg fa glb tb w base) : ∀ n : Nat, Lv p df glb wf P w K mg base fa tb (n + 1) n ∧ ∃ k1, k1 ≤ n ∧ Lv p df glb wf P w K mg base fa tb k1 (n - 1)
  | 0 => ⟨lev0 1, 0, Nat.le_refl _, lev0 0⟩
  | n + 1 => by
    obtain ⟨h, k1, hk, h1⟩ := lev2 A M n
    exact ⟨lev1 A M h h1 hk, n + 1, Nat.le_refl _, h⟩
theorem lev (A : Ag p df) (M : Mc p K mg fa glb tb w base) (n : Nat) : Lv p df glb wf P w K mg base fa tb (n + 1) n := (lev2 A M n).1
end
end Ev

set_option maxHeartbeats 1000000
namespace Ev
open PySem PySem.Spec PyProof.Rows L2
/-! ### the law's call, by FnG; cs: code objects and their tables -/
abbrev LawEnd (sh sh' : Shared) (r : Result) : Prop := r = .ok (.ret (.bool true)) ∧ OldK sh.heap sh'.heap ∧ sh'.os = sh.os ∧ AllBare sh'.gens
/-- what the law finds tracked: the script, the tables -/
def OnlyT (H : Hp) : Prop := ∀ b, H b = none ∨ (∃ ps, H b = some (.tbl ps)) ∨ ∃ o xs, H b = some (.frz o (.lst xs))
section
variable {P : Program} {w : World} {K : PySem.W.Frag} {mg mb : Str → Option Value} {k : Nat} {fa a : Addr} {cs : List (Addr × Addr)} {fd : FuncData} {x : Str} {sp : SpG} {s₁ : Shared} {vs : List Value} {ns : List Int}
theorem law_core (KX : K.In s₁.heap) (hns : s₁.heap.Ns mainGlobals mg) (hb : s₁.heap.Ns builtinsNs mb) (hbb : ∀ x : Str, x ≠ "__name__" → mb x = bootBuiltins x) (hlim : s₁.heap.NoLimit) (hg : s₁.gens = #[])
    (hT : ∀ p ∈ cs, s₁.heap.get? p.2 = some { cls := .none, data := .fields #[] }) (nT : ∀ p ∈ cs, K.lookup p.2 = none) (C : ∀ p ∈ cs, PySem.W.CodeHd s₁.heap p.1 p.2)
    (hbm : ∃ (bm : Addr) (ob : Obj), mg "__builtins__" = some (.ref bm) ∧ bm ≠ builtinsNs ∧ s₁.heap.get? bm = some ob ∧ ob.cls = .type "module" ∧ ob.dict = some builtinsNs ∧ ob.data = .plain)
    (ha : s₁.heap.get? a = some { cls := .type "list", data := .seq vs.toArray }) (hr : Room k callerA)
    (F : ∀ base : Heap, K.In base → base.Ns mainGlobals mg → (∀ p ∈ cs, GxR.TabB base mg p.1 p.2) → FnG P w K mg base k fa fd [x] sp) (hbind : ∀ (s : Shared) (u : Value), BindsTo s fd ⟨[u], []⟩ [(x, u)])
    (H : Hp) (hH : ∀ p ∈ cs, H p.2 = some (.tbl #[])) (hO : ∀ b, H b = none ∨ b ∈ cs.map (·.2) ∨ ∃ o xs, H b = some (.frz o (.lst xs))) (hq : sp [.ref a] H fun v _ => v = .bl true) (hok : HOk P w H s₁.heap) (hA : ∀ b, H b ≠ none → b = a ∨ b ∈ cs.map (·.2)) (hK : H a ≠ none → K.lookup a = none) :
    codeAny (model P w) callerA (.call (.ref fa) ⟨[.ref a], []⟩) (fun r s' => LawEnd s₁ s' r) s₁ := by
  have isT : ∀ b : Addr, b ∈ cs.map (·.2) → s₁.heap.get? b = some { cls := .none, data := .fields #[] } := fun b hb => by
    obtain ⟨p, hp, e⟩ := List.mem_map.mp hb
    rw [← e]
    exact hT p hp
  have base_of : ∀ {b : Addr} {o : Obj}, s₁.heap.get? b = some o → H b = none → (hidT s₁.heap H).get? b = some o := fun e n => hidT_get e n
  have noD : ∀ {b : Addr} {o : Obj}, s₁.heap.get? b = some o → (∀ vs n, o.data ≠ .seq vs n) → o.data ≠ .fields #[] → H b = none := fun {b o} e h1 h2 => by
    cases q : H b with
    | none => rfl
    | some u =>
      rcases hA b (by rw [q]; simp) with z | z
      · subst z
        rw [ha] at e
        cases e
        exact (h1 _ _ rfl).elim
      · rw [isT b z] at e
        cases e
        exact (h2 rfl).elim
  have noA : ∀ {b : Addr} {o : Obj} {es : Array DictEntry} {ep : Nat}, s₁.heap.get? b = some o → o.data = .dict es ep → H b = none := fun {b o es ep} e d =>
    noD e (fun vs n z => by rw [d] at z; cases z) fun z => by rw [d] at z; cases z
  have nsK : ∀ {b : Addr} {m : Str → Option Value}, s₁.heap.Ns b m → (hidT s₁.heap H).Ns b m := fun {b m} h => by
    obtain ⟨o, es, ep, e, d, r⟩ := h
    exact ⟨o, es, ep, base_of e (noA e d), d, r⟩
  have hKb : K.In (hidT s₁.heap H) := fun b o e => by
    refine base_of (KX b o e) ?_
    cases q : H b with
    | none => rfl
    | some u =>
      rcases hA b (by rw [q]; simp) with z | z
      · subst z
        rw [hK (by rw [q]; simp)] at e
        cases e
      · obtain ⟨p, hp, ep⟩ := List.mem_map.mp z
        rw [← ep, nT p hp] at e
        cases e
  have hM : L2.Mod K mg (hidT s₁.heap H) := by
    obtain ⟨mc, h1, h2⟩ := hlim
    exact ⟨hKb, nsK hns, ⟨mb, nsK hb, hbb⟩, mc, nsK h1, h2⟩
  have TB : ∀ p ∈ cs, GxR.TabB (hidT s₁.heap H) mg p.1 p.2 := fun p hp => by
    have hTp := hT p hp
    refine ⟨?_, ?_, fun z => ?_⟩
    · obtain ⟨o, us, file, tf, flags, tg, inF, text, tt, e1, r1, r2, r3, r4, r5, r6, r7, r8, hne⟩ := C p hp
      refine ⟨o, us, file, tf, flags, tg, inF, text, tt, base_of e1 (noD e1 (fun vs n z => by rw [r2] at z; cases z) fun z => ?_), r1, r2, r3, r4, r5, r6, r7, r8, hne⟩
      rw [r2] at z
      cases z
      simp at r3
    · obtain ⟨bm, ob, b1, b2, b3, b4, b5, b6⟩ := hbm
      have nG : bm ≠ mainGlobals := fun q => by
        obtain ⟨o, es, ep, e, hd, _⟩ := hns
        rw [q, e] at b3
        cases b3
        rw [hd] at b6
        cases b6
      have nP : bm ≠ p.2 := fun q => by
        rw [q, hTp] at b3
        cases b3
        cases b6
      exact ⟨bm, ob, b1, b2, nG, nP, base_of b3 (noD b3 (fun vs n z => by rw [b6] at z; cases z) fun z => by rw [b6] at z; cases z), b4, b5, b6⟩
    · obtain ⟨o, es, ep, e, hd, _⟩ := hns
      rw [z, hTp] at e
      cases e
      cases hd
  have e0 : Env0 P w K mg (hidT s₁.heap H) callerA [] s₁ H := ⟨rfl, hM, fun b o e => of_hidT e, Nat.le_of_eq (hidT_size _ _), trivial, (fun b z => by cases z), hok, .of_eq hg⟩
  refine codeAny_mono ((F _ hKb (nsK hns) TB).run callerA [] s₁ H ⟨[.ref a], []⟩ [.ref a] [.ref a] _ hr rfl e0 (hbind s₁ (.ref a)) (.cons rfl .nil) hq) fun r s' h => ?_
  match r, h with
  | .error e, h => exact h.elim
  | .ok .next, h => exact h.elim
  | .ok .brk, h => exact h.elim
  | .ok .cont, h => exact h.elim
  | .ok (.ret u), h =>
    obtain ⟨v, H', os, bare, un, hok', r', q⟩ := h
    obtain rfl : v = .bl true := q
    obtain rfl : u = Value.bool true := r'
    have key : ∀ b o, b ∉ cs.map (·.2) → s₁.heap.get? b = some o → s'.heap.get? b = some o := fun b o nb e => by
      cases q : H b with
      | none => exact un.keep b o e q (fun z => by cases z) (fun z => by cases z)
      | some u =>
        rcases hO b with z | z | ⟨ob, xs, z⟩
        · rw [q] at z; cases z
        · exact absurd z nb
        · have z2 := un.frzs b ob _ z
          obtain ⟨e1, _⟩ := hok b _ z
          obtain ⟨e2, _⟩ := hok' b _ z2
          rw [e] at e1; cases e1
          exact e2
    have grown : ∀ p ∈ cs, ∃ more : Array Value, s'.heap.get? p.2 = some { cls := .none, data := .fields more } := fun p hp => by
      obtain ⟨more, z⟩ := un.tbls p.2 #[] (hH p hp)
      exact ⟨_, hok' p.2 _ z⟩
    refine ⟨rfl, ⟨fun b o e => ?_, fun b o e => ?_⟩, os, bare⟩
    · by_cases hb : b ∈ cs.map (·.2)
      · obtain ⟨p, hp, ep⟩ := List.mem_map.mp hb
        obtain ⟨more, hm⟩ := grown p hp
        rw [← ep] at e ⊢
        rw [hT p hp] at e
        cases e
        exact .inr (.inl ⟨((C p hp).tab (hT p hp)).isCodeTable, rfl, #[], more, rfl, by rw [Array.empty_append]; exact hm⟩)
      · exact .inl (key b o hb e)
    · by_cases hb : b ∈ cs.map (·.2)
      · obtain ⟨p, hp, ep⟩ := List.mem_map.mp hb
        obtain ⟨more, hm⟩ := grown p hp
        rw [← ep]
        exact ⟨_, hm⟩
      · exact ⟨o, key b o hb e⟩
theorem law_callG (KX : K.In s₁.heap) (hns : s₁.heap.Ns mainGlobals mg) (hb : s₁.heap.Ns builtinsNs mb) (hbb : ∀ x : Str, x ≠ "__name__" → mb x = bootBuiltins x) (hlim : s₁.heap.NoLimit) (hg : s₁.gens = #[])
    (hT : ∀ p ∈ cs, s₁.heap.get? p.2 = some { cls := .none, data := .fields #[] }) (nT : ∀ p ∈ cs, K.lookup p.2 = none) (C : ∀ p ∈ cs, PySem.W.CodeHd s₁.heap p.1 p.2)
    (hbm : ∃ (bm : Addr) (ob : Obj), mg "__builtins__" = some (.ref bm) ∧ bm ≠ builtinsNs ∧ s₁.heap.get? bm = some ob ∧ ob.cls = .type "module" ∧ ob.dict = some builtinsNs ∧ ob.data = .plain)
    (ha : s₁.heap.get? a = some { cls := .type "list", data := .seq vs.toArray }) (hi : IntsAre vs ns) (hl : ns.length ≤ sizeLine) (hr : Room k callerA)
    (F : ∀ base : Heap, K.In base → base.Ns mainGlobals mg → (∀ p ∈ cs, GxR.TabB base mg p.1 p.2) → FnG P w K mg base k fa fd [x] sp) (hbind : ∀ (s : Shared) (u : Value), BindsTo s fd ⟨[u], []⟩ [(x, u)])
    (hsp : ∀ H : Hp, OnlyT H → (∀ p ∈ cs, H p.2 = some (.tbl #[])) → SqL K H a (ns.map V.int) → sp [.ref a] H (fun v _ => v = .bl true)) :
    codeAny (model P w) callerA (.call (.ref fa) ⟨[.ref a], []⟩) (fun r s' => LawEnd s₁ s' r) s₁ := by
  have rv := vals_ints hi
  have lenV := hi.length
  have aT : a ∉ cs.map (·.2) := fun z => by
    obtain ⟨p, hp, e⟩ := List.mem_map.mp z
    have q := hT p hp
    rw [e, ha] at q
    have z' : Data.seq vs.toArray _ = Data.fields #[] := congrArg Obj.data (Option.some.inj q)
    cases z'
  have memT : ∀ p ∈ cs, p.2 ∈ cs.map (·.2) := fun p hp => List.mem_map.mpr ⟨p, hp, rfl⟩
  have isT : ∀ b : Addr, b ∈ cs.map (·.2) → s₁.heap.get? b = some { cls := .none, data := .fields #[] } := fun b hb => by
    obtain ⟨p, hp, e⟩ := List.mem_map.mp hb
    rw [← e]
    exact hT p hp
  cases hk : K.lookup a with
  | some o =>
    have e := KX a o hk
    rw [ha] at e
    cases e
    let H : Hp := fun b => if b ∈ cs.map (·.2) then some (.tbl #[]) else none
    have on : ∀ b, b ∈ cs.map (·.2) → H b = some (.tbl #[]) := fun b h => if_pos h
    have off : ∀ b, b ∉ cs.map (·.2) → H b = none := fun b h => if_neg h
    have hH : ∀ p ∈ cs, H p.2 = some (.tbl #[]) := fun p hp => on _ (memT p hp)
    refine law_core KX hns hb hbb hlim hg hT nT C hbm ha hr F hbind H hH (fun b => ?_) (hsp H (fun b => ?_) hH (.inr ⟨_, vs.toArray, _, hk, rfl, rfl, rfl, by rw [List.size_toArray, lenV]; exact hl, by simpa using rv⟩)) (fun b u z => ?_) (fun b z => ?_) fun z => absurd (off a aT) z
    · by_cases h : b ∈ cs.map (·.2)
      · exact .inr (.inl h)
      · exact .inl (off b h)
    · by_cases h : b ∈ cs.map (·.2)
      · exact .inr (.inl ⟨_, on b h⟩)
      · exact .inl (off b h)
    · by_cases h : b ∈ cs.map (·.2)
      · rw [on b h] at z
        cases z
        exact isT b h
      · rw [off b h] at z
        cases z
    · by_cases h : b ∈ cs.map (·.2)
      · exact .inr h
      · exact absurd (off b h) z
  | none =>
    let ob : Obj := { cls := .type "list", data := .seq vs.toArray }
    let H : Hp := fun b => if b = a then some (.frz ob (.lst (ns.map V.int))) else if b ∈ cs.map (·.2) then some (.tbl #[]) else none
    have at_a : H a = some (.frz ob (.lst (ns.map V.int))) := if_pos rfl
    have on : ∀ b, b ≠ a → b ∈ cs.map (·.2) → H b = some (.tbl #[]) := fun b h1 h => (if_neg h1).trans (if_pos h)
    have off : ∀ b, b ≠ a → b ∉ cs.map (·.2) → H b = none := fun b h1 h => (if_neg h1).trans (if_neg h)
    have hH : ∀ p ∈ cs, H p.2 = some (.tbl #[]) := fun p hp => on _ (fun z => aT (by rw [← z]; exact memT p hp)) (memT p hp)
    have three : ∀ b, b = a ∨ (b ≠ a ∧ b ∈ cs.map (·.2)) ∨ (b ≠ a ∧ b ∉ cs.map (·.2)) := fun b => by
      by_cases h1 : b = a
      · exact .inl h1
      · by_cases h2 : b ∈ cs.map (·.2)
        · exact .inr (.inl ⟨h1, h2⟩)
        · exact .inr (.inr ⟨h1, h2⟩)
    refine law_core KX hns hb hbb hlim hg hT nT C hbm ha hr F hbind H hH (fun b => ?_) (hsp H (fun b => ?_) hH (.inl (.inr ⟨ob, at_a⟩))) (fun b u z => ?_) (fun b z => ?_) fun _ => hk
    · rcases three b with h | ⟨h1, h2⟩ | ⟨h1, h2⟩
      · subst h; exact .inr (.inr ⟨_, _, at_a⟩)
      · exact .inr (.inl h2)
      · exact .inl (off b h1 h2)
    · rcases three b with h | ⟨h1, h2⟩ | ⟨h1, h2⟩
      · subst h; exact .inr (.inr ⟨_, _, at_a⟩)
      · exact .inr (.inl ⟨_, on b h1 h2⟩)
      · exact .inl (off b h1 h2)
    · rcases three b with h | ⟨h1, h2⟩ | ⟨h1, h2⟩
      · subst h
        rw [at_a] at z
        cases z
        refine ⟨ha, ?_, vs, _, rv, ha⟩
        rw [List.length_map]
        exact hl
      · rw [on b h1 h2] at z
        cases z
        exact isT b h2
      · rw [off b h1 h2] at z
        cases z
    · rcases three b with h | ⟨h1, h2⟩ | ⟨h1, h2⟩
      · exact .inl h
      · exact .inr h2
      · exact absurd (off b h1 h2) z
end
theorem walk_ofG {l : PySem.W.OpenLaw} {n k : Nat} {q : Program} {loose : List Str} {XP : (Str → Option Value) → Heap → Prop} {YP : World → Heap → Prop} {d : DefRec} {x : Str} (hn : l.most = some n) (hn2 : n ≤ sizeLine) (hdf : d.params.defaults = []) (hr : Room k callerA)
    (FF : ∀ (w : World) (mg : Str → Option Value) (fa : Addr) (h : Heap), YP w h → h.Ns mainGlobals mg → mg d.name = some (.ref fa) → ∃ (K : PySem.W.Frag) (fd : FuncData) (cs : List (Addr × Addr)) (sp : SpG), K.In h ∧
        (∀ p ∈ cs, h.get? p.2 = some { cls := .none, data := .fields #[] }) ∧ (∀ p ∈ cs, K.lookup p.2 = none) ∧ (∀ p ∈ cs, PySem.W.CodeHd h p.1 p.2) ∧ (∀ (s : Shared) (u : Value), BindsTo s fd ⟨[u], []⟩ [(x, u)]) ∧
        (∀ (H : Hp) (a : Addr) (ns : List Int), ns.length ≤ n → OnlyT H → (∀ p ∈ cs, H p.2 = some (.tbl #[])) → SqL K H a (ns.map V.int) → sp [.ref a] H (fun v _ => v = .bl true)) ∧
        ∀ base : Heap, K.In base → base.Ns mainGlobals mg → (∀ p ∈ cs, GxR.TabB base mg p.1 p.2) → FnG l.prog w K mg base k fa fd [x] sp) :
    PySem.W.WalkO q loose XP YP l.row.toRowW d [] (fun f vs => PySem.call f vs) := by
  apply Att.attach_call hn hdf
  intro w s0 s1 mg mb fa o pm cd doc a vs ns G Y ho hd hcd hmg hobj hints hlen hg
  obtain ⟨K, fd, cs, sp, KX, hT, nT, C, hb, hsp, hF⟩ := FF w mg fa _ Y G.T.g hmg
  exact law_callG KX G.T.g G.T.b G.T.builtins G.T.nolimit hg hT nT C G.T.bmain hobj hints (Nat.le_trans hlen hn2) hr hF hb fun H hO hH hS => hsp H a ns hlen hO hH hS
/-- the script as the evaluator has it -/
theorem script_rep {K : PySem.W.Frag} {fa : Str → Addr} {tb : List Addr} {w : World} {H : Hp} {a : Addr} {ns : List Int} (hO : OnlyT H) (hS : SqL K H a (ns.map V.int)) (io : List Addr) (lk : List Addr) : Rep ⟨K, fa, lk, tb, w⟩ io H (.rls (ns.map D.int)) (.ref a) := by
  have rs : Reps ⟨K, fa, lk, tb, w⟩ io H (ns.map D.int) (ns.map V.int) := by
    clear hS
    induction ns with
    | nil => exact .nil
    | cons n ns ih => exact .cons (.int n) ih
  rcases hS with (h | ⟨o, h⟩) | h
  · rcases hO a with z | ⟨ps, z⟩ | ⟨o, xs, z⟩
    · exact nomatch z.symm.trans h
    · exact nomatch z.symm.trans h
    · exact nomatch z.symm.trans h
  · exact .rlsF h rs
  · exact .rlsK h rs
/-- the law: its def's own call by the evaluator tells True -/
theorem law_sp {K : PySem.W.Frag} {fa : Str → Addr} {tb : List Addr} {w : World} {cl : List D → Sto → Option (D × Sto)} {x : Str} {H : Hp} {a : Addr} {ns : List Int} (hO : OnlyT H) (hT : ∀ P ∈ tb, H P = some (.tbl #[])) (hS : SqL K H a (ns.map V.int)) {S' : Sto} (e : cl [.rls (ns.map D.int)] [] = some (.bl true, S')) :
    spG K fa tb w [x] cl [.ref a] H (fun v _ => v = .bl true) := by
  refine ⟨[], [], [], [.rls (ns.map D.int)], .bl true, S', ?_, .cons (script_rep hO hS [] []) .nil, e, rfl, fun io' H' v g so r => ?_⟩
  · exact ⟨rfl, .nil, fun a ha => (by cases ha), fun n a m h => (by simp at h), fun P hP => ⟨#[], hT P hP, trivial⟩⟩
  · cases r
    rfl
end Ev

namespace Ev
open PySem PySem.Spec PyProof.Rows L2
/-! ### the head's facts -/
mutual
theorem dB_ok {F : Fx} {io : List Addr} {H : Hp} (hf : F.fa = He.ga F.K) : ∀ (d : D) (u : Value), dB F.K d u = true → ∃ v, RelV v u ∧ Rep F io H d v
  | .non, u, h => by
    simp only [dB, beq_iff_eq] at h
    exact ⟨.non, h, .non⟩
  | .bl b, u, h => by
    simp only [dB, beq_iff_eq] at h
    exact ⟨.bl b, h, .bl b⟩
  | .int i, u, h => by
    simp only [dB] at h
    split at h
    · rename_i j t
      simp only [beq_iff_eq] at h
      subst h
      exact ⟨.int i, ⟨t, rfl⟩, .int i⟩
    · cases h
  | .str x, u, h => by
    simp only [dB] at h
    split at h
    · rename_i y t
      simp only [beq_iff_eq] at h
      subst h
      exact ⟨.str x, ⟨t, rfl⟩, .str x⟩
    · cases h
  | .ty n, u, h => by
    simp only [dB, beq_iff_eq] at h
    exact ⟨.ty n, h, .ty n⟩
  | .fn g, u, h => by
    simp only [dB, beq_iff_eq] at h
    refine ⟨.ref (He.ga F.K g), h, ?_⟩
    have := Rep.fn (F := F) (io := io) (H := H) g
    rw [hf] at this
    exact this
  | .tup ds, u, h => by
    simp only [dB] at h
    split at h
    · rename_i a
      split at h
      · rename_i c od its n sl q
        simp only [Bool.and_eq_true, decide_eq_true_eq] at h
        obtain ⟨h1, h2, h3⟩ := h
        obtain ⟨vs, r1, r2⟩ := dsB_ok hf ds its.toList h3
        exact ⟨.ref a, rfl, .tup (.inr ⟨_, its, n, q, congrArg Value.type h1, rfl, h2, r1⟩) r2⟩
      · cases h
    · cases h
  | .lst _, u, h => by simp [dB] at h
  | .rls _, u, h => by simp [dB] at h
  | .ref _, u, h => by simp [dB] at h
  | .wd _ _, u, h => by simp [dB] at h
theorem dsB_ok {F : Fx} {io : List Addr} {H : Hp} (hf : F.fa = He.ga F.K) : ∀ (ds : List D) (us : List Value), dsB F.K ds us = true → ∃ vs, Vals vs us ∧ Reps F io H ds vs
  | [], [], _ => ⟨[], .nil, .nil⟩
  | [], _ :: _, h => by simp [dsB] at h
  | _ :: _, [], h => by simp [dsB] at h
  | d :: ds, u :: us, h => by
    simp only [dsB, Bool.and_eq_true] at h
    obtain ⟨v, r1, r2⟩ := dB_ok hf d u h.1
    obtain ⟨vs, r3, r4⟩ := dsB_ok hf ds us h.2
    exact ⟨v :: vs, .cons r1 r3, .cons r2 r4⟩
end
theorem wdB_ok {F : Fx} {io : List Addr} {H : Hp} (hf : F.fa = He.ga F.K) {a : Addr} : ∀ {ks : List Str} {ds : List D}, wdB F.K a ks ds = true → ∃ us, ks.length = us.length ∧ (∀ (i : Nat) k u, ks[i]? = some k → us[i]? = some u → ∃ u', PySem.W.nsIn F.K a k = some (some u') ∧ RelV u u') ∧ Reps F io H ds us
  | [], [], _ => ⟨[], rfl, fun i k u h => by simp at h, .nil⟩
  | [], _ :: _, h => by simp [wdB] at h
  | _ :: _, [], h => by simp [wdB] at h
  | k :: ks, d :: ds, h => by
    simp only [wdB, Bool.and_eq_true] at h
    obtain ⟨us, h1, h2, h3⟩ := wdB_ok (io := io) (H := H) hf h.2
    have h0 := h.1
    split at h0
    · rename_i u q
      obtain ⟨v, r1, r2⟩ := dB_ok (io := io) (H := H) hf d u h0
      refine ⟨v :: us, by simp [h1], fun i k' u' e1 e2 => ?_, .cons r2 h3⟩
      cases i with
      | zero =>
        simp at e1 e2
        subst e1
        subst e2
        exact ⟨u, q, r1⟩
      | succ i => exact h2 i k' u' (by simpa using e1) (by simpa using e2)
    · cases h0
theorem keys_off {P : Params} {l : List DictEntry} {ks : List Str} (h : l.map He.keyOf = He.keysIn P ks) {z : Str} (hz : z ∉ ks) : l.find? (·.key.isStr z) = none ∧ l.any (·.refKey) = false := by
  induction l generalizing ks with
  | nil => exact ⟨rfl, rfl⟩
  | cons e r ih =>
    cases ks with
    | nil => cases h
    | cons k ks =>
      have h1 : He.keyOf e :: r.map He.keyOf = some (k, PyData.keyHash P k) :: He.keysIn P ks := h
      injection h1 with h2 h3
      simp only [List.mem_cons, not_or] at hz
      obtain ⟨i1, i2⟩ := ih h3 hz.2
      unfold He.keyOf at h2
      split at h2
      · rename_i x t q
        have h4 := Option.some.inj h2
        obtain ⟨h5, h6⟩ := Prod.mk.inj h4
        subst h5
        refine ⟨?_, ?_⟩
        · rw [List.find?_cons]
          have : e.key.isStr z = false := by
            rw [q]
            show (x == z) = false
            exact beq_eq_false_iff_ne.mpr (Ne.symm hz.1)
          rw [this]
          exact i1
        · rw [List.any_cons, i2]
          have : e.refKey = false := by
            unfold DictEntry.refKey
            rw [q]
          rw [this]
          rfl
      · cases h2
theorem nsIn_off {K : PySem.W.Frag} {w : World} {a : Addr} {ks : List Str} (h : He.dicW K a = some (He.keysIn w.params ks)) {z : Str} (hz : z ∉ ks) : PySem.W.nsIn K a z = some none := by
  unfold He.dicW at h
  split at h
  · rename_i c es n sl q
    split at h
    · obtain ⟨h1, h2⟩ := keys_off (Option.some.inj h) hz
      unfold PySem.W.nsIn
      rw [q]
      simp only [h1, h2]
      rfl
    · cases h
  · cases h
def vOf (d : D) (u : Value) : V := match d with
  | .non => .non
  | .bl b => .bl b
  | .int i => .int i
  | .str x => .str x
  | .ty n => .ty n
  | _ => match u with
    | .ref a => .ref a
    | _ => .non
theorem vOf_eq {F : Fx} {io : List Addr} {H : Hp} {d : D} {v : V} {u : Value} (r : Rep F io H d v) (rv : RelV v u) : v = vOf d u := by
  cases r <;> first
    | rfl
    | (cases rv; rfl)
theorem tabsOf_mem {g : Str} {ks : List Str} {ds : List D} : ∀ {cs : List (Str × D)}, (g, D.wd ks ds) ∈ cs → ((fun K => He.ga K g, ks) : He.Tab) ∈ tabsOf cs
  | [], h => by cases h
  | (g', d) :: r, h => by
    rcases List.mem_cons.mp h with e | h
    · cases e
      exact List.mem_cons_self
    · have ih := tabsOf_mem h
      cases d with
      | wd => exact List.mem_cons_of_mem _ ih
      | _ => exact ih
theorem saysT_keys {fa : List He.Fa} {fn : List He.DefD} {ts : List He.Tab} {w : World} {K : PySem.W.Frag} (c : He.SaysT fa fn ts w K) {t : He.Tab} (h : t ∈ ts) : He.dicW K (t.1 K) = some (He.keysIn w.params t.2) := by
  obtain ⟨i, hi, e⟩ := List.mem_iff_getElem.mp h
  have h1 : ts[i]? = some t := by rw [List.getElem?_eq_getElem hi, e]
  have e : ts.map (fun t => He.dicW K (t.1 K)) = ts.map fun t => some (He.keysIn w.params t.2) := congrArg (fun z : He.AlT => z.2) c
  have e2 : (ts.map fun t => He.dicW K (t.1 K))[i]? = (ts.map fun t => some (He.keysIn w.params t.2))[i]? := by rw [e]
  rw [List.getElem?_map, List.getElem?_map, h1] at e2
  exact Option.some.inj e2
theorem cst_rep {K : PySem.W.Frag} {w : World} {tb : List Addr} {g : Str} {d : D} (h : cstB K g d = true) (hk : ∀ ks ds, d = .wd ks ds → He.dicW K (He.ga K g) = some (He.keysIn w.params ks)) : ∃ u, PySem.W.nsIn K mainGlobals g = some (some u) ∧ RelV (vOf d u) u ∧ ∀ (lk io : List Addr) (H : Hp), Rep ⟨K, He.ga K, lk, tb, w⟩ io H d (vOf d u) := by
  unfold cstB at h
  split at h
  · rename_i u q
    refine ⟨u, q, ?_⟩
    have key : ∀ (lk io : List Addr) (H : Hp), ∃ v, RelV v u ∧ Rep ⟨K, He.ga K, lk, tb, w⟩ io H d v := fun lk io H => by
      split at h
      · rename_i ks ds
        simp only [Bool.and_eq_true, beq_iff_eq] at h
        have hd := hk ks ds rfl
        obtain ⟨us, h1, h2, h3⟩ := wdB_ok (F := ⟨K, He.ga K, lk, tb, w⟩) (io := io) (H := H) rfl h.2
        obtain ⟨es, n, kd⟩ := He.dicW_ok hd
        exact ⟨.ref (He.ga K g), h.1, .wd kd ⟨h1, h2, fun z hz => nsIn_off hd hz⟩ h3⟩
      · exact dB_ok (F := ⟨K, He.ga K, lk, tb, w⟩) (io := io) (H := H) rfl d u h
    refine ⟨?_, fun lk io H => ?_⟩
    · obtain ⟨v, r1, r2⟩ := key [] [] (fun _ => none)
      rw [← vOf_eq r2 r1]
      exact r1
    · obtain ⟨v, r1, r2⟩ := key lk io H
      rw [← vOf_eq r2 r1]
      exact r2
  · cases h
theorem scB_ok {d : DI} (h : scB d = true) : FnScope d.N d.ps d.scope := by
  simp only [scB, Bool.and_eq_true, decide_eq_true_eq, Bool.not_eq_true', List.all_eq_true, Bool.or_eq_true] at h
  obtain ⟨h1, h2, h3, h4, h5, h6, h7⟩ := h
  exact ⟨h1, h2, h3, h4, h5, h6, h7⟩
abbrev Says (p : Pg) (cs : List (Str × D)) := He.SaysX (p.fas frees) p.fnD (tabsOf cs) p.tf (cstsB cs)
section
variable {p : Pg} {cs : List (Str × D)} {w : World} {h : Heap} {K : PySem.W.Frag} {mg : Str → Option Value} {base : Heap}
theorem funs (T : TxOK p cs) (Y : Says p cs w h K) {d : DI} (hd : d ∈ p.ds) : ∃ fd, FunD K d.name d.name d.params d.body d.scope [] [] (He.ga K d.name) fd := by
  have hm : (⟨(d.name, none), d.name, d.name, d.params, d.body, d.scope, [], []⟩ : He.DefD) ∈ p.fnD := List.mem_map_of_mem (f := fun d : DI => (⟨(d.name, none), d.name, d.name, d.params, d.body, d.scope, [], []⟩ : He.DefD)) hd
  obtain ⟨fd, F⟩ := Y.t.d.defs hm
  exact ⟨fd, F⟩
theorem facs (Y : Says p cs w h K) {f : He.Fa} (hf : f ∈ p.fas frees) : f.ok K = true := Y.t.d.facts hf
/-- code objects and tables -/
def Pg.cts (p : Pg) (K : PySem.W.Frag) : List (Addr × Addr) := p.tf.map (He.cT K)
theorem mc_of (T : TxOK p cs) (Y : Says p cs w h K) (X : K.In h) (G : h.Ns mainGlobals mg) (TB : ∀ q ∈ p.cts K, GxR.TabB base mg q.1 q.2) : Mc p K mg (He.ga K) (fun g => lookD g cs) ((p.cts K).map (·.2)) w base := by
  have fr : ∀ x ∈ frees, mg x = none := fun x hx => He.free_ok X G (facs Y (List.mem_append_right _ (List.mem_map_of_mem hx)))
  refine ⟨fun d hd => ?_, fun d hd => scB_ok (List.all_eq_true.mp T.sc d hd), fun f => ?_, fr _ (by decide +kernel), ?_, fun g d hg e => ?_, fun d hd ht fd F => ?_⟩
  · obtain ⟨fd, F⟩ := funs T Y hd
    refine ⟨fd, F, He.glo_ok X G (facs Y (List.mem_append_left _ (List.mem_map_of_mem (f := fun d : DI => He.Fa.glo d.name) hd))), FunD.bindsN F (T.bn d hd), fun ks ix hk => ?_⟩
    intro sh ws us _ hl hp
    obtain ⟨oc, od, dV, kV, doc, pm, an, cdv, ct, osl, rfl, lk, hcd, hD, hK⟩ := F.ex
    rcases hD with ⟨_, rfl⟩ | ⟨e, _⟩
    · exact .of_eq (T.kw d hd ks ix hk kV doc pm an cdv ct ws us hl hp)
    · exact absurd rfl e
  · cases f <;> exact fr _ (by decide +kernel)
  · exact ⟨fr _ (by decide +kernel), fr _ (by decide +kernel), fr _ (by decide +kernel), fr _ (by decide +kernel), fr _ (by decide +kernel)⟩
  · obtain ⟨u, h1, h2, h3⟩ := cst_rep (tb := (p.cts K).map (·.2)) (List.all_eq_true.mp Y.more (g, d) (lookD_mem e)) (fun ks ds z => by
      subst z
      exact saysT_keys Y.t (tabsOf_mem (lookD_mem e)))
    exact ⟨u, vOf d u, PySem.W.mg_of X G h1, h2, fun lk io H => h3 lk io H⟩
  · obtain ⟨oc, od, dV, kV, doc, pm, an, cdv, ct, osl, rfl, lk, hcd, _, _⟩ := F.ex
    obtain ⟨c, rfl⟩ := He.codeIn_ref hcd
    have hm : (d.name, none) ∈ p.tf := List.mem_map_of_mem (f := fun d : DI => ((d.name, none) : He.Defn)) (List.mem_filter.mpr ⟨hd, ht⟩)
    have hc : He.codeOf K (d.name, none) = c := He.codeOf_eq lk rfl
    have hq : He.cT K (d.name, none) ∈ p.cts K := List.mem_map_of_mem hm
    refine ⟨c, (He.cT K (d.name, none)).2, rfl, ?_, List.mem_map_of_mem (f := fun q : Addr × Addr => q.2) hq⟩
    have := TB _ hq
    have e1 : (He.cT K (d.name, none)).1 = c := hc
    rw [e1] at this
    exact this
end
/-- the law by the evaluator -/
theorem law_walk {hdp : Nat} {l : PySem.W.OpenLaw} {k wf : Nat} {q : Program} {loose : List Str} {XP : (Str → Option Value) → Heap → Prop} {d : DefRec} {p : Pg} {cs : List (Str × D)} {df : Str → Option Df} {dl : DI} {x : Str}
    (T : TxOK p cs) (A : Ag p df) (hd : dl ∈ p.ds) (hx : dl.ps = [x]) (hnm : dl.name = d.name) (hn : l.most = some 63) (hdf : d.params.defaults = []) (hr : Room (k + 1) callerA)
    (run : ∀ ns : List Int, ns.length ≤ 63 → ∃ S', callN df (fun g => lookD g cs) wf k dl.name [.rls (ns.map D.int)] [] = some (.bl true, S')) :
    PySem.W.WalkO q loose XP (He.hookX hdp (p.fas frees) p.fnD (tabsOf cs) p.tf (cstsB cs)).says l.row.toRowW d [] (fun f vs => PySem.call f vs) := by
  refine walk_ofG (n := 63) (k := k + 1) (x := x) hn (by decide) hdf hr fun w mg fa h Y G hm => ?_
  obtain ⟨K, X, c⟩ := Y
  obtain ⟨fd, F⟩ := funs T c hd
  have e : mg dl.name = some (.ref (He.ga K dl.name)) := He.glo_ok X G (facs c (List.mem_append_left _ (List.mem_map_of_mem (f := fun d : DI => He.Fa.glo d.name) hd)))
  rw [← hnm] at hm
  have e2 := e.symm.trans hm
  cases e2
  refine ⟨K, fd, p.cts K, spG K (He.ga K) ((p.cts K).map (·.2)) w [x] (callN df (fun g => lookD g cs) wf k dl.name), X, fun q hq => ?_, fun q hq => ?_, fun q hq => ?_, fun s u => ?_, fun H a ns hl hO hH hS => ?_, fun base hb hg TB => ?_⟩
  · obtain ⟨t, ht, rfl⟩ := List.mem_map.mp hq
    exact c.empty t ht
  · obtain ⟨t, ht, rfl⟩ := List.mem_map.mp hq
    exact c.out t ht
  · obtain ⟨t, ht, rfl⟩ := List.mem_map.mp hq
    exact PySem.W.codeHd_of_K X (c.hd t ht)
  · have b := FunD.bindsA (ps := dl.ps) F (T.bn dl hd) s [u] (by rw [hx]; rfl)
    rw [hx] at b
    exact b
  · obtain ⟨S', e3⟩ := run ns hl
    refine law_sp hO (fun P hP => ?_) hS e3
    obtain ⟨q, hq, rfl⟩ := List.mem_map.mp hP
    exact hH q hq
  · have L := lev (P := l.prog) (wf := wf) A (mc_of T c X G TB) k dl hd fd F
    rw [hx] at L
    exact L
end Ev

namespace Ev
open PySem PySem.Spec PyProof.Rows L2
/-! ### reckoning by the evaluator -/
theorem call_eq {df : Str → Option Df} {gl : Str → Option D} {w k : Nat} {f : Str} {d : Df} (h : df f = some d) {as : List D} {S : Sto} (hl : as.length = d.ps.length) :
    callN df gl w (k + 1) f as S = match exs ⟨callN df gl w k, callN df gl w (k - 1), gl⟩ w d.body (startD d as) S with
      | some (.rt r, _, S1) => some (r, S1)
      | some (.nx, _, S1) => some (.non, S1)
      | _ => none := by
  simp only [callN, h, hl, if_true] <;> rfl
theorem forLoop_inv {bd : D → EnvD → Option EnvD} {body : EnvD → Sto → Option (Fl × EnvD × Sto)} {I : EnvD → Sto → Prop} : ∀ {ds : List D} {env : EnvD} {S : Sto},
    (∀ d ∈ ds, ∀ env S, I env S → ∃ env1 env2 S2, bd d env = some env1 ∧ body env1 S = some (.nx, env2, S2) ∧ I env2 S2) → I env S →
    ∃ env' S', forLoop (fun _ => true) bd body ds env S = some (.nx, env', S') ∧ I env' S'
  | [], env, S, _, h => ⟨env, S, by simp [forLoop], h⟩
  | d :: ds, env, S, st, h => by
    obtain ⟨env1, env2, S2, e1, e2, h2⟩ := st d List.mem_cons_self env S h
    obtain ⟨env', S', e3, h3⟩ := forLoop_inv (ds := ds) (fun d hd => st d (List.mem_cons_of_mem _ hd)) h2
    exact ⟨env', S', by simp only [forLoop, if_true, e1, e2]; exact e3, h3⟩
/-- a loop that may end by a return of one value -/
theorem compLoop_inv {bd : D → EnvD → Option EnvD} {el : EnvD → Sto → Option (D × Sto)} {I : Sto → Prop} {env : EnvD} {x : D} : ∀ {ds : List D} {S : Sto} {acc : List D},
    (∀ d ∈ ds, ∀ S, I S → ∃ env1 S2, bd d env = some env1 ∧ el env1 S = some (x, S2) ∧ I S2) → I S → acc.length + ds.length ≤ 1000 →
    ∃ S', compLoop (fun _ => true) bd (fun _ S => some (true, S)) el env ds S acc = some (acc ++ List.replicate ds.length x, S') ∧ I S'
  | [], S, acc, _, h, _ => ⟨S, by simp [compLoop], h⟩
  | d :: ds, S, acc, st, h, hl => by
    obtain ⟨env1, S2, e1, e2, h2⟩ := st d List.mem_cons_self S h
    have hl2 : (acc ++ [x]).length + ds.length ≤ 1000 := by
      rw [List.length_append, List.length_singleton]
      rw [List.length_cons] at hl
      omega
    obtain ⟨S', e3, h3⟩ := compLoop_inv (ds := ds) (acc := acc ++ [x]) (fun d hd => st d (List.mem_cons_of_mem _ hd)) h2 hl2
    refine ⟨S', ?_, h3⟩
    have hz : acc.length < sizeLine := by
      rw [sizeLine_eq]
      omega
    simp only [compLoop, if_true, e1, e2, if_pos hz, e3, List.length_cons, List.replicate_succ, List.append_assoc, List.singleton_append]
theorem bls_true : ∀ n : Nat, bls (List.replicate n (.bl true)) = some (List.replicate n true)
  | 0 => rfl
  | n + 1 => by simp [List.replicate_succ, bls, toBl, bls_true n]
theorem shw_ok {d : D} {p : PyData} (hp : py d = some p) (h1 : p.showable = true) (h2 : p.leavesShort 13 = true) (h3 : p.weight ≤ 2 ^ 20) (h4 : p.depth ≤ 60) : shw (py d) = some (.str p.shown) := by
  have h5 := PyData.shown_fits (B := 13) (by decide) (by decide) h2 h3
  rw [hp]
  simp only [shw, h1, h4, h5, and_self, if_true]
theorem int_log {i : Int} (h1 : -999999999999 ≤ i) (h2 : i ≤ 999999999999) : i.natAbs.log2 < 64 := by
  by_cases h : i.natAbs = 0
  · rw [h]
    decide
  · exact (Nat.log2_lt h).mpr (show i.natAbs < 2 ^ 64 by omega)
theorem int_showable {i : Int} (h1 : -999999999999 ≤ i) (h2 : i ≤ 999999999999) : decide (i.natAbs.log2 < 1920) = true := by
  have := int_log h1 h2
  exact decide_eq_true (by omega)
theorem repr2 {a b : Int} (ha : -999999999999 ≤ a) (ha' : a ≤ 999999999999) (hb : -999999999999 ≤ b) (hb' : b ≤ 999999999999) : ∃ s, shw (py (.lst [.int a, .int b])) = some (.str s) := by
  have h1 := PyData.shown_int_le2 ha ha'
  have h2 := PyData.shown_int_le2 hb hb'
  refine ⟨_, shw_ok (p := .list [.int a, .int b]) rfl ?_ ?_ ?_ ?_⟩
  · simp only [PyData.showable, PyData.showableAll, int_showable ha ha', int_showable hb hb', Bool.and_true]
  · simp [PyData.leavesShort, PyData.leavesShortAll, h1, h2]
  · have l1 := int_log ha ha'
    have l2 := int_log hb hb'
    simp only [PyData.weight, PyData.weightAll]
    split <;> split <;> omega
  · simp [PyData.depth, PyData.depthAll]
end Ev

namespace Ev
open PySem PySem.Spec PyProof.Rows L2
variable {S : Sto}
/-- a call by its body -/
theorem call_of {df : Str → Option Df} {gl : Str → Option D} {w k : Nat} {f : Str} {d : Df} (h : df f = some d) {as : List D} {r : D} {S' : Sto} (hl : as.length = d.ps.length)
    (hb : (∃ env, exs ⟨callN df gl w k, callN df gl w (k - 1), gl⟩ w d.body (startD d as) S = some (.rt r, env, S')) ∨ (r = .non ∧ ∃ env, exs ⟨callN df gl w k, callN df gl w (k - 1), gl⟩ w d.body (startD d as) S = some (.nx, env, S'))) : callN df gl w (k + 1) f as S = some (r, S') := by
  rw [call_eq h hl]
  rcases hb with ⟨env, e⟩ | ⟨rfl, env, e⟩ <;> rw [e]
/-! expressions by parts -/
section
variable {G : Gb} {env : EnvD} {S1 S2 : Sto} {x y : E} {a b d : D} {t u : Bool}
theorem eV {i : Nat} (h : env[i]? = some (some d)) : ev G (.var i) env S = some (d, S) := by simp only [ev, h]
theorem eC : ev G (.cst d) env S = some (d, S) := by simp only [ev]
theorem eB {op : Operator} (hx : ev G x env S = some (a, S1)) (hy : ev G y env S1 = some (b, S2)) (h : binS S2 op a b = some d) : ev G (.bin op x y) env S = some (d, S2) := by simp only [ev, hx, hy, h]
theorem eQ {op : CmpOp} (hx : ev G x env S = some (a, S1)) (hy : ev G y env S1 = some (b, S2)) (h : cop S2 op a b = some t) : ev G (.cmp op x y) env S = some (.bl t, S2) := by simp only [ev, hx, hy, h]
theorem eA (hx : ev G x env S = some (.bl t, S1)) (hy : t = true → ev G y env S1 = some (.bl u, S1)) : ev G (.and' x y) env S = some (.bl (t && u), S1) := by
  cases t with
  | false => simp only [ev, hx, truth, Bool.false_and]
  | true => simp only [ev, hx, truth, Bool.true_and, hy rfl]
theorem eO (hx : ev G x env S = some (.bl t, S1)) (hy : t = false → ev G y env S1 = some (.bl u, S1)) : ev G (.or' x y) env S = some (.bl (t || u), S1) := by
  cases t with
  | true => simp only [ev, hx, truth, Bool.true_or]
  | false => simp only [ev, hx, truth, Bool.false_or, hy rfl]
theorem eN (hx : ev G x env S = some (.bl t, S1)) : ev G (.not' x) env S = some (.bl (!t), S1) := by simp only [ev, hx, truth]
theorem eI {z w : E} (hx : ev G x env S = some (.bl t, S1)) (h1 : t = true → ev G z env S1 = some (d, S2)) (h2 : t = false → ev G w env S1 = some (d, S2)) : ev G (.ife x z w) env S = some (d, S2) := by
  cases t with
  | true => simp only [ev, hx, truth, h1 rfl]
  | false => simp only [ev, hx, truth, h2 rfl]
theorem es0 : evs G [] env S = some ([], S) := by simp only [evs]
theorem es1 {xs : List E} {ds : List D} (hx : ev G x env S = some (a, S1)) (hs : evs G xs env S1 = some (ds, S2)) : evs G (x :: xs) env S = some (a :: ds, S2) := by simp only [evs, hx, hs]
theorem eCall {f : Str} {xs : List E} {ds : List D} {r : D × Sto} (hs : evs G xs env S = some (ds, S1)) (h : G.cl f ds S1 = some r) : ev G (.call f xs) env S = some r := by simp only [ev, hs, h]
theorem eBlt {f : Bf} {xs : List E} {ds : List D} (hs : evs G xs env S = some (ds, S1)) (h : bfun S1 f ds = some d) : ev G (.blt f xs) env S = some (d, S1) := by simp only [ev, hs, h]
theorem eTup {xs : List E} {ds : List D} (hs : evs G xs env S = some (ds, S1)) (h : ds.length ≤ 1000) : ev G (.tup xs) env S = some (.tup ds, S1) := by
  simp only [ev, hs]
  rw [if_pos (show ds.length ≤ sizeLine by rw [sizeLine_eq]; omega)]
theorem eLst {xs : List E} {ds : List D} (hs : evs G xs env S = some (ds, S1)) (h : ds.length ≤ 1000) : ev G (.lst xs) env S = some (.lst ds, S1) := by
  simp only [ev, hs]
  rw [if_pos (show ds.length ≤ sizeLine by rw [sizeLine_eq]; omega)]
theorem eNew {xs : List E} {ds : List D} (hs : evs G xs env S = some (ds, S1)) (h : ds.length ≤ 1000) : ev G (.newl xs) env S = some (.ref S1.length, S1 ++ [.lst ds]) := by
  simp only [ev, hs]
  rw [if_pos (show ds.length ≤ sizeLine by rw [sizeLine_eq]; omega)]
theorem eIx (hx : ev G x env S = some (a, S1)) (hy : ev G y env S1 = some (b, S2)) (h : ixf S2 a b = some d) : ev G (.idx x y) env S = some (d, S2) := by simp only [ev, hx, hy, h]
theorem cN {w : Nat} {e : E} (h : ev G e env S = some (.bl t, S1)) : Ev.cond G e env S = some (t, S1) := by simp only [Ev.cond, h, truth]
/-! statements by parts -/
variable {w i : Nat} {e : E} {ss p q : List T} {env1 : EnvD} {r : Option (Fl × EnvD × Sto)}
theorem xAsg (h : ev G e env S = some (d, S1)) (hs : exs G w ss (env.set i (some d)) S1 = r) : exs G w (.asg (.name i) e :: ss) env S = r := by simp only [exs, ex, h, asgT, hs]
theorem xRet (h : ev G e env S = some (d, S1)) : exs G w (.ret e :: ss) env S = some (.rt d, env, S1) := by simp only [exs, ex, h]
theorem xIfT (h : ev G e env S = some (.bl true, S1)) (h2 : exs G w p env S1 = some (.rt d, env1, S2)) : exs G w (.ife e p q :: ss) env S = some (.rt d, env1, S2) := by simp only [exs, ex, Ev.cond, h, truth, h2]
theorem xIfN (h : ev G e env S = some (.bl t, S1)) (h2 : exs G w (if t then p else q) env S1 = some (.nx, env1, S2)) (hs : exs G w ss env1 S2 = r) : exs G w (.ife e p q :: ss) env S = r := by
  cases t with
  | true => simp only [exs, ex, Ev.cond, h, truth, show exs G w p env S1 = some (.nx, env1, S2) from h2, hs]
  | false => simp only [exs, ex, Ev.cond, h, truth, show exs G w q env S1 = some (.nx, env1, S2) from h2, hs]
theorem xIfF (h : ev G e env S = some (.bl false, S1)) (hs : exs G w ss env S1 = r) : exs G w (.ife e p [] :: ss) env S = r := by simp only [exs, ex, Ev.cond, h, truth, hs]
theorem xNil : exs G w [] env S = some (.nx, env, S) := by simp only [exs]
theorem xExpr (h : ev G e env S = some (d, S1)) (hs : exs G w ss env S1 = r) : exs G w (.expr e :: ss) env S = r := by simp only [exs, ex, h, hs]
theorem xFor {tg : List Nat} {one : Bool} {kd : Nat} {its : List E} {body : List T} {as ds : List D} {gd : Sto → Bool} (h : evs G its env S = some (as, S1)) (h2 : itemsOf S1 kd as = some (ds, gd)) (h3 : forLoop gd (bindT tg one) (exs G w body) ds env S1 = some (.nx, env1, S2)) (hs : exs G w ss env1 S2 = r) :
    exs G w (.for' tg one kd its body :: ss) env S = r := by simp only [exs, ex, h, h2, h3, hs]
theorem xForR {tg : List Nat} {one : Bool} {kd : Nat} {its : List E} {body : List T} {as ds : List D} {gd : Sto → Bool} (h : evs G its env S = some (as, S1)) (h2 : itemsOf S1 kd as = some (ds, gd)) (h3 : forLoop gd (bindT tg one) (exs G w body) ds env S1 = some (.rt d, env1, S2)) :
    exs G w (.for' tg one kd its body :: ss) env S = some (.rt d, env1, S2) := by simp only [exs, ex, h, h2, h3]
theorem xTup {ts : List Tg} {l : List D} (h : ev G e env S = some (.tup l, S1)) (h2 : asgTs G ts l env S1 = some (env1, S2)) (hs : exs G w ss env1 S2 = r) : exs G w (.tup ts e :: ss) env S = r := by simp only [exs, ex, h, h2, hs]
theorem xPar {is : List Nat} {es : List E} {ds : List D} (h : evs G es env S = some (ds, S1)) (h2 : setAll is ds env = some env1) (hs : exs G w ss env1 S1 = r) : exs G w (.par is es :: ss) env S = r := by simp only [exs, ex, h, h2, hs]
theorem xWhile {c : E} {body : List T} (h : whileLoop (Ev.cond G c) (exs G w body) w env S = some (.nx, env1, S1)) (hs : exs G w ss env1 S1 = r) : exs G w (.while' c body :: ss) env S = r := by simp only [exs, ex, h, hs]
theorem xApp {o : E} {n : Nat} {l : List D} (ho : ev G o env S = some (.ref n, S1)) (hL : isL S1 n = true) (he : ev G e env S1 = some (d, S2)) (hl : S2[n]? = some (.lst l)) (hz : l.length ≤ 1000) (hs : exs G w ss env (S2.set n (.lst (l ++ [d]))) = r) : exs G w (.append o e :: ss) env S = r := by
  have h : l.length < sizeLine := by rw [sizeLine_eq]; omega
  simp only [exs, ex, ho, hL, if_true, he, hl, if_pos h, hs]
end
/-! loops over numbers, looked through -/
def dn (n : Nat) : D := .int (n : Int)
def nums (j : Nat) : Nat → List D
  | 0 => []
  | n + 1 => dn j :: nums (j + 1) n
def flP : Option D → Fl
  | some d => .rt d
  | none => .nx
def flF (P : Nat → Option D) : Nat → Nat → Fl
  | 0, _ => .nx
  | n + 1, j => match P j with
    | some d => .rt d
    | none => flF P n (j + 1)
theorem forLoop_find {bd : D → EnvD → Option EnvD} {body : EnvD → Sto → Option (Fl × EnvD × Sto)} {I : EnvD → Prop} {P : Nat → Option D} {hi : Nat}
    (step : ∀ j, j < hi → ∀ env, I env → ∃ env1 env2, bd (dn j) env = some env1 ∧ body env1 S = some (flP (P j), env2, S) ∧ I env2) :
    ∀ (n j : Nat) (env : EnvD), j + n ≤ hi → I env → ∃ env', forLoop (fun _ => true) bd body (nums j n) env S = some (flF P n j, env', S) ∧ (flF P n j = .nx → I env')
  | 0, j, env, h, h2 => ⟨env, by simp only [nums, forLoop, if_true, flF], fun _ => h2⟩
  | n + 1, j, env, h, h2 => by
    obtain ⟨env1, env2, e1, e2, h3⟩ := step j (by omega) env h2
    cases q : P j with
    | some d =>
      rw [q] at e2
      exact ⟨env2, by simp only [nums, forLoop, if_true, e1, e2, flP, flF, q], fun _ => h3⟩
    | none =>
      rw [q] at e2
      obtain ⟨env', e3, h4⟩ := forLoop_find step n (j + 1) env2 (by omega) h3
      refine ⟨env', ?_, ?_⟩
      · simp only [nums, forLoop, if_true, e1, e2, flP, flF, q]
        exact e3
      · simp only [flF, q]
        exact h4
theorem forLoop_fold {bd : D → EnvD → Option EnvD} {body : EnvD → Sto → Option (Fl × EnvD × Sto)} {I : Nat → EnvD → Sto → Prop} {hi : Nat}
    (step : ∀ j, j < hi → ∀ env S, I j env S → ∃ env1 env2 S2, bd (dn j) env = some env1 ∧ body env1 S = some (.nx, env2, S2) ∧ I (j + 1) env2 S2) :
    ∀ (n j : Nat) (env : EnvD) (S : Sto), j + n ≤ hi → I j env S → ∃ env' S', forLoop (fun _ => true) bd body (nums j n) env S = some (.nx, env', S') ∧ I (j + n) env' S'
  | 0, j, env, S, h, h2 => ⟨env, S, by simp only [nums, forLoop, if_true], h2⟩
  | n + 1, j, env, S, h, h2 => by
    obtain ⟨env1, env2, S2, e1, e2, h3⟩ := step j (by omega) env S h2
    obtain ⟨env', S', e3, h4⟩ := forLoop_fold step n (j + 1) env2 S2 (by omega) h3
    refine ⟨env', S', ?_, ?_⟩
    · simp only [nums, forLoop, if_true, e1, e2]
      exact e3
    · rw [show j + (n + 1) = j + 1 + n by omega]
      exact h4
theorem rangeD_nums (n : Nat) : rangeD 0 (n : Int) = nums 0 n := by
  have key : ∀ n j : Nat, (List.range' j n).map (fun i : Nat => D.int (0 + (i : Int))) = nums j n := by
    intro n
    induction n with
    | zero => intro j; rfl
    | succ n ih =>
      intro j
      rw [List.range'_succ, List.map_cons, ih]
      show _ = dn j :: _
      rw [Int.zero_add]
      rfl
  unfold rangeD
  rw [Int.sub_zero, Int.toNat_natCast, List.range_eq_range', key]
theorem mn_eq {ns : List Int} {m : Int} (h : m ∈ ns) (h2 : ∀ y ∈ ns, m ≤ y) : mnI ns = some m := by
  cases q : mnI ns with
  | none =>
    cases ns with
    | nil => cases h
    | cons => cases q
  | some r =>
    obtain ⟨_, h3, h4⟩ := mnI_ok q
    rw [Int.le_antisymm (h4 m h) (h2 r h3)]
theorem mx_eq {ns : List Int} {m : Int} (h : m ∈ ns) (h2 : ∀ y ∈ ns, y ≤ m) : mxI ns = some m := by
  cases q : mxI ns with
  | none =>
    cases ns with
    | nil => cases h
    | cons => cases q
  | some r =>
    obtain ⟨_, h3, h4⟩ := mxI_ok q
    rw [Int.le_antisymm (h2 r h3) (h4 m h)]
theorem toInts_map : ∀ l : List Int, toInts (l.map D.int) = some l
  | [] => rfl
  | i :: l => by simp [toInts, toInt, toInts_map l]
end Ev

namespace Ev
open PySem PySem.Spec PyProof.Rows L2
/-! going through a text forwards: what holds behind -/
inductive WP {α : Type} (m : Option α) (Q : α → Prop) : Prop
  | intro (x : α) (h : m = some x) (q : Q x)
inductive WE (m : Option (D × Sto)) (Q : D → Sto → Prop) : Prop
  | intro (d : D) (S : Sto) (h : m = some (d, S)) (q : Q d S)
inductive WL (m : Option (List D × Sto)) (Q : List D → Sto → Prop) : Prop
  | intro (d : List D) (S : Sto) (h : m = some (d, S)) (q : Q d S)
inductive WX (m : Option (Fl × EnvD × Sto)) (Q : Fl → EnvD → Sto → Prop) : Prop
  | intro (f : Fl) (env : EnvD) (S : Sto) (h : m = some (f, env, S)) (q : Q f env S)
inductive PB (S : Sto) (op : Operator) (a b : D) (Q : D → Prop) : Prop
  | intro (x : D) (h : binS S op a b = some x) (q : Q x)
inductive PC (S : Sto) (op : CmpOp) (a b : D) (Q : Bool → Prop) : Prop
  | intro (x : Bool) (h : cop S op a b = some x) (q : Q x)
inductive PF (S : Sto) (f : Bf) (as : List D) (Q : D → Prop) : Prop
  | intro (x : D) (h : bfun S f as = some x) (q : Q x)
inductive PI (S : Sto) (a b : D) (Q : D → Prop) : Prop
  | intro (x : D) (h : ixf S a b = some x) (q : Q x)
inductive PT (S : Sto) (a : D) (Q : Bool → Prop) : Prop
  | intro (x : Bool) (h : truth S a = some x) (q : Q x)
inductive PL (S : Sto) (a : D) (lo hi : Option Int) (Q : D → Prop) : Prop
  | intro (x : D) (h : slf S a lo hi = some x) (q : Q x)
inductive PR (S : Sto) (k : Nat) (as : List D) (Q : List D → (Sto → Bool) → Prop) : Prop
  | intro (l : List D) (gd : Sto → Bool) (h : itemsOf S k as = some (l, gd)) (q : Q l gd)
inductive XE (G : Gb) (e : E) (env : EnvD) (S : Sto) (Q : D → Sto → Prop) : Prop
  | intro (d : D) (S' : Sto) (h : ev G e env S = some (d, S')) (q : Q d S')
inductive XL (G : Gb) (es : List E) (env : EnvD) (S : Sto) (Q : List D → Sto → Prop) : Prop
  | intro (d : List D) (S' : Sto) (h : evs G es env S = some (d, S')) (q : Q d S')
inductive XS (G : Gb) (w : Nat) (ss : List T) (env : EnvD) (S : Sto) (Q : Fl → EnvD → Sto → Prop) : Prop
  | intro (f : Fl) (env' : EnvD) (S' : Sto) (h : exs G w ss env S = some (f, env', S')) (q : Q f env' S')
inductive XF (gd : Sto → Bool) (tg : List Nat) (one : Bool) (G : Gb) (w : Nat) (body : List T) (ds : List D) (env : EnvD) (S : Sto) (Q : Fl → EnvD → Sto → Prop) : Prop
  | intro (f : Fl) (env' : EnvD) (S' : Sto) (h : forLoop gd (bindT tg one) (exs G w body) ds env S = some (f, env', S')) (q : Q f env' S')
inductive XN (gd : Sto → Bool) (p : Pt) (G : Gb) (w : Nat) (body : List T) (ds : List D) (env : EnvD) (S : Sto) (Q : Fl → EnvD → Sto → Prop) : Prop
  | intro (f : Fl) (env' : EnvD) (S' : Sto) (h : forLoop gd (bindP p) (exs G w body) ds env S = some (f, env', S')) (q : Q f env' S')
inductive XW (G : Gb) (w : Nat) (c : E) (body : List T) (n : Nat) (env : EnvD) (S : Sto) (Q : Fl → EnvD → Sto → Prop) : Prop
  | intro (f : Fl) (env' : EnvD) (S' : Sto) (h : whileLoop (Ev.cond G c) (exs G w body) n env S = some (f, env', S')) (q : Q f env' S')
inductive XG (st : Bool) (gd : Sto → Bool) (tg : List Nat) (one : Bool) (G : Gb) (elt : E) (env : EnvD) (ds : List D) (S : Sto) (Q : Bool → Sto → Prop) : Prop
  | intro (b : Bool) (S' : Sto) (h : genLoop st gd (bindT tg one) (ev G elt) env ds S = some (b, S')) (q : Q b S')
theorem XS.mono {G : Gb} {w : Nat} {ss : List T} {env : EnvD} {S : Sto} {P Q : Fl → EnvD → Sto → Prop} (h : XS G w ss env S P) (q : ∀ f d S, P f d S → Q f d S) : XS G w ss env S Q := by
  obtain ⟨f, d, S, e, p⟩ := h
  exact ⟨f, d, S, e, q f d S p⟩
theorem XE.mono {G : Gb} {x : E} {env : EnvD} {S : Sto} {P Q : D → Sto → Prop} (h : XE G x env S P) (q : ∀ d S, P d S → Q d S) : XE G x env S Q := by
  obtain ⟨d, S, e, p⟩ := h
  exact ⟨d, S, e, q d S p⟩
theorem WP.mk {α : Type} {m : Option α} {Q : α → Prop} {x : α} (h : m = some x) (q : Q x) : WP m Q := ⟨x, h, q⟩
theorem WE.of {m : Option (D × Sto)} {Q : D → Sto → Prop} {d : D} {S : Sto} (h : m = some (d, S)) (q : Q d S) : WE m Q := ⟨d, S, h, q⟩
theorem WL.of {m : Option (List D × Sto)} {Q : List D → Sto → Prop} {d : List D} {S : Sto} (h : m = some (d, S)) (q : Q d S) : WL m Q := ⟨d, S, h, q⟩
theorem WE.mono {m : Option (D × Sto)} {P Q : D → Sto → Prop} (h : WE m P) (q : ∀ d S, P d S → Q d S) : WE m Q := by
  obtain ⟨d, S, e, p⟩ := h
  exact ⟨d, S, e, q d S p⟩
theorem WX.mono {m : Option (Fl × EnvD × Sto)} {P Q : Fl → EnvD → Sto → Prop} (h : WX m P) (q : ∀ f d S, P f d S → Q f d S) : WX m Q := by
  obtain ⟨f, d, S, e, p⟩ := h
  exact ⟨f, d, S, e, q f d S p⟩
theorem WP.mono {α : Type} {m : Option α} {P Q : α → Prop} (h : WP m P) (q : ∀ d, P d → Q d) : WP m Q := by
  obtain ⟨d, e, p⟩ := h
  exact ⟨d, e, q d p⟩
theorem WE.eq {m : Option (D × Sto)} {r : D} {S : Sto} (h : WE m fun d S' => d = r ∧ S' = S) : m = some (r, S) := by
  obtain ⟨d, S', e, rfl, rfl⟩ := h
  exact e
section
variable {G : Gb} {env : EnvD} {S : Sto} {x y z : E} {Q : D → Sto → Prop}
theorem wVar {i : Nat} {d : D} (h : env[i]? = some (some d)) (q : Q d S) : XE G (.var i) env S Q := ⟨d, S, eV h, q⟩
theorem wCst {d : D} (q : Q d S) : XE G (.cst d) env S Q := ⟨d, S, eC, q⟩
theorem wGlob {g : Str} {d : D} (h : G.glb g = some d) (q : Q d S) : XE G (.glob g) env S Q := ⟨d, S, by simp only [ev, h], q⟩
theorem wBin {op : Operator} (h : XE G x env S fun a S1 => XE G y env S1 fun b S2 => PB S2 op a b fun d => Q d S2) : XE G (.bin op x y) env S Q := by
  obtain ⟨a, S1, e1, b, S2, e2, d, e3, q⟩ := h
  exact ⟨d, S2, eB e1 e2 e3, q⟩
theorem wCmp {op : CmpOp} (h : XE G x env S fun a S1 => XE G y env S1 fun b S2 => PC S2 op a b fun t => Q (.bl t) S2) : XE G (.cmp op x y) env S Q := by
  obtain ⟨a, S1, e1, b, S2, e2, t, e3, q⟩ := h
  exact ⟨_, S2, eQ e1 e2 e3, q⟩
theorem wChain {op op' : CmpOp} (h : XE G x env S fun a S1 => XE G y env S1 fun b S2 => PC S2 op a b fun t => (t = false → Q (.bl false) S2) ∧ (t = true → XE G z env S2 fun c S3 => PC S3 op' b c fun u => Q (.bl u) S3)) : XE G (.chain op op' x y z) env S Q := by
  obtain ⟨a, S1, e1, b, S2, e2, t, e3, q⟩ := h
  cases t with
  | false => exact ⟨_, S2, by simp only [ev, e1, e2, e3], q.1 rfl⟩
  | true =>
    obtain ⟨c, S3, e4, u, e5, q⟩ := q.2 rfl
    exact ⟨_, S3, by simp only [ev, e1, e2, e3, e4, e5], q⟩
theorem wNot (h : XE G x env S fun a S1 => PT S1 a fun t => Q (.bl (!t)) S1) : XE G (.not' x) env S Q := by
  obtain ⟨a, S1, e1, t, e2, q⟩ := h
  exact ⟨_, S1, by simp only [ev, e1, e2], q⟩
theorem wNeg (h : XE G x env S fun a S1 => ∃ i, a = .int i ∧ Q (.int (-i)) S1) : XE G (.neg x) env S Q := by
  obtain ⟨a, S1, e1, i, rfl, q⟩ := h
  exact ⟨_, S1, by simp only [ev, e1], q⟩
theorem wInv (h : XE G x env S fun a S1 => ∃ i, a = .int i ∧ Q (.int (Builtin.bitNot i)) S1) : XE G (.inv x) env S Q := by
  obtain ⟨a, S1, e1, i, rfl, q⟩ := h
  exact ⟨_, S1, by simp only [ev, e1], q⟩
theorem wBlen (h : XE G x env S fun a S1 => ∃ i, a = .int i ∧ Q (.int (Builtin.Int.intBits i : Nat)) S1) : XE G (.blen x) env S Q := by
  obtain ⟨a, S1, e1, i, rfl, q⟩ := h
  exact ⟨_, S1, by simp only [ev, e1], q⟩
theorem wAndE (h : XE G x env S fun a S1 => PT S1 a fun t => (t = false → Q a S1) ∧ (t = true → XE G y env S1 Q)) : XE G (.and' x y) env S Q := by
  obtain ⟨a, S1, e1, t, e2, q⟩ := h
  cases t with
  | false => exact ⟨_, S1, by simp only [ev, e1, e2], q.1 rfl⟩
  | true =>
    obtain ⟨c, S3, e4, q⟩ := q.2 rfl
    exact ⟨_, S3, by simp only [ev, e1, e2, e4], q⟩
theorem wOrE (h : XE G x env S fun a S1 => PT S1 a fun t => (t = true → Q a S1) ∧ (t = false → XE G y env S1 Q)) : XE G (.or' x y) env S Q := by
  obtain ⟨a, S1, e1, t, e2, q⟩ := h
  cases t with
  | true => exact ⟨_, S1, by simp only [ev, e1, e2], q.1 rfl⟩
  | false =>
    obtain ⟨c, S3, e4, q⟩ := q.2 rfl
    exact ⟨_, S3, by simp only [ev, e1, e2, e4], q⟩
theorem wIfE (h : XE G x env S fun a S1 => PT S1 a fun t => (t = true → XE G y env S1 Q) ∧ (t = false → XE G z env S1 Q)) : XE G (.ife x y z) env S Q := by
  obtain ⟨a, S1, e1, t, e2, q⟩ := h
  cases t with
  | true =>
    obtain ⟨c, S3, e4, q⟩ := q.1 rfl
    exact ⟨_, S3, by simp only [ev, e1, e2, e4], q⟩
  | false =>
    obtain ⟨c, S3, e4, q⟩ := q.2 rfl
    exact ⟨_, S3, by simp only [ev, e1, e2, e4], q⟩
theorem wNil {Q : List D → Sto → Prop} (q : Q [] S) : XL G [] env S Q := ⟨_, S, es0, q⟩
theorem wCons {xs : List E} {Q : List D → Sto → Prop} (h : XE G x env S fun a S1 => XL G xs env S1 fun ds S2 => Q (a :: ds) S2) : XL G (x :: xs) env S Q := by
  obtain ⟨a, S1, e1, ds, S2, e2, q⟩ := h
  exact ⟨_, S2, es1 e1 e2, q⟩
theorem wCall {f : Str} {xs : List E} (h : XL G xs env S fun ds S1 => WE (G.cl f ds S1) Q) : XE G (.call f xs) env S Q := by
  obtain ⟨ds, S1, e1, d, S2, e2, q⟩ := h
  exact ⟨d, S2, eCall e1 e2, q⟩
theorem wCallk {f : Str} {ks : List Str} {ix : List Nat} {xs : List E} (h : XL G xs env S fun ds S1 => WP (pick ix ds) fun as => WE (G.cl f as S1) Q) : XE G (.callk f ks ix xs) env S Q := by
  obtain ⟨ds, S1, e1, as, e3, d, S2, e2, q⟩ := h
  exact ⟨d, S2, by simp only [ev, e1, e3, e2], q⟩
theorem wCalll {i : Nat} {g : Str} {xs : List E} (h0 : env[i]? = some (some (.fn g))) (h : XL G xs env S fun ds S1 => WE (G.cl g ds S1) Q) : XE G (.calll i xs) env S Q := by
  obtain ⟨ds, S1, e1, d, S2, e2, q⟩ := h
  exact ⟨d, S2, by simp only [ev, h0, e1, e2], q⟩
theorem wBlt {f : Bf} {xs : List E} (h : XL G xs env S fun ds S1 => PF S1 f ds fun d => Q d S1) : XE G (.blt f xs) env S Q := by
  obtain ⟨ds, S1, e1, d, e2, q⟩ := h
  exact ⟨d, S1, eBlt e1 e2, q⟩
theorem wTup {xs : List E} (h : XL G xs env S fun ds S1 => ds.length ≤ 1000 ∧ Q (.tup ds) S1) : XE G (.tup xs) env S Q := by
  obtain ⟨ds, S1, e1, l, q⟩ := h
  exact ⟨_, S1, eTup e1 l, q⟩
theorem wLst {xs : List E} (h : XL G xs env S fun ds S1 => ds.length ≤ 1000 ∧ Q (.lst ds) S1) : XE G (.lst xs) env S Q := by
  obtain ⟨ds, S1, e1, l, q⟩ := h
  exact ⟨_, S1, eLst e1 l, q⟩
theorem wNewl {xs : List E} (h : XL G xs env S fun ds S1 => ds.length ≤ 1000 ∧ Q (.ref S1.length) (S1 ++ [.lst ds])) : XE G (.newl xs) env S Q := by
  obtain ⟨ds, S1, e1, l, q⟩ := h
  exact ⟨_, _, eNew e1 l, q⟩
theorem wNewc {xs : List E} (h : XL G xs env S fun ds S1 => WP (lst1 S1 ds) fun l => Q (.ref S1.length) (S1 ++ [.lst l])) : XE G (.newc xs) env S Q := by
  obtain ⟨ds, S1, e1, l, e2, q⟩ := h
  exact ⟨_, _, by simp only [ev, e1, e2], q⟩
theorem wNewb (h : XE G x env S fun a S1 => XE G y env S1 fun b S2 => WP (catL S2 a b) fun l => Q (.ref S2.length) (S2 ++ [.lst l])) : XE G (.newb x y) env S Q := by
  obtain ⟨a, S1, e1, b, S2, e2, l, e3, q⟩ := h
  exact ⟨_, _, by simp only [ev, e1, e2, e3], q⟩
theorem wNewd {ks : List Key} {xs : List E} (h : XL G xs env S fun ds S1 => ks.length = ds.length ∧ Q (.ref S1.length) (S1 ++ [.dct (putAll [] (ks.zip ds))])) : XE G (.newd ks xs) env S Q := by
  obtain ⟨ds, S1, e1, l, q⟩ := h
  exact ⟨_, _, by simp only [ev, e1, if_pos l], q⟩
theorem wIdx (h : XE G x env S fun a S1 => XE G y env S1 fun b S2 => PI S2 a b fun d => Q d S2) : XE G (.idx x y) env S Q := by
  obtain ⟨a, S1, e1, b, S2, e2, d, e3, q⟩ := h
  exact ⟨d, S2, eIx e1 e2 e3, q⟩
theorem wSlTo {lo : E} (h : XE G x env S fun a S1 => XE G z env S1 fun b S2 => ∃ i, b = .int i ∧ PL S2 a none (some i) fun d => Q d S2) : XE G (.sl x false true lo z) env S Q := by
  obtain ⟨a, S1, e1, b, S2, e2, i, rfl, d, e3, q⟩ := h
  exact ⟨d, S2, by simp only [ev, e1, e2, e3], q⟩
theorem wSlFrom {hi : E} (h : XE G x env S fun a S1 => XE G y env S1 fun b S2 => ∃ i, b = .int i ∧ PL S2 a (some i) none fun d => Q d S2) : XE G (.sl x true false y hi) env S Q := by
  obtain ⟨a, S1, e1, b, S2, e2, i, rfl, d, e3, q⟩ := h
  exact ⟨d, S2, by simp only [ev, e1, e2, e3], q⟩
theorem wSlBoth (h : XE G x env S fun a S1 => XE G y env S1 fun b S2 => ∃ i, b = .int i ∧ XE G z env S2 fun c S3 => ∃ j, c = .int j ∧ PL S3 a (some i) (some j) fun d => Q d S3) : XE G (.sl x true true y z) env S Q := by
  obtain ⟨a, S1, e1, b, S2, e2, i, rfl, c, S3, e3, j, rfl, d, e4, q⟩ := h
  exact ⟨d, S3, by simp only [ev, e1, e2, e3, e4], q⟩
/-- the test of a comprehension -/
def cdF (G : Gb) (fi : Bool) (cd : E) (e : EnvD) (S : Sto) : Option (Bool × Sto) := match fi with
  | false => some (true, S)
  | true => match ev G cd e S with
    | none => none
    | some (x, S1) => match truth S1 x with
      | none => none
      | some t => some (t, S1)
inductive XP (gd : Sto → Bool) (tg : List Nat) (one : Bool) (G : Gb) (fi : Bool) (cd elt : E) (env : EnvD) (ds : List D) (S : Sto) (acc : List D) (Q : List D → Sto → Prop) : Prop
  | intro (l : List D) (S' : Sto) (h : compLoop gd (bindT tg one) (cdF G fi cd) (ev G elt) env ds S acc = some (l, S')) (q : Q l S')
theorem wComp {vs tg : List Nat} {one : Bool} {k : Nat} {its : List E} {fi : Bool} {cd elt : E} (h : XL G its env S fun as S1 => PR S1 k as fun ds gd => XP gd tg one G fi cd elt (wipeD env vs) ds S1 [] fun l S2 => Q (.lst l) S2) : XE G (.comp vs tg one k its fi cd elt) env S Q := by
  obtain ⟨as, S1, e1, ds, gd, e2, l, S2, e3, q⟩ := h
  refine ⟨_, S2, ?_, q⟩
  have e4 : compLoop gd (bindT tg one) (cdF G fi cd) (ev G elt) (wipeD env vs) ds S1 [] = some (l, S2) := e3
  simp only [ev, e1, e2]
  show (match compLoop gd (bindT tg one) (cdF G fi cd) (ev G elt) (wipeD env vs) ds S1 [] with | none => none | some (l, S2) => some (D.lst l, S2)) = _
  rw [e4]
theorem wGen {st one : Bool} {cap : List (Option Nat)} {tg : List Nat} {k : Nat} {its : List E} {elt : E} (h : XL G its env S fun as S1 => PR S1 k as fun ds gd => XG st gd tg one ⟨G.cl1, fun _ _ _ => none, G.glb⟩ elt (capS cap env) ds S1 fun b S2 => Q (.bl b) S2) : XE G (.gen st cap tg one k its elt) env S Q := by
  obtain ⟨as, S1, e1, ds, gd, e2, b, S2, e3, q⟩ := h
  exact ⟨_, S2, by simp only [ev, e1, e2, e3], q⟩
end
/-! statements -/
section
variable {G : Gb} {env : EnvD} {S : Sto} {w : Nat} {e c : E} {ss p q : List T} {Q : Fl → EnvD → Sto → Prop}
theorem exs_app {a b : List T} : exs G w (a ++ b) env S = match exs G w a env S with
    | some (.nx, env1, S1) => exs G w b env1 S1
    | r => r := by
  induction a generalizing env S with
  | nil => simp only [List.nil_append, exs]
  | cons t a ih =>
    simp only [List.cons_append, exs]
    cases h : ex G w t env S with
    | none => simp
    | some r =>
      obtain ⟨f, env1, S1⟩ := r
      cases f <;> simp [ih]
theorem yNil (h : Q .nx env S) : XS G w [] env S Q := ⟨_, _, _, xNil, h⟩
theorem yAsg {i : Nat} (h : XE G e env S fun d S1 => XS G w ss (env.set i (some d)) S1 Q) : XS G w (.asg (.name i) e :: ss) env S Q := by
  obtain ⟨d, S1, e1, f, env2, S2, e2, h⟩ := h
  exact ⟨f, env2, S2, xAsg e1 e2, h⟩
theorem yRet (h : XE G e env S fun d S1 => Q (.rt d) env S1) : XS G w (.ret e :: ss) env S Q := by
  obtain ⟨d, S1, e1, h⟩ := h
  exact ⟨_, _, _, xRet e1, h⟩
theorem yRetN (h : Q (.rt .non) env S) : XS G w (.retN :: ss) env S Q := ⟨_, _, _, by simp only [exs, ex], h⟩
theorem yPass (h : XS G w ss env S Q) : XS G w (.pass :: ss) env S Q := by
  obtain ⟨f, e1, S1, h, q⟩ := h
  exact ⟨f, e1, S1, by simp only [exs, ex, h], q⟩
theorem yBrk (h : Q .bk env S) : XS G w (.brk :: ss) env S Q := ⟨_, _, _, by simp only [exs, ex], h⟩
theorem yCont (h : Q .ct env S) : XS G w (.cont :: ss) env S Q := ⟨_, _, _, by simp only [exs, ex], h⟩
theorem yExpr (h : XE G e env S fun _ S1 => XS G w ss env S1 Q) : XS G w (.expr e :: ss) env S Q := by
  obtain ⟨d, S1, e1, f, env2, S2, e2, h⟩ := h
  exact ⟨f, env2, S2, xExpr e1 e2, h⟩
theorem yIf (h : XE G c env S fun x S1 => PT S1 x fun t => (t = true → XS G w (p ++ ss) env S1 Q) ∧ (t = false → XS G w (q ++ ss) env S1 Q)) : XS G w (.ife c p q :: ss) env S Q := by
  obtain ⟨x, S1, e1, t, e2, h⟩ := h
  have key : ∀ r : List T, exs G w (.ife c p q :: ss) env S = match exs G w (bif t then p else q) env S1 with
    | some (.nx, env1, S1) => exs G w ss env1 S1
    | r => r := fun r => by
    cases t
    · simp only [exs, ex, Ev.cond, e1, e2, cond_false]
      cases exs G w q env S1 with
      | none => rfl
      | some r => obtain ⟨f, b, c⟩ := r; cases f <;> rfl
    · simp only [exs, ex, Ev.cond, e1, e2, cond_true]
      cases exs G w p env S1 with
      | none => rfl
      | some r => obtain ⟨f, b, c⟩ := r; cases f <;> rfl
  cases t with
  | true =>
    obtain ⟨f, env2, S2, e3, q⟩ := h.1 rfl
    exact ⟨f, env2, S2, by rw [key [], cond_true, ← exs_app]; exact e3, q⟩
  | false =>
    obtain ⟨f, env2, S2, e3, q⟩ := h.2 rfl
    exact ⟨f, env2, S2, by rw [key [], cond_false, ← exs_app]; exact e3, q⟩
/-- both ways meet again -/
theorem yIfJ (J : EnvD → Sto → Prop) (h : XE G c env S fun x S1 => PT S1 x fun t => (t = true → XS G w p env S1 fun f env2 S2 => f = .nx ∧ J env2 S2) ∧ (t = false → XS G w q env S1 fun f env2 S2 => f = .nx ∧ J env2 S2)) (h2 : ∀ env2 S2, J env2 S2 → XS G w ss env2 S2 Q) : XS G w (.ife c p q :: ss) env S Q := by
  refine yIf ?_
  obtain ⟨x, S1, e1, t, e2, h⟩ := h
  refine ⟨x, S1, e1, t, e2, fun ht => ?_, fun ht => ?_⟩
  · obtain ⟨f, env2, S2, e3, rfl, j⟩ := h.1 ht
    obtain ⟨f, env3, S3, e4, q⟩ := h2 _ _ j
    exact ⟨f, env3, S3, by rw [exs_app, e3]; exact e4, q⟩
  · obtain ⟨f, env2, S2, e3, rfl, j⟩ := h.2 ht
    obtain ⟨f, env3, S3, e4, q⟩ := h2 _ _ j
    exact ⟨f, env3, S3, by rw [exs_app, e3]; exact e4, q⟩
/-- behind a loop -/
inductive LQ (G : Gb) (w : Nat) (ss : List T) (Q : Fl → EnvD → Sto → Prop) : Fl → EnvD → Sto → Prop
  | nx {env : EnvD} {S : Sto} (h : XS G w ss env S Q) : LQ G w ss Q .nx env S
  | rt {d : D} {env : EnvD} {S : Sto} (h : Q (.rt d) env S) : LQ G w ss Q (.rt d) env S
theorem yFor {tg : List Nat} {one : Bool} {kd : Nat} {its : List E} {body : List T} (h : XL G its env S fun as S1 => PR S1 kd as fun ds gd => XF gd tg one G w body ds env S1 (LQ G w ss Q)) : XS G w (.for' tg one kd its body :: ss) env S Q := by
  obtain ⟨as, S1, e1, ds, gd, e2, f, env1, S2, e3, h⟩ := h
  cases h with
  | nx h =>
    obtain ⟨f, env3, S3, e4, q⟩ := h
    exact ⟨f, env3, S3, xFor e1 e2 e3 e4, q⟩
  | rt h => exact ⟨_, _, _, xForR e1 e2 e3, h⟩
theorem yForN {p : Pt} {kd : Nat} {its : List E} {body : List T} (h : XL G its env S fun as S1 => PR S1 kd as fun ds gd => XN gd p G w body ds env S1 (LQ G w ss Q)) : XS G w (.forN p kd its body :: ss) env S Q := by
  obtain ⟨as, S1, e1, ds, gd, e2, f, env1, S2, e3, h⟩ := h
  cases h with
  | nx h =>
    obtain ⟨f, env3, S3, e4, q⟩ := h
    exact ⟨f, env3, S3, by simp only [exs, ex, e1, e2, e3, e4], q⟩
  | rt h => exact ⟨_, _, _, by simp only [exs, ex, e1, e2, e3], h⟩
theorem yTup {ts : List Tg} (h : XE G e env S fun d S1 => ∃ l, d = .tup l ∧ WP (asgTs G ts l env S1) fun r => XS G w ss r.1 r.2 Q) : XS G w (.tup ts e :: ss) env S Q := by
  obtain ⟨d, S1, e1, l, rfl, ⟨env1, S2⟩, e2, f, env3, S3, e4, q⟩ := h
  exact ⟨f, env3, S3, xTup e1 e2 e4, q⟩
theorem yPar {is : List Nat} {es : List E} (h : XL G es env S fun ds S1 => WP (setAll is ds env) fun env1 => XS G w ss env1 S1 Q) : XS G w (.par is es :: ss) env S Q := by
  obtain ⟨ds, S1, e1, env1, e2, f, env3, S3, e4, q⟩ := h
  exact ⟨f, env3, S3, xPar e1 e2 e4, q⟩
theorem yAug {i : Nat} {op : Operator} {a : D} (h0 : env[i]? = some (some a)) (h : XE G e env S fun b S1 => WP (augF op a b) fun d => XS G w ss (env.set i (some d)) S1 Q) : XS G w (.aug i op e :: ss) env S Q := by
  obtain ⟨b, S1, e1, d, e2, f, env3, S3, e4, q⟩ := h
  exact ⟨f, env3, S3, by simp only [exs, ex, h0, e1, e2, e4], q⟩
theorem yApp {o : E} (h : XE G o env S fun a S1 => ∃ n, a = .ref n ∧ isL S1 n = true ∧ XE G e env S1 fun d S2 => ∃ l, S2[n]? = some (.lst l) ∧ l.length ≤ 1000 ∧ XS G w ss env (S2.set n (.lst (l ++ [d]))) Q) : XS G w (.append o e :: ss) env S Q := by
  obtain ⟨a, S1, e1, n, rfl, hL, d, S2, e2, l, hl, hz, f, env3, S3, e4, q⟩ := h
  exact ⟨f, env3, S3, xApp e1 hL e2 hl hz e4, q⟩
theorem ySub {o i : E} (h : XE G e env S fun d S1 => XE G o env S1 fun a S2 => ∃ n, a = .ref n ∧ XE G i env S2 fun b S3 => ∃ j l, b = .int j ∧ S3[n]? = some (.lst l) ∧ WP (ixN l.length j) fun m => XS G w ss env (S3.set n (.lst (l.set m d))) Q) : XS G w (.asg (.sub o i) e :: ss) env S Q := by
  obtain ⟨d, S1, e1, a, S2, e2, n, rfl, b, S3, e3, j, l, rfl, e4, m, e5, f, env3, S4, e6, q⟩ := h
  exact ⟨f, env3, S4, by simp only [exs, ex, e1, asgT, e2, e3, e4, e5, e6], q⟩
theorem yWhile {body : List T} (h : XW G w c body w env S (LQ G w ss Q)) : XS G w (.while' c body :: ss) env S Q := by
  obtain ⟨f, env1, S1, e1, h⟩ := h
  cases h with
  | nx h =>
    obtain ⟨f, env3, S3, e4, q⟩ := h
    exact ⟨f, env3, S3, xWhile e1 e4, q⟩
  | rt h => exact ⟨_, _, _, by simp only [exs, ex, e1], h⟩
end
section
variable {gd : Sto → Bool} {tg : List Nat} {one : Bool} {G : Gb} {w : Nat} {body : List T} {ds : List D} {d : D} {env : EnvD} {S : Sto} {Q : Fl → EnvD → Sto → Prop}
theorem XF.mono {P : Fl → EnvD → Sto → Prop} (h : XF gd tg one G w body ds env S P) (q : ∀ f d S, P f d S → Q f d S) : XF gd tg one G w body ds env S Q := by
  obtain ⟨f, d, S, e, p⟩ := h
  exact ⟨f, d, S, e, q f d S p⟩
theorem xfNil (hg : gd S = true) (q : Q .nx env S) : XF gd tg one G w body [] env S Q := ⟨.nx, env, S, by simp only [forLoop, hg, if_true], q⟩
/-- what follows a turn -/
inductive TQ (gd : Sto → Bool) (tg : List Nat) (one : Bool) (G : Gb) (w : Nat) (body : List T) (ds : List D) (Q : Fl → EnvD → Sto → Prop) : Fl → EnvD → Sto → Prop
  | nx {env : EnvD} {S : Sto} (h : XF gd tg one G w body ds env S Q) : TQ gd tg one G w body ds Q .nx env S
  | ct {env : EnvD} {S : Sto} (h : XF gd tg one G w body ds env S Q) : TQ gd tg one G w body ds Q .ct env S
  | bk {env : EnvD} {S : Sto} (h : Q .nx env S) : TQ gd tg one G w body ds Q .bk env S
  | rt {d : D} {env : EnvD} {S : Sto} (h : Q (.rt d) env S) : TQ gd tg one G w body ds Q (.rt d) env S
theorem xfCons (hg : gd S = true) (h : WP (bindT tg one d env) fun env1 => XS G w body env1 S (TQ gd tg one G w body ds Q)) : XF gd tg one G w body (d :: ds) env S Q := by
  obtain ⟨env1, e1, f, env2, S2, e2, q⟩ := h
  cases q with
  | nx q =>
    obtain ⟨f, env3, S3, e3, q⟩ := q
    exact ⟨f, env3, S3, by simp only [forLoop, hg, if_true, e1, e2]; exact e3, q⟩
  | ct q =>
    obtain ⟨f, env3, S3, e3, q⟩ := q
    exact ⟨f, env3, S3, by simp only [forLoop, hg, if_true, e1, e2]; exact e3, q⟩
  | bk q => exact ⟨.nx, env2, S2, by simp only [forLoop, hg, if_true, e1, e2], q⟩
  | rt q => exact ⟨_, env2, S2, by simp only [forLoop, hg, if_true, e1, e2], q⟩
theorem tqN (h : XF gd tg one G w body ds env S Q) : TQ gd tg one G w body ds Q .nx env S := .nx h
theorem tqC (h : XF gd tg one G w body ds env S Q) : TQ gd tg one G w body ds Q .ct env S := .ct h
theorem tqB (h : Q .nx env S) : TQ gd tg one G w body ds Q .bk env S := .bk h
theorem tqR (h : Q (.rt d) env S) : TQ gd tg one G w body ds Q (.rt d) env S := .rt h
section
variable {p : Pt}
theorem xnNil (hg : gd S = true) (q : Q .nx env S) : XN gd p G w body [] env S Q := ⟨.nx, env, S, by simp only [forLoop, hg, if_true], q⟩
inductive NQ (gd : Sto → Bool) (p : Pt) (G : Gb) (w : Nat) (body : List T) (ds : List D) (Q : Fl → EnvD → Sto → Prop) : Fl → EnvD → Sto → Prop
  | nx {env : EnvD} {S : Sto} (h : XN gd p G w body ds env S Q) : NQ gd p G w body ds Q .nx env S
  | ct {env : EnvD} {S : Sto} (h : XN gd p G w body ds env S Q) : NQ gd p G w body ds Q .ct env S
  | bk {env : EnvD} {S : Sto} (h : Q .nx env S) : NQ gd p G w body ds Q .bk env S
  | rt {d : D} {env : EnvD} {S : Sto} (h : Q (.rt d) env S) : NQ gd p G w body ds Q (.rt d) env S
theorem xnCons (hg : gd S = true) (h : WP (bindP p d env) fun env1 => XS G w body env1 S (NQ gd p G w body ds Q)) : XN gd p G w body (d :: ds) env S Q := by
  obtain ⟨env1, e1, f, env2, S2, e2, q⟩ := h
  cases q with
  | nx q =>
    obtain ⟨f, env3, S3, e3, q⟩ := q
    exact ⟨f, env3, S3, by simp only [forLoop, hg, if_true, e1, e2]; exact e3, q⟩
  | ct q =>
    obtain ⟨f, env3, S3, e3, q⟩ := q
    exact ⟨f, env3, S3, by simp only [forLoop, hg, if_true, e1, e2]; exact e3, q⟩
  | bk q => exact ⟨.nx, env2, S2, by simp only [forLoop, hg, if_true, e1, e2], q⟩
  | rt q => exact ⟨_, env2, S2, by simp only [forLoop, hg, if_true, e1, e2], q⟩
theorem nqN (h : XN gd p G w body ds env S Q) : NQ gd p G w body ds Q .nx env S := .nx h
theorem nqC (h : XN gd p G w body ds env S Q) : NQ gd p G w body ds Q .ct env S := .ct h
theorem nqB (h : Q .nx env S) : NQ gd p G w body ds Q .bk env S := .bk h
theorem nqR (h : Q (.rt d) env S) : NQ gd p G w body ds Q (.rt d) env S := .rt h
end
/-- by what stands ahead of each turn -/
theorem xfInv (I : List D → EnvD → Sto → Prop) (hg : ∀ ds env S, I ds env S → gd S = true)
    (st : ∀ d ds env S, I (d :: ds) env S → WP (bindT tg one d env) fun env1 => XS G w body env1 S fun f env2 S2 => match f with
      | .nx => I ds env2 S2
      | .ct => I ds env2 S2
      | .bk => Q .nx env2 S2
      | .rt r => Q (.rt r) env2 S2) (fin : ∀ env S, I [] env S → Q .nx env S) : ∀ {ds : List D} {env : EnvD} {S : Sto}, I ds env S → XF gd tg one G w body ds env S Q
  | [], env, S, h => xfNil (hg _ _ _ h) (fin env S h)
  | d :: ds, env, S, h => by
    refine xfCons (hg _ _ _ h) ((st d ds env S h).mono fun env1 h1 => h1.mono fun f env2 S2 q => ?_)
    cases f with
    | nx => exact .nx (xfInv I hg st fin q)
    | ct => exact .ct (xfInv I hg st fin q)
    | bk => exact .bk q
    | rt r => exact .rt q
end
section
variable {gd : Sto → Bool} {tg : List Nat} {one : Bool} {G : Gb} {fi : Bool} {cd elt : E} {ds acc : List D} {d : D} {env : EnvD} {S : Sto} {Q : List D → Sto → Prop}
theorem xpNil (hg : gd S = true) (q : Q acc S) : XP gd tg one G fi cd elt env [] S acc Q := ⟨acc, S, by simp only [compLoop, hg, if_true], q⟩
theorem xpCons (hg : gd S = true) (hl : acc.length < 1000) (h : WP (bindT tg one d env) fun env1 => XE G elt env1 S fun x S2 => XP gd tg one G false cd elt env ds S2 (acc ++ [x]) Q) : XP gd tg one G false cd elt env (d :: ds) S acc Q := by
  obtain ⟨env1, e1, x, S2, e2, l, S3, e3, q⟩ := h
  have hz : acc.length < sizeLine := by rw [sizeLine_eq]; omega
  exact ⟨l, S3, by simp only [compLoop, hg, if_true, e1, cdF, e2, if_pos hz]; exact e3, q⟩
theorem xpConsIf (hg : gd S = true) (hl : acc.length < 1000) (h : WP (bindT tg one d env) fun env1 => XE G cd env1 S fun c S1 => PT S1 c fun t => (t = true → XE G elt env1 S1 fun x S2 => XP gd tg one G true cd elt env ds S2 (acc ++ [x]) Q) ∧ (t = false → XP gd tg one G true cd elt env ds S1 acc Q)) : XP gd tg one G true cd elt env (d :: ds) S acc Q := by
  obtain ⟨env1, e1, c, S1, e2, t, e3, h⟩ := h
  have hz : acc.length < sizeLine := by rw [sizeLine_eq]; omega
  cases t with
  | true =>
    obtain ⟨x, S2, e4, l, S3, e5, q⟩ := h.1 rfl
    exact ⟨l, S3, by simp only [compLoop, hg, if_true, e1, cdF, e2, e3, e4, if_pos hz]; exact e5, q⟩
  | false =>
    obtain ⟨l, S3, e5, q⟩ := h.2 rfl
    exact ⟨l, S3, by simp only [compLoop, hg, if_true, e1, cdF, e2, e3]; exact e5, q⟩
end
section
variable {st : Bool} {gd : Sto → Bool} {tg : List Nat} {one : Bool} {G : Gb} {elt : E} {ds : List D} {d : D} {env : EnvD} {S : Sto} {Q : Bool → Sto → Prop}
theorem xgNil (hg : gd S = true) (q : Q (!st) S) : XG st gd tg one G elt env [] S Q := ⟨_, S, by simp only [genLoop, hg, if_true], q⟩
theorem xgCons (hg : gd S = true) (h : WP (bindT tg one d env) fun env1 => XE G elt env1 S fun x S2 => ∃ b, x = .bl b ∧ (b = st → Q st S2) ∧ (b ≠ st → XG st gd tg one G elt env ds S2 Q)) : XG st gd tg one G elt env (d :: ds) S Q := by
  obtain ⟨env1, e1, x, S2, e2, b, rfl, h1, h2⟩ := h
  by_cases z : b = st
  · exact ⟨st, S2, by simp only [genLoop, hg, if_true, e1, e2, if_pos z], h1 z⟩
  · obtain ⟨b2, S3, e3, q⟩ := h2 z
    exact ⟨b2, S3, by simp only [genLoop, hg, if_true, e1, e2, if_neg z]; exact e3, q⟩
end
section
variable {G : Gb} {w n : Nat} {c : E} {body : List T} {env : EnvD} {S : Sto} {Q : Fl → EnvD → Sto → Prop}
theorem xwStep (h : XE G c env S fun x S1 => PT S1 x fun t => (t = false → Q .nx env S1) ∧ (t = true → XS G w body env S1 fun f env2 S2 => match f with
      | .nx => XW G w c body n env2 S2 Q
      | .ct => XW G w c body n env2 S2 Q
      | .bk => Q .nx env2 S2
      | .rt r => Q (.rt r) env2 S2)) : XW G w c body (n + 1) env S Q := by
  obtain ⟨x, S1, e1, t, e2, h⟩ := h
  have e3 : Ev.cond G c env S = some (t, S1) := by simp only [Ev.cond, e1, e2]
  cases t with
  | false => exact ⟨.nx, env, S1, by simp only [whileLoop, e3], h.1 rfl⟩
  | true =>
    obtain ⟨f, env2, S2, e4, q⟩ := h.2 rfl
    cases f with
    | nx =>
      obtain ⟨f, env3, S3, e5, q⟩ := q
      exact ⟨f, env3, S3, by simp only [whileLoop, e3, e4]; exact e5, q⟩
    | ct =>
      obtain ⟨f, env3, S3, e5, q⟩ := q
      exact ⟨f, env3, S3, by simp only [whileLoop, e3, e4]; exact e5, q⟩
    | bk => exact ⟨.nx, env2, S2, by simp only [whileLoop, e3, e4], q⟩
    | rt d => exact ⟨.rt d, env2, S2, by simp only [whileLoop, e3, e4], q⟩
end
/-- what a def tells -/
inductive RQ (Q : D → Sto → Prop) : Fl → EnvD → Sto → Prop
  | rt {r : D} {env : EnvD} {S : Sto} (h : Q r S) : RQ Q (.rt r) env S
  | nx {env : EnvD} {S : Sto} (h : Q .non S) : RQ Q .nx env S
theorem wFn {df : Str → Option Df} {gl : Str → Option D} {w k : Nat} {f : Str} {d : Df} {as : List D} {S : Sto} {Q : D → Sto → Prop} (h : df f = some d) (hl : as.length = d.ps.length)
    (hb : XS ⟨callN df gl w k, callN df gl w (k - 1), gl⟩ w d.body (startD d as) S (RQ Q)) : WE (callN df gl w (k + 1) f as S) Q := by
  obtain ⟨f, env, S1, e, q⟩ := hb
  cases q with
  | rt q => exact ⟨_, S1, by rw [call_eq h hl, e], q⟩
  | nx q => exact ⟨.non, S1, by rw [call_eq h hl, e], q⟩
/-! what reckoning tells -/
section
variable {S : Sto} {a b : Nat}
theorem pEq {α : Type} {m : Option α} {x : α} {Q : α → Prop} (h : m = some x) (q : Q x) : WP m Q := ⟨x, h, q⟩
theorem tBl {t : Bool} {Q : Bool → Prop} (q : Q t) : PT S (.bl t) Q := ⟨t, rfl, q⟩
theorem ifT {t : Bool} {A B : Prop} (h : t = true) (a : A) : (t = true → A) ∧ (t = false → B) := ⟨fun _ => a, fun h2 => (nomatch h.symm.trans h2)⟩
theorem ifF {t : Bool} {A B : Prop} (h : t = false) (b : B) : (t = true → A) ∧ (t = false → B) := ⟨fun h2 => (nomatch h.symm.trans h2), fun _ => b⟩
theorem ifD {p : Prop} [Decidable p] {A B : Prop} (h1 : p → A) (h2 : ¬p → B) : (decide p = true → A) ∧ (decide p = false → B) := ⟨fun h => h1 (of_decide_eq_true h), fun h => h2 (of_decide_eq_false h)⟩
theorem ifT' {t : Bool} {A B : Prop} (h : t = true) (a : A) : (t = false → B) ∧ (t = true → A) := ⟨fun h2 => (nomatch h.symm.trans h2), fun _ => a⟩
theorem ifF' {t : Bool} {A B : Prop} (h : t = false) (b : B) : (t = false → B) ∧ (t = true → A) := ⟨fun _ => b, fun h2 => (nomatch h.symm.trans h2)⟩
theorem ifD' {p : Prop} [Decidable p] {A B : Prop} (h1 : p → A) (h2 : ¬p → B) : (decide p = false → B) ∧ (decide p = true → A) := ⟨fun h => h2 (of_decide_eq_false h), fun h => h1 (of_decide_eq_true h)⟩
theorem ifB {t : Bool} {A B : Prop} (h1 : t = true → A) (h2 : t = false → B) : (t = true → A) ∧ (t = false → B) := ⟨h1, h2⟩
theorem ifN {p : Prop} [Decidable p] {A B : Prop} (h1 : ¬p → A) (h2 : p → B) : ((!decide p) = true → A) ∧ ((!decide p) = false → B) := ⟨fun h => h1 (by simpa using h), fun h => h2 (by simpa using h)⟩
theorem ifN' {p : Prop} [Decidable p] {A B : Prop} (h1 : ¬p → A) (h2 : p → B) : ((!decide p) = false → B) ∧ ((!decide p) = true → A) := ⟨fun h => h2 (by simpa using h), fun h => h1 (by simpa using h)⟩
theorem binZ {op : Operator} {i j z : Int} (h : ibop op i j = some z) : binS S op (.int i) (.int j) = some (.int z) := by simp [binS, bop, h]
theorem rAdd : binS S .Add (dn a) (dn b) = some (dn (a + b)) := binZ (by simp [ibop])
theorem rSub (h : b ≤ a) : binS S .Sub (dn a) (dn b) = some (dn (a - b)) := binZ (by
  simp only [ibop]
  rw [Int.ofNat_sub h])
theorem rMul (h : a < 18446744073709551616 ∨ b < 18446744073709551616) : binS S .Mult (dn a) (dn b) = some (dn (a * b)) := binZ (by
  simp only [ibop]
  rw [if_pos (by rcases h with h | h; exact .inl ⟨by omega, by omega⟩; exact .inr ⟨by omega, by omega⟩)]
  simp)
theorem rMod (h : 0 < b) : binS S .Mod (dn a) (dn b) = some (dn (a % b)) := binZ (by
  simp only [ibop]
  rw [if_pos (by omega)]
  simp)
theorem rDiv (h : 0 < b) (h2 : b < 1073741824) : binS S .FloorDiv (dn a) (dn b) = some (dn (a / b)) := binZ (by
  simp only [ibop]
  rw [if_pos (by omega)]
  simp)
theorem rShl (h : a < 18446744073709551616) (h2 : b ≤ 1000000) : binS S .LShift (dn a) (dn b) = some (dn (a <<< b)) := binZ (by
  simp only [ibop]
  rw [if_pos ⟨by omega, by omega, by rw [Int.natAbs_natCast]; exact h⟩, Int.toNat_natCast, Nat.shiftLeft_eq]
  simp)
theorem rShr : binS S .RShift (dn a) (dn b) = some (dn (a >>> b)) := binZ (by
  simp only [ibop]
  rw [if_pos (by omega), Int.toNat_natCast, Nat.shiftRight_eq_div_pow]
  simp)
theorem rAnd : binS S .BitAnd (dn a) (dn b) = some (dn (a &&& b)) := binZ (by
  simp only [ibop]
  rw [bitAnd_pp (by omega) (by omega), Int.toNat_natCast, Int.toNat_natCast])
theorem rOr : binS S .BitOr (dn a) (dn b) = some (dn (a ||| b)) := binZ (by
  simp only [ibop]
  rw [Bits.bitOr_pp (by omega) (by omega), Int.toNat_natCast, Int.toNat_natCast])
theorem rXor : binS S .BitXor (dn a) (dn b) = some (dn (a ^^^ b)) := binZ (by
  simp only [ibop]
  rw [Bits.bitXor_pp (by omega) (by omega), Int.toNat_natCast, Int.toNat_natCast])
theorem dec_iff {p q : Prop} [Decidable p] [Decidable q] (h : p ↔ q) : decide p = decide q := by
  by_cases hp : p
  · rw [decide_eq_true hp, decide_eq_true (h.mp hp)]
  · rw [decide_eq_false hp, decide_eq_false fun z => hp (h.mpr z)]
theorem cLt : cop S .Lt (dn a) (dn b) = some (decide (a < b)) := congrArg some (dec_iff (by omega))
theorem cLe : cop S .LtE (dn a) (dn b) = some (decide (a ≤ b)) := congrArg some (dec_iff (by omega))
theorem cGt : cop S .Gt (dn a) (dn b) = some (decide (b < a)) := congrArg some (dec_iff (by omega))
theorem cGe : cop S .GtE (dn a) (dn b) = some (decide (b ≤ a)) := congrArg some (dec_iff (by omega))
theorem cEq : cop S .Eq (dn a) (dn b) = some (decide (a = b)) := congrArg some (dec_iff (by omega))
theorem cNe : cop S .NotEq (dn a) (dn b) = some (!decide (a = b)) := congrArg some (congrArg not (dec_iff (by omega)))
theorem cStr {s t : Str} : cop S .Eq (.str s) (.str t) = some (decide (s = t)) := rfl
theorem cStrN {s t : Str} : cop S .NotEq (.str s) (.str t) = some (!decide (s = t)) := rfl
theorem xTupI {l : List D} {i : Nat} {d : D} (h : l[i]? = some d) : ixf S (.tup l) (dn i) = some d := by
  have hl : i < l.length := (List.getElem?_eq_some_iff.mp h).1
  simp only [ixf, dn, seqOf, Option.bind_some, atD, atI, ixN]
  rw [if_pos (by omega), if_pos (by omega)]
  simpa using h
theorem xLstI {l : List D} {i : Nat} {d : D} (h : l[i]? = some d) : ixf S (.lst l) (dn i) = some d := by
  have hl : i < l.length := (List.getElem?_eq_some_iff.mp h).1
  simp only [ixf, dn, seqOf, Option.bind_some, atD, atI, ixN]
  rw [if_pos (by omega), if_pos (by omega)]
  simpa using h
theorem xRefI {r : Nat} {l : List D} {i : Nat} {d : D} (hr : S[r]? = some (.lst l)) (h : l[i]? = some d) : ixf S (.ref r) (dn i) = some d := by
  have hl : i < l.length := (List.getElem?_eq_some_iff.mp h).1
  simp only [ixf, dn, hr, Option.bind_some, atD, atI, ixN]
  rw [if_pos (by omega), if_pos (by omega)]
  simpa using h
theorem lenT {l : List D} : bfun S .len [.tup l] = some (dn l.length) := rfl
theorem lenL {l : List D} : bfun S .len [.lst l] = some (dn l.length) := rfl
theorem lenR {r : Nat} {l : List D} (h : S[r]? = some (.lst l)) : bfun S .len [.ref r] = some (dn l.length) := by simp only [bfun, seqOf, h]; rfl
theorem tupR {r : Nat} {l : List D} (h : S[r]? = some (.lst l)) : bfun S .tuple [.ref r] = some (.tup l) := by simp only [bfun, seqOf, h]; rfl
theorem intN : bfun S .int [dn a] = some (dn a) := rfl
theorem intB {t : Bool} : bfun S .int [.bl t] = some (dn (if t then 1 else 0)) := by cases t <;> rfl
theorem minN : bfun S .min [dn a, dn b] = some (dn (min a b)) := by
  show some (D.int (if (b : Int) < a then (b : Int) else a)) = some (D.int ((min a b : Nat) : Int))
  congr 2
  split <;> omega
theorem maxN : bfun S .max [dn a, dn b] = some (dn (max a b)) := by
  show some (D.int (if (b : Int) > a then (b : Int) else a)) = some (D.int ((max a b : Nat) : Int))
  congr 2
  split <;> omega
theorem catT {l m : List D} (h : l.length + m.length ≤ 1000) : binS S .Add (.tup l) (.tup m) = some (.tup (l ++ m)) := by
  have h : l.length + m.length ≤ sizeLine := by rw [sizeLine_eq]; omega
  simp only [binS, bop, if_pos h]
theorem catLL {l m : List D} (h : l.length + m.length ≤ 1000) : binS S .Add (.lst l) (.lst m) = some (.lst (l ++ m)) := by
  have h : l.length + m.length ≤ sizeLine := by rw [sizeLine_eq]; omega
  simp only [binS, bop, if_pos h]
section
variable {Q : D → Prop} {P : Bool → Prop}
theorem pAdd (q : Q (dn (a + b))) : PB S .Add (dn a) (dn b) Q := ⟨_, rAdd, q⟩
theorem pSub (h : b ≤ a) (q : Q (dn (a - b))) : PB S .Sub (dn a) (dn b) Q := ⟨_, rSub h, q⟩
theorem pMul (h : a < 18446744073709551616 ∨ b < 18446744073709551616) (q : Q (dn (a * b))) : PB S .Mult (dn a) (dn b) Q := ⟨_, rMul h, q⟩
theorem pMod (h : 0 < b) (q : Q (dn (a % b))) : PB S .Mod (dn a) (dn b) Q := ⟨_, rMod h, q⟩
theorem pDiv (h : 0 < b) (h2 : b < 1073741824) (q : Q (dn (a / b))) : PB S .FloorDiv (dn a) (dn b) Q := ⟨_, rDiv h h2, q⟩
theorem pShl (h : a < 18446744073709551616) (h2 : b ≤ 1000000) (q : Q (dn (a <<< b))) : PB S .LShift (dn a) (dn b) Q := ⟨_, rShl h h2, q⟩
theorem pShr (q : Q (dn (a >>> b))) : PB S .RShift (dn a) (dn b) Q := ⟨_, rShr, q⟩
theorem pAnd (q : Q (dn (a &&& b))) : PB S .BitAnd (dn a) (dn b) Q := ⟨_, rAnd, q⟩
theorem pOr (q : Q (dn (a ||| b))) : PB S .BitOr (dn a) (dn b) Q := ⟨_, rOr, q⟩
theorem pXor (q : Q (dn (a ^^^ b))) : PB S .BitXor (dn a) (dn b) Q := ⟨_, rXor, q⟩
theorem pCatT {l m : List D} (h : l.length + m.length ≤ 1000) (q : Q (.tup (l ++ m))) : PB S .Add (.tup l) (.tup m) Q := ⟨_, catT h, q⟩
theorem pCatL {l m : List D} (h : l.length + m.length ≤ 1000) (q : Q (.lst (l ++ m))) : PB S .Add (.lst l) (.lst m) Q := ⟨_, catLL h, q⟩
theorem pLt (q : P (decide (a < b))) : PC S .Lt (dn a) (dn b) P := ⟨_, cLt, q⟩
theorem pLe (q : P (decide (a ≤ b))) : PC S .LtE (dn a) (dn b) P := ⟨_, cLe, q⟩
theorem pGt (q : P (decide (b < a))) : PC S .Gt (dn a) (dn b) P := ⟨_, cGt, q⟩
theorem pGe (q : P (decide (b ≤ a))) : PC S .GtE (dn a) (dn b) P := ⟨_, cGe, q⟩
theorem pEqN (q : P (decide (a = b))) : PC S .Eq (dn a) (dn b) P := ⟨_, cEq, q⟩
theorem pNeN (q : P (!decide (a = b))) : PC S .NotEq (dn a) (dn b) P := ⟨_, cNe, q⟩
theorem pEqS {s t : Str} (q : P (decide (s = t))) : PC S .Eq (.str s) (.str t) P := ⟨_, cStr, q⟩
theorem pNeS {s t : Str} (q : P (!decide (s = t))) : PC S .NotEq (.str s) (.str t) P := ⟨_, cStrN, q⟩
theorem pIsN {d : D} (q : P (isNon d)) : PC S .Is d .non P := ⟨_, rfl, q⟩
theorem pIsNotN {d : D} (q : P (!isNon d)) : PC S .IsNot d .non P := ⟨_, rfl, q⟩
theorem pTupI {l : List D} {i : Nat} {d : D} (h : l[i]? = some d) (q : Q d) : PI S (.tup l) (dn i) Q := ⟨_, xTupI h, q⟩
theorem pLstI {l : List D} {i : Nat} {d : D} (h : l[i]? = some d) (q : Q d) : PI S (.lst l) (dn i) Q := ⟨_, xLstI h, q⟩
theorem pRefI {r : Nat} {l : List D} {i : Nat} {d : D} (hr : S[r]? = some (.lst l)) (h : l[i]? = some d) (q : Q d) : PI S (.ref r) (dn i) Q := ⟨_, xRefI hr h, q⟩
theorem pLenT {l : List D} (q : Q (dn l.length)) : PF S .len [.tup l] Q := ⟨_, lenT, q⟩
theorem pLenL {l : List D} (q : Q (dn l.length)) : PF S .len [.lst l] Q := ⟨_, lenL, q⟩
theorem pLenR {r : Nat} {l : List D} (h : S[r]? = some (.lst l)) (q : Q (dn l.length)) : PF S .len [.ref r] Q := ⟨_, lenR h, q⟩
theorem pTupR {r : Nat} {l : List D} (h : S[r]? = some (.lst l)) (q : Q (.tup l)) : PF S .tuple [.ref r] Q := ⟨_, tupR h, q⟩
theorem pTupL {l : List D} (q : Q (.tup l)) : PF S .tuple [.lst l] Q := ⟨_, rfl, q⟩
theorem pIntN (q : Q (dn a)) : PF S .int [dn a] Q := ⟨_, intN, q⟩
theorem pIntB {t : Bool} (q : Q (dn (if t then 1 else 0))) : PF S .int [.bl t] Q := ⟨_, intB, q⟩
theorem pMinN (q : Q (dn (min a b))) : PF S .min [dn a, dn b] Q := ⟨_, minN, q⟩
theorem pMaxN (q : Q (dn (max a b))) : PF S .max [dn a, dn b] Q := ⟨_, maxN, q⟩
theorem pIsiNI (q : Q (.bl true)) : PF S .isinstance [dn a, .ty "int"] Q := ⟨_, by kernel_rfl, q⟩
theorem pIsiNB (q : Q (.bl false)) : PF S .isinstance [dn a, .ty "bool"] Q := ⟨_, by kernel_rfl, q⟩
theorem pIsiTT {l : List D} (q : Q (.bl true)) : PF S .isinstance [.tup l, .ty "tuple"] Q := ⟨_, by kernel_rfl, q⟩
theorem pIsiSS {x : Str} (q : Q (.bl true)) : PF S .isinstance [.str x, .ty "str"] Q := ⟨_, by kernel_rfl, q⟩
theorem rT {l : List D} {Q : List D → (Sto → Bool) → Prop} (q : Q l fun _ => true) : PR S 0 [.tup l] Q := ⟨_, _, rfl, q⟩
theorem rL {l : List D} {Q : List D → (Sto → Bool) → Prop} (q : Q l fun _ => true) : PR S 0 [.lst l] Q := ⟨_, _, rfl, q⟩
theorem rRf {r : Nat} {l : List D} {Q : List D → (Sto → Bool) → Prop} (h : S[r]? = some (.lst l)) (q : Q l (stays r l)) : PR S 0 [.ref r] Q := ⟨l, stays r l, by simp only [itemsOf, h], q⟩
theorem sTupL {l : List D} {lo hi : Option Int} (q : Q (.tup (cutD l lo hi))) : PL S (.tup l) lo hi Q := ⟨_, rfl, q⟩
theorem sLstL {l : List D} {lo hi : Option Int} (q : Q (.lst (cutD l lo hi))) : PL S (.lst l) lo hi Q := ⟨_, rfl, q⟩
theorem tTup {l : List D} (q : P (!l.isEmpty)) : PT S (.tup l) P := ⟨_, rfl, q⟩
theorem tNon (q : P false) : PT S .non P := ⟨_, rfl, q⟩
theorem zAdd {i j : Int} (q : Q (.int (i + j))) : PB S .Add (.int i) (.int j) Q := ⟨_, binZ rfl, q⟩
theorem zSub {i j : Int} (q : Q (.int (i - j))) : PB S .Sub (.int i) (.int j) Q := ⟨_, binZ rfl, q⟩
theorem zMul {i j : Int} (h : (-18446744073709551616 < i ∧ i < 18446744073709551616) ∨ (-18446744073709551616 < j ∧ j < 18446744073709551616)) (q : Q (.int (i * j))) : PB S .Mult (.int i) (.int j) Q := ⟨_, binZ (by simp only [ibop]; exact if_pos h), q⟩
theorem zMod {i j : Int} (h : 0 < j) (q : Q (.int (i % j))) : PB S .Mod (.int i) (.int j) Q := ⟨_, binZ (by simp only [ibop]; rw [if_pos h]), q⟩
theorem zDiv {i j : Int} (h : 0 < j) (h2 : j < 1073741824) (q : Q (.int (i / j))) : PB S .FloorDiv (.int i) (.int j) Q := ⟨_, binZ (by simp only [ibop]; rw [if_pos ⟨h, h2⟩]), q⟩
theorem zLt {i j : Int} (q : P (decide (i < j))) : PC S .Lt (.int i) (.int j) P := ⟨_, rfl, q⟩
theorem zGt {i j : Int} (q : P (decide (j < i))) : PC S .Gt (.int i) (.int j) P := ⟨_, rfl, q⟩
theorem zLe {i j : Int} (q : P (decide (i ≤ j))) : PC S .LtE (.int i) (.int j) P := ⟨_, rfl, q⟩
theorem zGe {i j : Int} (q : P (decide (j ≤ i))) : PC S .GtE (.int i) (.int j) P := ⟨_, rfl, q⟩
theorem zInt {i : Int} (q : Q (.int i)) : PF S .int [.int i] Q := ⟨_, rfl, q⟩
theorem zAbs {i : Int} (q : Q (.int (if i < 0 then -i else i))) : PF S .abs [.int i] Q := ⟨_, rfl, q⟩
theorem zDm {i j : Int} (h : 0 < j) (h2 : j < 1073741824) (q : Q (.tup [.int (i / j), .int (i % j)])) : PF S .divmod [.int i, .int j] Q := ⟨_, by simp only [bfun]; rw [if_pos ⟨h, h2⟩], q⟩
theorem zAnd32 {i : Int} (q : Q (.int (i % 4294967296))) : PB S .BitAnd (.int i) (.int 4294967295) Q := ⟨_, binZ (by simp only [ibop, bitAnd_m32]), q⟩
theorem zAnd16 (q : Q (dn (a % 65536))) : PB S .BitAnd (dn a) (.int 65535) Q := ⟨_, binZ (by simp only [ibop, bitAnd_m16]; rfl), q⟩
theorem zAnd8 (q : Q (dn (a % 256))) : PB S .BitAnd (dn a) (.int 255) Q := ⟨_, binZ (by simp only [ibop, bitAnd_m8]; rfl), q⟩
theorem zAnd5 (q : Q (dn (a % 32))) : PB S .BitAnd (dn a) (.int 31) Q := ⟨_, binZ (by simp only [ibop, bitAnd_m5]; rfl), q⟩
theorem zAnd4 (q : Q (dn (a % 16))) : PB S .BitAnd (dn a) (.int 15) Q := ⟨_, binZ (by simp only [ibop, bitAnd_m4]; rfl), q⟩
theorem zAnd16i {i : Int} (q : Q (.int (i % 65536))) : PB S .BitAnd (.int i) (.int 65535) Q := ⟨_, binZ (by simp only [ibop, bitAnd_m16]), q⟩
end
end
end Ev

namespace Ev
open PySem PySem.Spec PyProof.Rows L2
/-! a law's text: its defs and constants -/
structure Lw where
  df : Str → Option Df
  gl : Str → Option D
def Lw.cl (L : Lw) (k : Nat) : CallF := callN L.df L.gl 200 k
def Lw.G1 (L : Lw) (k : Nat) : Gb := ⟨L.cl k, fun _ _ _ => none, L.gl⟩
def Lw.G (L : Lw) (k : Nat) : Gb := ⟨L.cl k, L.cl (k - 1), L.gl⟩
inductive XC (L : Lw) (k : Nat) (f : Str) (as : List D) (S : Sto) (Q : D → Sto → Prop) : Prop
  | intro (d : D) (S' : Sto) (h : L.cl k f as S = some (d, S')) (q : Q d S')
theorem XC.mono {L : Lw} {k : Nat} {f : Str} {as : List D} {S : Sto} {P Q : D → Sto → Prop} (h : XC L k f as S P) (q : ∀ d S, P d S → Q d S) : XC L k f as S Q := by
  obtain ⟨d, S, e, p⟩ := h
  exact ⟨d, S, e, q d S p⟩
/-- what is told, the store as it was -/
def Tells (L : Lw) (k : Nat) (f : Str) (as : List D) (S : Sto) (r : D) : Prop := XC L k f as S fun d S' => d = r ∧ S' = S
theorem Tells.go {L : Lw} {k : Nat} {f : Str} {as : List D} {S : Sto} {r : D} {Q : D → Sto → Prop} (h : Tells L k f as S r) (q : Q r S) : XC L k f as S Q := h.mono fun d S' ⟨h1, h2⟩ => by
  rw [h1, h2]
  exact q
/-- these defs are among them -/
class Has (L : Lw) (l : List (Str × Df)) : Prop where
  get : ∀ (i : Nat) f d, l[i]? = some (f, d) → L.df f = some d
class Cst (L : Lw) (l : List (Str × D)) : Prop where
  get : ∀ (i : Nat) g d, l[i]? = some (g, d) → L.gl g = some d
section
variable {L : Lw} {k : Nat} {S : Sto} {env : EnvD} {Q : D → Sto → Prop}
theorem wFnL {f : Str} {d : Df} {as : List D} (h : L.df f = some d) (hl : as.length = d.ps.length) (hb : XS (L.G k) 200 d.body (startD d as) S (RQ Q)) : XC L (k + 1) f as S Q := by
  obtain ⟨d, S1, e, q⟩ := wFn h hl hb
  exact ⟨d, S1, e, q⟩
theorem wCallc {G : Gb} (hG : G.cl = L.cl k) {f : Str} {xs : List E} (h : XL G xs env S fun ds S1 => XC L k f ds S1 Q) : XE G (.call f xs) env S Q := by
  refine wCall ?_
  obtain ⟨ds, S1, e, d, S2, e2, q⟩ := h
  exact ⟨ds, S1, e, d, S2, by rw [hG]; exact e2, q⟩
theorem wCallkc {G : Gb} (hG : G.cl = L.cl k) {f : Str} {ks : List Str} {ix : List Nat} {xs : List E} (h : XL G xs env S fun ds S1 => WP (pick ix ds) fun as => XC L k f as S1 Q) : XE G (.callk f ks ix xs) env S Q := by
  refine wCallk ?_
  obtain ⟨ds, S1, e, as, e3, d, S2, e2, q⟩ := h
  exact ⟨ds, S1, e, as, e3, d, S2, by rw [hG]; exact e2, q⟩
theorem wCalllc {G : Gb} (hG : G.cl = L.cl k) {i : Nat} {g : Str} {xs : List E} (h0 : env[i]? = some (some (.fn g))) (h : XL G xs env S fun ds S1 => XC L k g ds S1 Q) : XE G (.calll i xs) env S Q := by
  refine wCalll h0 ?_
  obtain ⟨ds, S1, e, d, S2, e2, q⟩ := h
  exact ⟨ds, S1, e, d, S2, by rw [hG]; exact e2, q⟩
theorem wGenL {G : Gb} (hG : G = L.G (k + 1)) {st one : Bool} {cap : List (Option Nat)} {tg : List Nat} {kd : Nat} {its : List E} {elt : E} (h : XL G its env S fun as S1 => PR S1 kd as fun ds gd => XG st gd tg one (L.G1 k) elt (capS cap env) ds S1 fun b S2 => Q (.bl b) S2) : XE G (.gen st cap tg one kd its elt) env S Q := by
  subst hG
  exact wGen h
theorem wGlobc {G : Gb} (hG : G.glb = L.gl) {g : Str} {d : D} (h : L.gl g = some d) (q : Q d S) : XE G (.glob g) env S Q := wGlob (by rw [hG]; exact h) q
theorem wOnes {G : Gb} {x : E} (h : XE G x env S fun a S1 => ∃ n : Nat, a = dn n ∧ n < 18446744073709551616 ∧ Q (dn (onesN n)) S1) : XE G (.ones x) env S Q := by
  obtain ⟨a, S1, e1, n, rfl, hn, q⟩ := h
  simp only [dn] at e1
  refine ⟨_, S1, ?_, q⟩
  simp only [ev, e1]
  rw [if_pos ⟨by omega, by omega⟩, Int.toNat_natCast]
  rfl
theorem rqR {d : D} {env : EnvD} (h : Q d S) : RQ Q (.rt d) env S := .rt h
theorem rqN {env : EnvD} (h : Q .non S) : RQ Q .nx env S := .nx h
theorem lqN {G : Gb} {w : Nat} {ss : List T} {Q : Fl → EnvD → Sto → Prop} (h : XS G w ss env S Q) : LQ G w ss Q .nx env S := .nx h
theorem lqR {G : Gb} {w : Nat} {ss : List T} {Q : Fl → EnvD → Sto → Prop} {d : D} (h : Q (.rt d) env S) : LQ G w ss Q (.rt d) env S := .rt h
theorem WE.say {m : Option (D × Sto)} {r : D} (h : WE m fun d S' => d = r ∧ S' = S) {Q : D → Sto → Prop} (q : Q r S) : WE m Q := by
  obtain ⟨d, S', e, rfl, rfl⟩ := h
  exact ⟨_, _, e, q⟩
end
theorem aLen {ds : List D} {Q : Prop} (h : ds.length ≤ 1000) (q : Q) : ds.length ≤ 1000 ∧ Q := ⟨h, q⟩
theorem aEx {α : Type} {x : α} {P : α → Prop} (q : P x) : ∃ y, x = y ∧ P y := ⟨x, rfl, q⟩
/-! ranges, loops -/
theorem rng1 (S : Sto) (n : Nat) (h : n < 1000000) : itemsOf S 1 [dn n] = some (nums 0 n, fun _ => true) := by
  have hr : Ev.inR (n : Int) = true := by
    unfold Ev.inR
    exact decide_eq_true (by omega)
  unfold dn
  simp only [itemsOf, hr, if_true, rangeD_nums]
theorem nums_len : ∀ (n j : Nat), (nums j n).length = n
  | 0, _ => rfl
  | n + 1, j => by simp [nums, nums_len n]
/-- the slots that a loop writes -/
def fillE (env : EnvD) : List Nat → List (Option D) → EnvD
  | i :: is, x :: xs => fillE (env.set i x) is xs
  | _, _ => env
/-- ahead of a turn: what the loop writes is anything -/
theorem rng2 (S : Sto) (i n : Nat) (h : i ≤ n) (hn : n < 1000000) : itemsOf S 1 [dn i, dn n] = some (nums i (n - i), fun _ => true) := by
  have h1 : Ev.inR (i : Int) = true := by
    unfold Ev.inR
    exact decide_eq_true (by omega)
  have h2 : Ev.inR (n : Int) = true := by
    unfold Ev.inR
    exact decide_eq_true (by omega)
  have key : ∀ n j : Nat, (List.range n).map (fun a : Nat => D.int ((j : Int) + (a : Int))) = nums j n := fun n j => by
    have k1 : ∀ n j : Nat, (List.range' j n).map dn = nums j n := by
      intro n
      induction n with
      | zero => intro j; rfl
      | succ n ih =>
        intro j
        rw [List.range'_succ, List.map_cons, ih]
        rfl
    rw [← k1, List.range'_eq_map_range, List.map_map]
    refine List.map_congr_left fun a _ => ?_
    show D.int _ = D.int (((j + a : Nat)) : Int)
    rw [Int.natCast_add]
  unfold dn
  simp only [itemsOf, h1, h2, and_self, if_true]
  rw [← key (n - i) i]
  unfold rangeD
  rw [show ((n : Int) - (i : Int)).toNat = n - i by omega]
theorem rN {S : Sto} {n : Nat} {Q : List D → (Sto → Bool) → Prop} (h : n < 1000000) (q : Q (nums 0 n) fun _ => true) : PR S 1 [dn n] Q := ⟨_, _, rng1 S n h, q⟩
theorem rN2 {S : Sto} {i n : Nat} {Q : List D → (Sto → Bool) → Prop} (h : i ≤ n) (hn : n < 1000000) (q : Q (nums i (n - i)) fun _ => true) : PR S 1 [dn i, dn n] Q := ⟨_, _, rng2 S i n h hn, q⟩
theorem rEn {S : Sto} {l : List D} {Q : List D → (Sto → Bool) → Prop} (q : Q (enumD 0 l) fun _ => true) : PR S 2 [.tup l] Q := ⟨_, _, rfl, q⟩
theorem rZip {S : Sto} {l m : List D} {Q : List D → (Sto → Bool) → Prop} (q : Q (zipD l m) fun _ => true) : PR S 3 [.tup l, .tup m] Q := ⟨_, _, rfl, q⟩
theorem cut_from (l : List D) (n : Nat) : cutD l (some (n : Int)) none = l.drop n := by
  unfold Ev.cutD
  have e : HT.sIx l.length 0 (some (n : Int)) = min n l.length := HT.sIx_nat l.length 0 n
  rw [e, HT.sIx_none]
  by_cases h : n ≤ l.length
  · rw [Nat.min_eq_left h, List.take_of_length_le (by rw [List.length_drop]; omega)]
  · rw [Nat.min_eq_right (by omega), List.drop_eq_nil_of_le (Nat.le_refl _), List.drop_eq_nil_of_le (by omega), List.take_nil]
theorem cut_to (l : List D) (n : Nat) : cutD l none (some (n : Int)) = l.take n := by
  unfold Ev.cutD
  have e : HT.sIx l.length l.length (some (n : Int)) = min n l.length := HT.sIx_nat l.length l.length n
  rw [e, HT.sIx_none, List.drop_zero, Nat.sub_zero]
  by_cases h : n ≤ l.length
  · rw [Nat.min_eq_left h]
  · rw [Nat.min_eq_right (by omega), List.take_of_length_le (Nat.le_refl _), List.take_of_length_le (by omega)]
theorem cut_mid (l : List D) (a b : Nat) (h : a ≤ b) (hb : b ≤ l.length) : cutD l (some (a : Int)) (some (b : Int)) = (l.drop a).take (b - a) := by
  unfold Ev.cutD
  have e1 : HT.sIx l.length l.length (some (b : Int)) = min b l.length := HT.sIx_nat l.length l.length b
  have e2 : HT.sIx l.length 0 (some (a : Int)) = min a l.length := HT.sIx_nat l.length 0 a
  rw [e1, e2, Nat.min_eq_left hb, Nat.min_eq_left (by omega)]
section
variable {S : Sto} {l : List D} {n m : Nat} {Q : D → Prop}
theorem sFromT (q : Q (.tup (l.drop n))) : PL S (.tup l) (some (n : Int)) none Q := ⟨_, by rw [← cut_from]; rfl, q⟩
theorem sToT (q : Q (.tup (l.take n))) : PL S (.tup l) none (some (n : Int)) Q := ⟨_, by rw [← cut_to]; rfl, q⟩
theorem sMidT (h : n ≤ m) (hm : m ≤ l.length) (q : Q (.tup ((l.drop n).take (m - n)))) : PL S (.tup l) (some (n : Int)) (some (m : Int)) Q := ⟨_, by rw [← cut_mid l n m h hm]; rfl, q⟩
theorem sFromL (q : Q (.lst (l.drop n))) : PL S (.lst l) (some (n : Int)) none Q := ⟨_, by rw [← cut_from]; rfl, q⟩
theorem sToL (q : Q (.lst (l.take n))) : PL S (.lst l) none (some (n : Int)) Q := ⟨_, by rw [← cut_to]; rfl, q⟩
theorem sToR (q : Q (.lst (l.take n))) : PL S (.rls l) none (some (n : Int)) Q := ⟨_, by rw [← cut_to]; rfl, q⟩
theorem pIxK {a : D} {x : Str} {d : D} (h : ixf S a (.str x) = some d) (q : Q d) : PI S a (.str x) Q := ⟨_, h, q⟩
theorem pInK {a b : D} {t : Bool} {Q : Bool → Prop} (h : cop S .In a b = some t) (q : Q t) : PC S .In a b Q := ⟨_, h, q⟩
end
theorem ySubO {G : Gb} {w : Nat} {env : EnvD} {S : Sto} {e o ix : E} {ss : List T} {Q : Fl → EnvD → Sto → Prop} (h : XE G e env S fun d S1 => XE G o env S1 fun a S2 => ∃ r, a = .ref r ∧ XE G ix env S2 fun b S3 => ∃ m, b = dn m ∧ ∃ l, S3[r]? = some (.lst l) ∧ m < l.length ∧ XS G w ss env (S3.set r (.lst (l.set m d))) Q) : XS G w (.asg (.sub o ix) e :: ss) env S Q := by
  refine ySub ?_
  obtain ⟨d, S1, e1, a, S2, e2, r, rfl, b, S3, e3, m, rfl, l, hr, hm, f, env3, S4, e4, q⟩ := h
  refine ⟨d, S1, e1, .ref r, S2, e2, r, rfl, dn m, S3, e3, (m : Int), l, rfl, hr, m, ?_, f, env3, S4, e4, q⟩
  simp only [ixN]
  rw [if_pos (by omega), if_pos (by omega), Int.toNat_natCast]
theorem set_split {l : List D} {i : Nat} {v : D} (h : i < l.length) : l.take i ++ [v] ++ l.drop (i + 1) = l.set i v := by
  rw [List.append_assoc, List.singleton_append, List.set_eq_take_append_cons_drop, if_pos h]
theorem pMulT {S : Sto} {l : List D} {n : Nat} {Q : D → Prop} (h : l ≠ []) (h1 : 2 ≤ n) (h2 : n ≤ 1000) (h3 : l.length ≤ 1000) (q : Q (.tup (List.replicate n l).flatten)) : PB S .Mult (.tup l) (dn n) Q := by
  refine ⟨_, ?_, q⟩
  have e : bop .Mult (.tup l) (dn n) = some (.tup (List.replicate n l).flatten) := by
    simp only [bop, dn]
    rw [if_pos ⟨h, by omega, by omega, h3⟩, Int.toNat_natCast]
  simp only [binS, e]
theorem pLenS {S : Sto} {l : List D} {Q : D → Prop} (q : Q (dn l.length)) : PF S .len [.rls l] Q := ⟨_, rfl, q⟩
theorem pRlsI {S : Sto} {l : List D} {i : Nat} {d : D} {Q : D → Prop} (h : l[i]? = some d) (q : Q d) : PI S (.rls l) (dn i) Q := by
  refine ⟨d, ?_, q⟩
  have hl : i < l.length := (List.getElem?_eq_some_iff.mp h).1
  simp only [ixf, dn, seqOf, Option.bind_some, atD, atI, ixN]
  rw [if_pos (by omega), if_pos (by omega)]
  simpa using h
theorem pPow {S : Sto} {a b : Nat} {Q : D → Prop} (h : b ≤ 1000000) (h2 : a < 18446744073709551616) (q : Q (dn (a ^ b))) : PB S .Pow (dn a) (dn b) Q := by
  refine ⟨_, binZ ?_, q⟩
  simp only [ibop]
  rw [if_pos ⟨by omega, by omega, by rw [Int.natAbs_natCast]; exact h2⟩, Int.toNat_natCast]
  simp
/-- all are true -/
theorem xpTrue {tg : List Nat} {one : Bool} {G : Gb} {cd elt : E} {env : EnvD} : ∀ {ds : List D} {S : Sto} {acc : List D}, (∀ d ∈ ds, ∀ S, WP (bindT tg one d env) fun env1 => XE G elt env1 S fun x _ => x = .bl true) → acc.length + ds.length ≤ 1000 →
    XP (fun _ => true) tg one G false cd elt env ds S acc fun l _ => l = acc ++ List.replicate ds.length (.bl true)
  | [], S, acc, _, _ => xpNil rfl (by simp)
  | d :: ds, S, acc, h, hl => by
    rw [List.length_cons] at hl
    refine xpCons rfl (by omega) ((h d List.mem_cons_self S).mono fun env1 h1 => h1.mono fun x S2 hx => ?_)
    subst hx
    obtain ⟨l, S3, e, q⟩ := xpTrue (tg := tg) (one := one) (G := G) (cd := cd) (elt := elt) (env := env) (ds := ds) (S := S2) (acc := acc ++ [.bl true]) (fun d hd => h d (List.mem_cons_of_mem _ hd)) (by rw [List.length_append, List.length_singleton]; omega)
    exact ⟨l, S3, e, by rw [q, List.length_cons, List.replicate_succ, List.append_assoc, List.singleton_append]⟩
theorem XP.mono {gd : Sto → Bool} {tg : List Nat} {one : Bool} {G : Gb} {fi : Bool} {cd elt : E} {env : EnvD} {ds : List D} {S : Sto} {acc : List D} {P Q : List D → Sto → Prop} (h : XP gd tg one G fi cd elt env ds S acc P) (q : ∀ l S, P l S → Q l S) : XP gd tg one G fi cd elt env ds S acc Q := by
  obtain ⟨l, S, e, p⟩ := h
  exact ⟨l, S, e, q l S p⟩
theorem pAllT {S : Sto} {n : Nat} {Q : D → Prop} (q : Q (.bl true)) : PF S .all [.lst (List.replicate n (.bl true))] Q := by
  refine ⟨_, ?_, q⟩
  simp only [bfun, seqOf, bls_true, Option.map_some]
  congr 2
  simp
theorem nums_mem : ∀ {n j : Nat} {d : D}, d ∈ nums j n → ∃ i : Nat, d = dn i ∧ j ≤ i ∧ i < j + n
  | 0, _, _, h => by cases h
  | n + 1, j, d, h => by
    rcases List.mem_cons.mp h with rfl | h
    · exact ⟨j, rfl, by omega, by omega⟩
    · obtain ⟨i, e, h1, h2⟩ := nums_mem h
      exact ⟨i, e, by omega, by omega⟩
theorem pTupZ {S : Sto} {l : List D} {i : Int} {d : D} {Q : D → Prop} (h : atI l i = some d) (q : Q d) : PI S (.tup l) (.int i) Q := ⟨d, by simp only [ixf, seqOf, Option.bind_some, atD]; exact h, q⟩
theorem pInT {S : Sto} {l : List D} {x : Str} {Q : Bool → Prop} (h : l.all flatD = true) (q : Q (l.any fun y => flatEq y (.str x))) : PC S .In (.str x) (.tup l) Q := by
  refine ⟨_, ?_, q⟩
  simp only [cop, din, seqOf, flatD, h, and_self, if_true]
theorem pInW {S : Sto} {ks : List Str} {vs : List D} {x : Str} {Q : Bool → Prop} (q : Q (decide (x ∈ ks))) : PC S .In (.str x) (.wd ks vs) Q := ⟨_, rfl, q⟩
theorem yUpd {G : Gb} {w : Nat} {env : EnvD} {S : Sto} {e o : E} {ss : List T} {Q : Fl → EnvD → Sto → Prop} (h : XE G o env S fun a S1 => ∃ n, a = .ref n ∧ ∃ kvs, S1[n]? = some (.dct kvs) ∧ XE G e env S1 fun b S2 => ∃ m, b = .ref m ∧ ∃ k2 more, S2[n]? = some (.dct k2) ∧ S2[m]? = some (.dct more) ∧ n ≠ m ∧ k2.length + more.length ≤ 1000 ∧ XS G w ss env (S2.set n (.dct (putAll k2 more))) Q) : XS G w (.update o e :: ss) env S Q := by
  obtain ⟨a, S1, e1, n, rfl, kvs, h1, b, S2, e2, m, rfl, k2, more, h2, h3, hn, hl, f, env3, S3, e4, q⟩ := h
  have hz : n ≠ m ∧ k2.length + more.length ≤ sizeLine := ⟨hn, by rw [sizeLine_eq]; omega⟩
  have hd : isDc S1 n = true := by unfold isDc; rw [h1]
  exact ⟨f, env3, S3, by simp only [exs, ex, e1, hd, if_true, e2, h2, h3, if_pos hz, e4], q⟩
theorem pDctI {S : Sto} {n : Nat} {kvs : List (Key × D)} {x : Str} {d : D} {Q : D → Prop} (h : S[n]? = some (.dct kvs)) (h2 : look (.inr x) kvs = some d) (q : Q d) : PI S (.ref n) (.str x) Q := ⟨d, by simp only [ixf, h, h2], q⟩
end Ev

namespace Ev
open PySem PySem.Spec PyProof.Rows L2
/-! measures of what is shown -/
def Md (x : D) (w dp : Nat) : Prop := ∃ p, py x = some p ∧ p.showable = true ∧ p.leavesShort 13 = true ∧ p.weight ≤ w ∧ p.depth ≤ dp ∧ p.canLay0 = true
def Mds (l : List D) (w dp n : Nat) : Prop := ∃ ps, pys l = some ps ∧ PyData.showableAll ps = true ∧ PyData.leavesShortAll 13 ps = true ∧ PyData.weightAll ps ≤ n * (w + 1) ∧ PyData.depthAll ps ≤ dp ∧ PyData.canLayAll0 ps = true ∧ ps.length = l.length
theorem mds {w dp : Nat} : ∀ {l : List D}, (∀ x ∈ l, Md x w dp) → Mds l w dp l.length
  | [], _ => ⟨[], rfl, rfl, rfl, by simp [PyData.weightAll], by simp [PyData.depthAll], rfl, rfl⟩
  | x :: l, h => by
    obtain ⟨p, a1, a2, a3, a4, a5, a6⟩ := h x List.mem_cons_self
    obtain ⟨ps, b1, b2, b3, b4, b5, b6, b7⟩ := mds (l := l) fun y hy => h y (List.mem_cons_of_mem _ hy)
    refine ⟨p :: ps, by simp only [pys, a1, b1, Option.bind_some, Option.map_some], ?_, ?_, ?_, ?_, ?_, by rw [List.length_cons, List.length_cons, b7]⟩
    · simp only [PyData.showableAll, a2, b2, Bool.and_self]
    · simp only [PyData.leavesShortAll, a3, b3, Bool.and_self]
    · simp only [PyData.weightAll, List.length_cons]
      have : (l.length + 1) * (w + 1) = l.length * (w + 1) + (w + 1) := Nat.succ_mul _ _
      omega
    · simp only [PyData.depthAll]
      exact Nat.max_le.mpr ⟨a5, b5⟩
    · simp only [PyData.canLayAll0, a6, b6, Bool.and_self]
theorem Md.mono {x : D} {w w' dp dp' : Nat} (h : Md x w dp) (h1 : w ≤ w') (h2 : dp ≤ dp') : Md x w' dp' := by
  obtain ⟨p, a1, a2, a3, a4, a5, a6⟩ := h
  exact ⟨p, a1, a2, a3, Nat.le_trans a4 h1, Nat.le_trans a5 h2, a6⟩
theorem md_tup {w dp n : Nat} {l : List D} (h : ∀ x ∈ l, Md x w dp) (hl : l.length ≤ n) : Md (.tup l) (n * (w + 1)) (dp + 1) := by
  obtain ⟨ps, b1, b2, b3, b4, b5, b6, b7⟩ := mds h
  refine ⟨.tuple ps, by simp only [py, b1, Option.map_some], by rw [PyData.showable]; exact b2, by rw [PyData.leavesShort]; exact b3, ?_, ?_, by rw [PyData.canLay0]; exact b6⟩
  · rw [PyData.weight]
    exact Nat.le_trans b4 (Nat.mul_le_mul_right _ hl)
  · rw [PyData.depth]
    omega
theorem md_lst {w dp n : Nat} {l : List D} (h : ∀ x ∈ l, Md x w dp) (hl : l.length ≤ n) : Md (.lst l) (n * (w + 1)) (dp + 1) := by
  obtain ⟨ps, b1, b2, b3, b4, b5, b6, b7⟩ := mds h
  refine ⟨.list ps, by simp only [py, b1, Option.map_some], by rw [PyData.showable]; exact b2, by rw [PyData.leavesShort]; exact b3, ?_, ?_, by rw [PyData.canLay0]; exact b6⟩
  · rw [PyData.weight]
    exact Nat.le_trans b4 (Nat.mul_le_mul_right _ hl)
  · rw [PyData.depth]
    omega
theorem md_i {i : Int} (h1 : -999999999999 ≤ i) (h2 : i ≤ 999999999999) : Md (.int i) 64 0 := by
  have h := PyData.shown_int_le2 h1 h2
  have l1 := int_log h1 h2
  refine ⟨.int i, rfl, ?_, ?_, ?_, ?_, rfl⟩
  · simp only [PyData.showable, int_showable h1 h2]
  · simp [PyData.leavesShort, h]
  · simp only [PyData.weight]
    split <;> omega
  · simp [PyData.depth]
theorem md_n {n : Nat} (h : n ≤ 999999999999) : Md (dn n) 64 0 := md_i (by omega) (by omega)
theorem md_non : Md .non 64 0 := ⟨.none, rfl, rfl, rfl, by simp [PyData.weight], by simp [PyData.depth], rfl⟩
theorem md_b {b : Bool} : Md (.bl b) 64 0 := ⟨.bool b, rfl, rfl, rfl, by simp [PyData.weight], by simp [PyData.depth], rfl⟩
def goodS (s : Str) : Bool := (s.cps.toList.all fun c => decide (c < 16 ^ 8)) && decide (s.cps.size ≤ 64) && PyData.canLay0 (.str s)
theorem md_s {s : Str} (h : goodS s = true) : Md (.str s) 64 0 := by
  simp only [goodS, Bool.and_eq_true] at h
  refine ⟨.str s, rfl, rfl, ?_, ?_, by simp [PyData.depth], h.2⟩
  · simp only [PyData.leavesShort]
    exact h.1.1
  · simp only [PyData.weight]
    exact of_decide_eq_true h.1.2
theorem repr_md {d : D} {l : List D} {b : Bool} {w dp : Nat} (h : Md d w dp) (hd : ∀ S : Sto, seqOf S d = some (b, l) ∧ der S d = d) (hw : w ≤ 1000000) (hdp : dp ≤ 60) : ∃ s, ∀ S : Sto, bfun S .repr [d] = some (.str s) := by
  obtain ⟨p, a1, a2, a3, a4, a5, a6⟩ := h
  refine ⟨p.shown, fun S => ?_⟩
  have := shw_ok a1 a2 a3 (Nat.le_trans (Nat.le_trans a4 hw) (by decide)) (Nat.le_trans a5 hdp)
  simp only [bfun, (hd S).1, (hd S).2]
  exact this
mutual
theorem same_refl : ∀ d : D, Ev.same d d = true
  | .non => rfl
  | .bl a => by simp [Ev.same]
  | .int a => by simp [Ev.same]
  | .str a => by simp [Ev.same]
  | .ty a => by simp [Ev.same]
  | .fn a => by simp [Ev.same]
  | .ref a => by simp [Ev.same]
  | .tup l => by simp [Ev.same, sames_refl l]
  | .lst l => by simp [Ev.same, sames_refl l]
  | .rls l => by simp [Ev.same, sames_refl l]
  | .wd ks l => by simp [Ev.same, sames_refl l]
theorem sames_refl : ∀ l : List D, Ev.sames l l = true
  | [] => rfl
  | d :: l => by simp [Ev.sames, same_refl d, sames_refl l]
end
theorem md_ns {n b : Nat} {l : List Nat} (h : ∀ m ∈ l, m ≤ 999999999999) (hl : l.length ≤ n) : Md (.tup (l.map dn)) (n * 65) 1 := md_tup (w := 64) (dp := 0) (fun x hx => by
  obtain ⟨m, hm, rfl⟩ := List.mem_map.mp hx
  exact md_n (h m hm)) (by rw [List.length_map]; exact hl)
theorem stays_head {r : Nat} {l : List D} {S : Sto} (h : S[r]? = some (.lst l)) : stays r l S = true := by
  simp only [stays, h]
  exact sames_refl l
theorem md_two {a b : D} {w dp : Nat} (ha : Md a w dp) (hb : Md b w dp) : Md (.lst [a, b]) (2 * (w + 1)) (dp + 1) := md_lst (fun x hx => by
  simp only [List.mem_cons, List.not_mem_nil, or_false] at hx
  rcases hx with rfl | rfl
  · exact ha
  · exact hb) (by simp)
/-- repr of a list that can be shown -/
theorem pRepr {l : List D} {w dp : Nat} {S : Sto} {Q : D → Prop} (h : Md (.lst l) w dp) (hw : w ≤ 1000000) (hdp : dp ≤ 60) (s : Str) (hs : ∀ S : Sto, bfun S .repr [.lst l] = some (.str s)) (q : Q (.str s)) : PF S .repr [.lst l] Q := ⟨_, hs S, q⟩
end Ev

namespace Ev
open PySem PySem.Spec PyProof.Rows L2
local macro_rules
  | `(tactic| fail) => `(tactic| first
    | (refine (?_ : Ev.XE _ _ _ _ _); first | refine wVar rfl ?_ | refine wCst ?_ | refine wCallc rfl ?_ | refine wIdx ?_ | refine wBin ?_ | refine wCmp ?_ | refine wTup ?_ | refine wBlt ?_ | refine wNot ?_ | refine wAndE ?_ | refine wOrE ?_ | refine wIfE ?_ | refine wChain ?_ | refine wLst ?_ | refine wNewl ?_ | refine wNewc ?_ | refine wSlTo ?_ | refine wSlFrom ?_ | refine wSlBoth ?_ | refine wOnes ?_ | refine wCallkc rfl ?_ | refine wCalllc rfl rfl ?_ | refine wComp ?_ | refine wGenL rfl ?_ | refine wNeg ?_ | refine wInv ?_ | refine wBlen ?_)
    | (refine (?_ : Ev.XL _ _ _ _ _); first | refine wCons ?_ | refine wNil ?_)
    | (refine (?_ : Ev.XS _ _ _ _ _ _); first | refine yIf ?_ | refine yRet ?_ | refine yAsg ?_ | refine yNil ?_ | refine yPar ?_ | refine yTup ?_ | refine yExpr ?_ | refine yFor ?_ | refine yRetN ?_ | refine yAug rfl ?_ | refine yPass ?_ | refine yBrk ?_ | refine yCont ?_ | refine yWhile ?_)
    | (refine (?_ : Ev.PT _ _ _); first | refine tBl ?_ | refine tTup ?_ | refine tNon ?_)
    | (refine (?_ : Ev.PC _ _ _ _ _); first | refine pEqS ?_ | refine pEqN ?_ | refine pLt ?_ | refine pLe ?_ | refine pGt ?_ | refine pGe ?_ | refine pNeN ?_ | refine pNeS ?_ | refine pIsN ?_ | refine pIsNotN ?_ | refine zLt ?_ | refine zGt ?_ | refine zLe ?_ | refine zGe ?_ | refine pInT rfl ?_)
    | (refine (?_ : Ev.PI _ _ _ _); first | refine pTupI rfl ?_ | refine pLstI rfl ?_ | refine pRefI (by assumption) rfl ?_ | refine pTupZ rfl ?_)
    | (refine (?_ : Ev.PB _ _ _ _ _); first | refine pAdd ?_ | refine pCatT (Nat.le_of_ble_eq_true rfl) ?_ | refine zAnd32 ?_ | refine zAnd16 ?_ | refine zAnd16i ?_ | refine zAnd8 ?_ | refine zAnd5 ?_ | refine zAnd4 ?_ | refine pAnd ?_ | refine pOr ?_ | refine pXor ?_ | refine pShr ?_ | refine pSub (by omega) ?_ | refine pMod (by omega) ?_ | refine pDiv (by omega) (by omega) ?_ | refine pMul (by omega) ?_ | refine pShl (by omega) (by omega) ?_ | refine pPow (by omega) (by omega) ?_ | refine zAdd ?_ | refine zSub ?_ | refine zMul (by omega) ?_ | refine zMod (by omega) ?_ | refine zDiv (by omega) (by omega) ?_)
    | (refine (?_ : Ev.PF _ _ _ _); first | refine pLenT ?_ | refine pIntN ?_ | refine pIntB ?_ | refine pLenL ?_ | refine pMinN ?_ | refine pMaxN ?_ | refine pIsiNI ?_ | refine pIsiNB ?_ | refine pIsiTT ?_ | refine pIsiSS ?_ | refine pTupL ?_ | refine zInt ?_ | refine zAbs ?_ | refine zDm (by omega) (by omega) ?_ | refine pTupR (by assumption) ?_ | refine pLenR (by assumption) ?_ | refine pLenS ?_ | refine pAllT ?_)
    | (refine (?_ : Ev.RQ _ _ _ _); first | refine rqR ?_ | refine rqN ?_)
    | (refine (?_ : Ev.PL _ _ _ _ _); first | refine sFromT ?_ | refine sToT ?_ | refine sFromL ?_ | refine sToL ?_ | refine sToR ?_ | refine sMidT (by omega) (Nat.le_of_ble_eq_true rfl) ?_)
    | (refine (?_ : Ev.PR _ _ _ _); first | refine rT ?_ | refine rL ?_ | refine rN (by omega) ?_ | refine rN2 (by omega) (by omega) ?_ | refine rEn ?_ | refine rZip ?_)
    | (refine (?_ : Ev.LQ _ _ _ _ _ _ _); first | refine lqN ?_ | refine lqR ?_)
    | (refine (?_ : Ev.TQ _ _ _ _ _ _ _ _ _ _ _); first | refine tqN ?_ | refine tqC ?_ | refine tqB ?_ | refine tqR ?_)
    | (refine (?_ : Ev.WP _ _); refine WP.mk rfl ?_)
    | refine ifT rfl ?_
    | refine ifF rfl ?_
    | refine ifT' rfl ?_
    | refine ifF' rfl ?_
    | refine aLen (Nat.le_of_ble_eq_true rfl) ?_
    | refine Exists.intro _ (And.intro rfl ?_)
    | refine ifT (by decide +kernel) ?_
    | refine ifF (by decide +kernel) ?_
    | refine ifT' (by decide +kernel) ?_
    | refine ifF' (by decide +kernel) ?_)
/-! looks at values: is_whole, is_between, is_tuple, first_bad, are_all -/
def t_is_whole : List T := [(.ret (.and' (.blt .isinstance [(.var 0), (.cst (.ty "int"))]) (.not' (.blt .isinstance [(.var 0), (.cst (.ty "bool"))]))))]
def t_is_between : List T := [(.ret (.and' (.call "is_whole" [(.var 0)]) (.chain .LtE .LtE (.var 1) (.var 0) (.var 2))))]
def t_is_tuple : List T := [(.ret (.and' (.blt .isinstance [(.var 0), (.cst (.ty "tuple"))]) (.chain .LtE .LtE (.var 1) (.blt .len [(.var 0)]) (.var 2))))]
def t_are_all : List T := [(.ret (.and' (.call "is_tuple" [(.var 0), (.var 1), (.var 2)]) (.cmp .Is (.call "first_bad" [(.var 0), (.var 3)]) (.cst .non))))]
def t_first_bad : List T := [(.for' [2, 3] false 2 [(.var 0)] [(.ife (.not' (.calll 1 [(.var 3)])) [(.ret (.var 2))] [])]), (.ret (.cst .non))]
def chkT : List (Str × Df) := [("is_whole", ⟨["value"], 1, t_is_whole⟩), ("is_between", ⟨["value", "least", "most"], 3, t_is_between⟩), ("is_tuple", ⟨["value", "least", "most"], 3, t_is_tuple⟩), ("are_all", ⟨["value", "least", "most", "is_good"], 4, t_are_all⟩), ("first_bad", ⟨["values", "is_good"], 4, t_first_bad⟩)]
variable {L : Lw} [H : Has L chkT] {k : Nat} {S : Sto}
theorem c_is_whole {n : Nat} : Tells L (k + 1) "is_whole" [dn n] S (.bl true) := by
  refine (wFnL (H.get 0 _ _ rfl) rfl ?_)
  show XS _ _ t_is_whole [some (dn n)] S _
  repeat fail
  exact ⟨rfl, rfl⟩
theorem c_is_between {n a b : Nat} : Tells L (k + 2) "is_between" [dn n, dn a, dn b] S (.bl (decide (a ≤ n ∧ n ≤ b))) := by
  refine (wFnL (H.get 1 _ _ rfl) rfl ?_)
  show XS _ _ t_is_between [some (dn n), some (dn a), some (dn b)] S _
  repeat fail
  refine c_is_whole.go ?_
  repeat fail
  refine ifD' (fun h => ?_) (fun h => ?_)
  · repeat fail
    refine ⟨?_, rfl⟩
    rw [dec_iff (p := n ≤ b) (q := a ≤ n ∧ n ≤ b) (by omega)]
  · repeat fail
    exact ⟨by rw [decide_eq_false (by omega)], rfl⟩
theorem c_is_tuple {l : List D} {a b : Nat} : Tells L (k + 1) "is_tuple" [.tup l, dn a, dn b] S (.bl (decide (a ≤ l.length ∧ l.length ≤ b))) := by
  refine (wFnL (H.get 2 _ _ rfl) rfl ?_)
  show XS _ _ t_is_tuple [some (.tup l), some (dn a), some (dn b)] S _
  repeat fail
  refine ifD' (fun h => ?_) (fun h => ?_)
  · repeat fail
    refine ⟨?_, rfl⟩
    rw [dec_iff (p := l.length ≤ b) (q := a ≤ l.length ∧ l.length ≤ b) (by omega)]
  · repeat fail
    exact ⟨by rw [decide_eq_false (by omega)], rfl⟩
/-- the first that is not good -/
def badAt (p : D → Bool) : List D → Nat → Option Nat
  | [], _ => none
  | d :: l, j => if p d = true then badAt p l (j + 1) else some j
def optD : Option Nat → D
  | none => .non
  | some r => dn r
theorem fb_loop {g : Str} {p : D → Bool} {v0 : D} {R : D → Sto → Prop} : ∀ (l : List D) (j : Nat) (x2 x3 : Option D), (∀ d ∈ l, Tells L k g [d] S (.bl (p d))) → R (optD (badAt p l j)) S →
    XF (fun _ => true) [2, 3] false (L.G k) 200 [(.ife (.not' (.calll 1 [(.var 3)])) [(.ret (.var 2))] [])] (enumD j l) [some v0, some (.fn g), x2, x3] S (LQ (L.G k) 200 [(.ret (.cst .non))] (RQ R))
  | [], j, x2, x3, h, q => by
    refine xfNil rfl ?_
    repeat fail
    exact q
  | d :: l, j, x2, x3, h, q => by
    refine xfCons rfl ?_
    repeat fail
    refine (h d List.mem_cons_self).go ?_
    repeat fail
    cases hp : p d with
    | true =>
      repeat fail
      refine fb_loop l (j + 1) _ _ (fun d hd => h d (List.mem_cons_of_mem _ hd)) ?_
      rw [show badAt p (d :: l) j = badAt p l (j + 1) by simp only [badAt, hp, if_true]] at q
      exact q
    | false =>
      repeat fail
      rw [show badAt p (d :: l) j = some j by simp [badAt, hp]] at q
      exact q
theorem c_first_bad {g : Str} {p : D → Bool} {l : List D} (h : ∀ d ∈ l, Tells L k g [d] S (.bl (p d))) : Tells L (k + 1) "first_bad" [.tup l, .fn g] S (optD (badAt p l 0)) := by
  refine (wFnL (H.get 4 _ _ rfl) rfl ?_)
  show XS _ _ t_first_bad [some (.tup l), some (.fn g), none, none] S _
  repeat fail
  exact fb_loop l 0 none none h ⟨rfl, rfl⟩
theorem badAt_none {p : D → Bool} : ∀ {l : List D} {j : Nat}, (∀ d ∈ l, p d = true) → badAt p l j = none
  | [], _, _ => rfl
  | d :: l, j, h => by
    simp only [badAt, h d List.mem_cons_self, if_true]
    exact badAt_none fun d hd => h d (List.mem_cons_of_mem _ hd)
theorem badAt_all {p : D → Bool} : ∀ {l : List D} {j : Nat}, isNon (optD (badAt p l j)) = l.all p
  | [], _ => rfl
  | d :: l, j => by
    simp only [badAt, List.all_cons]
    cases hp : p d with
    | true => simp only [if_true, Bool.true_and]; exact badAt_all
    | false => simp [optD, isNon, dn]
theorem c_are_all {g : Str} {p : D → Bool} {l : List D} {a b : Nat} (h : ∀ d ∈ l, Tells L k g [d] S (.bl (p d))) : Tells L (k + 2) "are_all" [.tup l, dn a, dn b, .fn g] S (.bl (decide (a ≤ l.length ∧ l.length ≤ b) && l.all p)) := by
  refine (wFnL (H.get 3 _ _ rfl) rfl ?_)
  show XS _ _ t_are_all [some (.tup l), some (dn a), some (dn b), some (.fn g)] S _
  repeat fail
  refine c_is_tuple.go ?_
  repeat fail
  cases hc : decide (a ≤ l.length ∧ l.length ≤ b) with
  | false =>
    repeat fail
    exact ⟨rfl, rfl⟩
  | true =>
    repeat fail
    refine (c_first_bad h).go ?_
    repeat fail
    refine ⟨?_, rfl⟩
    rw [badAt_all, Bool.true_and]
/-- all as they should be -/
theorem c_are_allT {g : Str} {l : List D} {a b : Nat} (h : ∀ d ∈ l, Tells L k g [d] S (.bl true)) (h1 : a ≤ l.length) (h2 : l.length ≤ b) : Tells L (k + 2) "are_all" [.tup l, dn a, dn b, .fn g] S (.bl true) := by
  have := c_are_all (L := L) (k := k) (S := S) (g := g) (p := fun _ => true) (l := l) (a := a) (b := b) h
  rw [decide_eq_true ⟨h1, h2⟩, show l.all (fun _ => true) = true by simp] at this
  exact this
end Ev

namespace Ev
open PySem PySem.Spec PyProof.Rows L2
local macro_rules
  | `(tactic| fail) => `(tactic| first
    | (refine (?_ : Ev.XE _ _ _ _ _); first | refine wVar rfl ?_ | refine wCst ?_ | refine wCallc rfl ?_ | refine wIdx ?_ | refine wBin ?_ | refine wCmp ?_ | refine wTup ?_ | refine wBlt ?_ | refine wNot ?_ | refine wAndE ?_ | refine wOrE ?_ | refine wIfE ?_ | refine wChain ?_ | refine wLst ?_ | refine wNewl ?_ | refine wNewc ?_ | refine wSlTo ?_ | refine wSlFrom ?_ | refine wSlBoth ?_ | refine wOnes ?_ | refine wCallkc rfl ?_ | refine wCalllc rfl rfl ?_ | refine wComp ?_ | refine wGenL rfl ?_ | refine wNeg ?_ | refine wInv ?_ | refine wBlen ?_)
    | (refine (?_ : Ev.XL _ _ _ _ _); first | refine wCons ?_ | refine wNil ?_)
    | (refine (?_ : Ev.XS _ _ _ _ _ _); first | refine yIf ?_ | refine yRet ?_ | refine yAsg ?_ | refine yNil ?_ | refine yPar ?_ | refine yTup ?_ | refine yExpr ?_ | refine yFor ?_ | refine yRetN ?_ | refine yAug rfl ?_ | refine yPass ?_ | refine yBrk ?_ | refine yCont ?_ | refine yWhile ?_)
    | (refine (?_ : Ev.PT _ _ _); first | refine tBl ?_ | refine tTup ?_ | refine tNon ?_)
    | (refine (?_ : Ev.PC _ _ _ _ _); first | refine pEqS ?_ | refine pEqN ?_ | refine pLt ?_ | refine pLe ?_ | refine pGt ?_ | refine pGe ?_ | refine pNeN ?_ | refine pNeS ?_ | refine pIsN ?_ | refine pIsNotN ?_ | refine zLt ?_ | refine zGt ?_ | refine zLe ?_ | refine zGe ?_ | refine pInT rfl ?_)
    | (refine (?_ : Ev.PI _ _ _ _); first | refine pTupI rfl ?_ | refine pLstI rfl ?_ | refine pRefI (by assumption) rfl ?_ | refine pTupZ rfl ?_)
    | (refine (?_ : Ev.PB _ _ _ _ _); first | refine pAdd ?_ | refine pCatT (Nat.le_of_ble_eq_true rfl) ?_ | refine zAnd32 ?_ | refine zAnd16 ?_ | refine zAnd16i ?_ | refine zAnd8 ?_ | refine zAnd5 ?_ | refine zAnd4 ?_ | refine pAnd ?_ | refine pOr ?_ | refine pXor ?_ | refine pShr ?_ | refine pSub (by omega) ?_ | refine pMod (by omega) ?_ | refine pDiv (by omega) (by omega) ?_ | refine pMul (by omega) ?_ | refine pShl (by omega) (by omega) ?_ | refine pPow (by omega) (by omega) ?_ | refine zAdd ?_ | refine zSub ?_ | refine zMul (by omega) ?_ | refine zMod (by omega) ?_ | refine zDiv (by omega) (by omega) ?_)
    | (refine (?_ : Ev.PF _ _ _ _); first | refine pLenT ?_ | refine pIntN ?_ | refine pIntB ?_ | refine pLenL ?_ | refine pMinN ?_ | refine pMaxN ?_ | refine pIsiNI ?_ | refine pIsiNB ?_ | refine pIsiTT ?_ | refine pIsiSS ?_ | refine pTupL ?_ | refine zInt ?_ | refine zAbs ?_ | refine zDm (by omega) (by omega) ?_ | refine pTupR (by assumption) ?_ | refine pLenR (by assumption) ?_ | refine pLenS ?_ | refine pAllT ?_)
    | (refine (?_ : Ev.RQ _ _ _ _); first | refine rqR ?_ | refine rqN ?_)
    | (refine (?_ : Ev.PL _ _ _ _ _); first | refine sFromT ?_ | refine sToT ?_ | refine sFromL ?_ | refine sToL ?_ | refine sToR ?_ | refine sMidT (by omega) (Nat.le_of_ble_eq_true rfl) ?_)
    | (refine (?_ : Ev.PR _ _ _ _); first | refine rT ?_ | refine rL ?_ | refine rN (by omega) ?_ | refine rN2 (by omega) (by omega) ?_ | refine rEn ?_ | refine rZip ?_)
    | (refine (?_ : Ev.LQ _ _ _ _ _ _ _); first | refine lqN ?_ | refine lqR ?_)
    | (refine (?_ : Ev.TQ _ _ _ _ _ _ _ _ _ _ _); first | refine tqN ?_ | refine tqC ?_ | refine tqB ?_ | refine tqR ?_)
    | (refine (?_ : Ev.WP _ _); refine WP.mk rfl ?_)
    | refine ifT rfl ?_
    | refine ifF rfl ?_
    | refine ifT' rfl ?_
    | refine ifF' rfl ?_
    | refine aLen (Nat.le_of_ble_eq_true rfl) ?_
    | refine Exists.intro _ (And.intro rfl ?_)
    | refine ifT (by decide +kernel) ?_
    | refine ifF (by decide +kernel) ?_
    | refine ifT' (by decide +kernel) ?_
    | refine ifF' (by decide +kernel) ?_)
/-! the store beside a well -/
structure St (j : Nat) (M : List (Nat × MO)) (S : Sto) : Prop where
  jar : ∃ a b c : Int, S[j]? = some (.lst [.int a, .int b, .int c])
  own : ∀ p ∈ M, S[p.1]? = some p.2 ∧ p.1 ≠ j
  nd : (M.map (·.1)).Nodup
section
variable {j r : Nat} {M : List (Nat × MO)} {m m' : MO} {S : Sto}
theorem St.lt (h : St j M S) : j < S.length := by
  obtain ⟨a, b, c, h⟩ := h.jar
  exact (List.getElem?_eq_some_iff.mp h).1
theorem St.new (h : St j M S) (m : MO) : St j ((S.length, m) :: M) (S ++ [m]) := by
  have hl := h.lt
  obtain ⟨⟨a, b, c, e⟩, h2, h3⟩ := h
  refine ⟨⟨a, b, c, by rw [List.getElem?_append_left hl]; exact e⟩, fun p hp => ?_, ?_⟩
  · rcases List.mem_cons.mp hp with rfl | hp
    · exact ⟨by simp, Nat.ne_of_gt hl⟩
    · obtain ⟨h4, h5⟩ := h2 p hp
      exact ⟨by rw [List.getElem?_append_left (List.getElem?_eq_some_iff.mp h4).1]; exact h4, h5⟩
  · rw [List.map_cons, List.nodup_cons]
    refine ⟨fun hm => ?_, h3⟩
    obtain ⟨p, hp, e2⟩ := List.mem_map.mp hm
    have := (List.getElem?_eq_some_iff.mp (h2 p hp).1).1
    omega
theorem St.setJ (h : St j M S) (a b c : Int) : St j M (S.set j (.lst [.int a, .int b, .int c])) :=
  ⟨⟨a, b, c, List.getElem?_set_self h.lt⟩, fun p hp => by
    obtain ⟨h1, h2⟩ := h.own p hp
    exact ⟨by rw [List.getElem?_set_ne h2.symm]; exact h1, h2⟩, h.nd⟩
theorem St.head (h : St j ((r, m) :: M) S) : S[r]? = some m := (h.own _ List.mem_cons_self).1
theorem St.setO (h : St j ((r, m) :: M) S) (m' : MO) : St j ((r, m') :: M) (S.set r m') := by
  have hd := h.nd
  rw [List.map_cons, List.nodup_cons] at hd
  have hr := (List.getElem?_eq_some_iff.mp h.head).1
  have hrj := (h.own _ List.mem_cons_self).2
  obtain ⟨⟨a, b, c, e⟩, h2, h3⟩ := h
  refine ⟨⟨a, b, c, by rw [List.getElem?_set_ne hrj]; exact e⟩, fun p hp => ?_, h3⟩
  rcases List.mem_cons.mp hp with rfl | hp
  · exact ⟨List.getElem?_set_self hr, hrj⟩
  · obtain ⟨h4, h5⟩ := h2 p (List.mem_cons_of_mem _ hp)
    exact ⟨by rw [List.getElem?_set_ne fun z => hd.1 (by rw [show (r, m).1 = p.1 from z]; exact List.mem_map_of_mem hp)]; exact h4, h5⟩
theorem St.drop {p : Nat × MO} (h : St j (p :: M) S) : St j M S := ⟨h.jar, fun q hq => h.own q (List.mem_cons_of_mem _ hq), (List.nodup_cons.mp h.nd).2⟩
theorem St.swap {p q : Nat × MO} (h : St j (p :: q :: M) S) : St j (q :: p :: M) S :=
  ⟨h.jar, fun r hr => h.own r (by simp only [List.mem_cons] at hr ⊢; rcases hr with h | h | h; exact .inr (.inl h); exact .inl h; exact .inr (.inr h)), ((List.Perm.swap p q M).map _).nodup_iff.mpr h.nd⟩
end
/-! append to what is held -/
theorem yAppO {G : Gb} {w j r oi : Nat} {env : EnvD} {S : Sto} {M : List (Nat × MO)} {e : E} {acc : List D} {ss : List T} {Q : Fl → EnvD → Sto → Prop} (h0 : env[oi]? = some (some (.ref r))) (hs : St j ((r, .lst acc) :: M) S) (hl : acc.length ≤ 900)
    (h : XE G e env S fun d S2 => St j ((r, .lst acc) :: M) S2 ∧ ∀ S3, St j ((r, .lst (acc ++ [d])) :: M) S3 → XS G w ss env S3 Q) : XS G w (.append (.var oi) e :: ss) env S Q := by
  obtain ⟨d, S2, e1, h2, h3⟩ := h
  obtain ⟨f, env3, S3, e4, q⟩ := h3 _ (h2.setO _)
  refine yApp ⟨_, S, eV h0, r, rfl, ?_, d, S2, e1, acc, h2.head, by omega, f, env3, S3, e4, q⟩
  unfold isL
  rw [hs.head]
/-- as many things as turns are put behind what is held -/
theorem xfGrow {G : Gb} {w j r : Nat} {tg : List Nat} {body : List T} {env : EnvD} {M : List (Nat × MO)} {P : D → Prop} (ws : List Nat) {Q : Fl → EnvD → Sto → Prop}
    (st : ∀ (d0 : D) (xs : List (Option D)) (S : Sto) (acc : List D), xs.length = ws.length → St j ((r, .lst acc) :: M) S → acc.length ≤ 900 → (∀ d ∈ acc, P d) → WP (bindT tg true d0 (fillE env ws xs)) fun env1 => XS G w body env1 S fun f env2 S2 => f = .nx ∧ (∃ ys, ys.length = ws.length ∧ env2 = fillE env ws ys) ∧ ∃ d, P d ∧ St j ((r, .lst (acc ++ [d])) :: M) S2) :
    ∀ (ds : List D) (xs : List (Option D)) (S : Sto) (acc : List D), xs.length = ws.length → St j ((r, .lst acc) :: M) S → acc.length + ds.length ≤ 900 → (∀ d ∈ acc, P d) →
      (∀ xs S acc2, xs.length = ws.length → St j ((r, .lst acc2) :: M) S → acc2.length = acc.length + ds.length → (∀ d ∈ acc2, P d) → Q .nx (fillE env ws xs) S) → XF (fun _ => true) tg true G w body ds (fillE env ws xs) S Q
  | [], xs, S, acc, hx, hs, _, hp, q => xfNil rfl (q xs S acc hx hs (by simp) hp)
  | d0 :: ds, xs, S, acc, hx, hs, hl, hp, q => by
    rw [List.length_cons] at hl
    refine xfCons rfl ((st d0 xs S acc hx hs (by omega) hp).mono fun env1 h1 => h1.mono fun f env2 S2 h2 => ?_)
    obtain ⟨rfl, ⟨ys, hy, rfl⟩, d, hd, hs2⟩ := h2
    refine .nx (xfGrow ws st ds ys S2 _ hy hs2 (by rw [List.length_append, List.length_singleton]; omega) (fun e he => ?_) fun xs' S' acc2 a b c e => q xs' S' acc2 a b (by rw [c, List.length_append, List.length_singleton, List.length_cons]; omega) e)
    rcases List.mem_append.mp he with he | he
    · exact hp e he
    · rw [show e = d by simpa using he]
      exact hd
/-- the same for items of a kind -/
theorem xfGrowI {G : Gb} {w j r : Nat} {tg : List Nat} {body : List T} {env : EnvD} {M : List (Nat × MO)} {P I : D → Prop} (ws : List Nat) {Q : Fl → EnvD → Sto → Prop}
    (st : ∀ (d0 : D) (xs : List (Option D)) (S : Sto) (acc : List D), I d0 → xs.length = ws.length → St j ((r, .lst acc) :: M) S → acc.length ≤ 900 → (∀ d ∈ acc, P d) → WP (bindT tg true d0 (fillE env ws xs)) fun env1 => XS G w body env1 S fun f env2 S2 => f = .nx ∧ (∃ ys, ys.length = ws.length ∧ env2 = fillE env ws ys) ∧ ∃ d, P d ∧ St j ((r, .lst (acc ++ [d])) :: M) S2) :
    ∀ (ds : List D) (xs : List (Option D)) (S : Sto) (acc : List D), (∀ d ∈ ds, I d) → xs.length = ws.length → St j ((r, .lst acc) :: M) S → acc.length + ds.length ≤ 900 → (∀ d ∈ acc, P d) →
      (∀ xs S acc2, xs.length = ws.length → St j ((r, .lst acc2) :: M) S → acc2.length = acc.length + ds.length → (∀ d ∈ acc2, P d) → Q .nx (fillE env ws xs) S) → XF (fun _ => true) tg true G w body ds (fillE env ws xs) S Q
  | [], xs, S, acc, _, hx, hs, _, hp, q => xfNil rfl (q xs S acc hx hs (by simp) hp)
  | d0 :: ds, xs, S, acc, hI, hx, hs, hl, hp, q => by
    rw [List.length_cons] at hl
    refine xfCons rfl ((st d0 xs S acc (hI d0 List.mem_cons_self) hx hs (by omega) hp).mono fun env1 h1 => h1.mono fun f env2 S2 h2 => ?_)
    obtain ⟨rfl, ⟨ys, hy, rfl⟩, d, hd, hs2⟩ := h2
    refine .nx (xfGrowI ws st ds ys S2 _ (fun d hd => hI d (List.mem_cons_of_mem _ hd)) hy hs2 (by rw [List.length_append, List.length_singleton]; omega) (fun e he => ?_) fun xs' S' acc2 a b c e => q xs' S' acc2 a b (by rw [c, List.length_append, List.length_singleton, List.length_cons]; omega) e)
    rcases List.mem_append.mp he with he | he
    · exact hp e he
    · rw [show e = d by simpa using he]
      exact hd
/-- a loop that writes some slots -/
theorem xfFill {gd : Sto → Bool} {G : Gb} {w : Nat} {tg : List Nat} {one : Bool} {body : List T} {env : EnvD} (ws : List Nat) (I : List D → Sto → Prop) {Q : Fl → EnvD → Sto → Prop} (hg : ∀ ds S, I ds S → gd S = true)
    (st : ∀ (d0 : D) (ds : List D) (xs : List (Option D)) (S : Sto), xs.length = ws.length → I (d0 :: ds) S → WP (bindT tg one d0 (fillE env ws xs)) fun env1 => XS G w body env1 S fun f env2 S2 => f = .nx ∧ (∃ ys, ys.length = ws.length ∧ env2 = fillE env ws ys) ∧ I ds S2)
    (fin : ∀ xs S, xs.length = ws.length → I [] S → Q .nx (fillE env ws xs) S) : ∀ (ds : List D) (xs : List (Option D)) (S : Sto), xs.length = ws.length → I ds S → XF gd tg one G w body ds (fillE env ws xs) S Q
  | [], xs, S, hx, hI => xfNil (hg _ _ hI) (fin xs S hx hI)
  | d0 :: ds, xs, S, hx, hI => by
    refine xfCons (hg _ _ hI) ((st d0 ds xs S hx hI).mono fun env1 h1 => h1.mono fun f env2 S2 h2 => ?_)
    obtain ⟨rfl, ⟨ys, hy, rfl⟩, hI2⟩ := h2
    exact .nx (xfFill ws I hg st fin ds ys S2 hy hI2)
/-- a loop that writes some slots, by what stands in them -/
theorem xfFillX {gd : Sto → Bool} {G : Gb} {w : Nat} {tg : List Nat} {one : Bool} {body : List T} {env : EnvD} (ws : List Nat) (I : List D → List (Option D) → Sto → Prop) {Q : Fl → EnvD → Sto → Prop} (hg : ∀ ds xs S, I ds xs S → gd S = true)
    (st : ∀ (d0 : D) (ds : List D) (xs : List (Option D)) (S : Sto), I (d0 :: ds) xs S → WP (bindT tg one d0 (fillE env ws xs)) fun env1 => XS G w body env1 S fun f env2 S2 => (f = .nx ∧ ∃ ys, env2 = fillE env ws ys ∧ I ds ys S2) ∨ ∃ r, f = .rt r ∧ Q (.rt r) env2 S2)
    (fin : ∀ xs S, I [] xs S → Q .nx (fillE env ws xs) S) : ∀ (ds : List D) (xs : List (Option D)) (S : Sto), I ds xs S → XF gd tg one G w body ds (fillE env ws xs) S Q
  | [], xs, S, hI => xfNil (hg _ _ _ hI) (fin xs S hI)
  | d0 :: ds, xs, S, hI => by
    refine xfCons (hg _ _ _ hI) ((st d0 ds xs S hI).mono fun env1 h1 => h1.mono fun f env2 S2 h2 => ?_)
    rcases h2 with ⟨rfl, ys, rfl, hI2⟩ | ⟨r, rfl, q⟩
    · exact .nx (xfFillX ws I hg st fin ds ys S2 hI2)
    · exact .rt q
/-- what is drawn -/
def Dr (L : Lw) (k : Nat) (f : Str) (as : List D) (j : Nat) (M : List (Nat × MO)) (S : Sto) (P : D → Prop) : Prop := XC L k f as S fun d S' => P d ∧ St j M S'
theorem Dr.go {L : Lw} {k : Nat} {f : Str} {as : List D} {j : Nat} {M : List (Nat × MO)} {S : Sto} {P : D → Prop} {Q : D → Sto → Prop} (h : Dr L k f as j M S P) (q : ∀ d S', P d → St j M S' → Q d S') : XC L k f as S Q := h.mono fun d S' ⟨h1, h2⟩ => q d S' h1 h2
def Lt (n : Nat) (d : D) : Prop := ∃ m, d = dn m ∧ m < n
def OneS (l : List Str) (d : D) : Prop := ∃ s, d = .str s ∧ s ∈ l
end Ev

namespace Ev
open PySem PySem.Spec PyProof.Rows L2
local macro_rules
  | `(tactic| fail) => `(tactic| first
    | (refine (?_ : Ev.XE _ _ _ _ _); first | refine wVar rfl ?_ | refine wCst ?_ | refine wCallc rfl ?_ | refine wIdx ?_ | refine wBin ?_ | refine wCmp ?_ | refine wTup ?_ | refine wBlt ?_ | refine wNot ?_ | refine wAndE ?_ | refine wOrE ?_ | refine wIfE ?_ | refine wChain ?_ | refine wLst ?_ | refine wNewl ?_ | refine wNewc ?_ | refine wSlTo ?_ | refine wSlFrom ?_ | refine wSlBoth ?_ | refine wOnes ?_ | refine wCallkc rfl ?_ | refine wCalllc rfl rfl ?_ | refine wComp ?_ | refine wGenL rfl ?_ | refine wNeg ?_ | refine wInv ?_ | refine wBlen ?_)
    | (refine (?_ : Ev.XL _ _ _ _ _); first | refine wCons ?_ | refine wNil ?_)
    | (refine (?_ : Ev.XS _ _ _ _ _ _); first | refine yIf ?_ | refine yRet ?_ | refine yAsg ?_ | refine yNil ?_ | refine yPar ?_ | refine yTup ?_ | refine yExpr ?_ | refine yFor ?_ | refine yRetN ?_ | refine yAug rfl ?_ | refine yPass ?_ | refine yBrk ?_ | refine yCont ?_ | refine yWhile ?_)
    | (refine (?_ : Ev.PT _ _ _); first | refine tBl ?_ | refine tTup ?_ | refine tNon ?_)
    | (refine (?_ : Ev.PC _ _ _ _ _); first | refine pEqS ?_ | refine pEqN ?_ | refine pLt ?_ | refine pLe ?_ | refine pGt ?_ | refine pGe ?_ | refine pNeN ?_ | refine pNeS ?_ | refine pIsN ?_ | refine pIsNotN ?_ | refine zLt ?_ | refine zGt ?_ | refine zLe ?_ | refine zGe ?_ | refine pInT rfl ?_)
    | (refine (?_ : Ev.PI _ _ _ _); first | refine pTupI rfl ?_ | refine pLstI rfl ?_ | refine pRefI (by assumption) rfl ?_ | refine pTupZ rfl ?_)
    | (refine (?_ : Ev.PB _ _ _ _ _); first | refine pAdd ?_ | refine pCatT (Nat.le_of_ble_eq_true rfl) ?_ | refine zAnd32 ?_ | refine zAnd16 ?_ | refine zAnd16i ?_ | refine zAnd8 ?_ | refine zAnd5 ?_ | refine zAnd4 ?_ | refine pAnd ?_ | refine pOr ?_ | refine pXor ?_ | refine pShr ?_ | refine pSub (by omega) ?_ | refine pMod (by omega) ?_ | refine pDiv (by omega) (by omega) ?_ | refine pMul (by omega) ?_ | refine pShl (by omega) (by omega) ?_ | refine pPow (by omega) (by omega) ?_ | refine zAdd ?_ | refine zSub ?_ | refine zMul (by omega) ?_ | refine zMod (by omega) ?_ | refine zDiv (by omega) (by omega) ?_)
    | (refine (?_ : Ev.PF _ _ _ _); first | refine pLenT ?_ | refine pIntN ?_ | refine pIntB ?_ | refine pLenL ?_ | refine pMinN ?_ | refine pMaxN ?_ | refine pIsiNI ?_ | refine pIsiNB ?_ | refine pIsiTT ?_ | refine pIsiSS ?_ | refine pTupL ?_ | refine zInt ?_ | refine zAbs ?_ | refine zDm (by omega) (by omega) ?_ | refine pTupR (by assumption) ?_ | refine pLenR (by assumption) ?_ | refine pLenS ?_ | refine pAllT ?_)
    | (refine (?_ : Ev.RQ _ _ _ _); first | refine rqR ?_ | refine rqN ?_)
    | (refine (?_ : Ev.PL _ _ _ _ _); first | refine sFromT ?_ | refine sToT ?_ | refine sFromL ?_ | refine sToL ?_ | refine sToR ?_ | refine sMidT (by omega) (Nat.le_of_ble_eq_true rfl) ?_)
    | (refine (?_ : Ev.PR _ _ _ _); first | refine rT ?_ | refine rL ?_ | refine rN (by omega) ?_ | refine rN2 (by omega) (by omega) ?_ | refine rEn ?_ | refine rZip ?_)
    | (refine (?_ : Ev.LQ _ _ _ _ _ _ _); first | refine lqN ?_ | refine lqR ?_)
    | (refine (?_ : Ev.TQ _ _ _ _ _ _ _ _ _ _ _); first | refine tqN ?_ | refine tqC ?_ | refine tqB ?_ | refine tqR ?_)
    | (refine (?_ : Ev.WP _ _); refine WP.mk rfl ?_)
    | refine ifT rfl ?_
    | refine ifF rfl ?_
    | refine ifT' rfl ?_
    | refine ifF' rfl ?_
    | refine aLen (Nat.le_of_ble_eq_true rfl) ?_
    | refine Exists.intro _ (And.intro rfl ?_)
    | refine ifT (by decide +kernel) ?_
    | refine ifF (by decide +kernel) ?_
    | refine ifT' (by decide +kernel) ?_
    | refine ifF' (by decide +kernel) ?_)
/-! a well of numbers (laws of hosts) -/
def t_draw1 : List T := [(.ife (.cmp .Gt (.idx (.var 0) (.cst (dn 0))) (.cst (dn 0))) [(.tup [(.sub (.var 0) (.cst (dn 0))), (.name 2)] (.blt .divmod [(.idx (.var 0) (.cst (dn 0))), (.var 1)])), (.ret (.var 2))] []), (.asg (.sub (.var 0) (.cst (dn 2))) (.bin .Add (.idx (.var 0) (.cst (dn 2))) (.cst (dn 1)))), (.asg (.name 3) (.bin .Mod (.blt .int [(.bin .Add (.bin .Add (.bin .Mult (.idx (.var 0) (.cst (dn 1))) (.cst (dn 48271))) (.bin .Mult (.cst (dn 46337)) (.idx (.var 0) (.cst (dn 2))))) (.cst (dn 11)))]) (.cst (dn 2147483423)))), (.asg (.sub (.var 0) (.cst (dn 1))) (.var 3)), (.ret (.bin .Mod (.blt .int [(.bin .FloorDiv (.bin .Mult (.var 3) (.bin .Add (.bin .Mod (.blt .int [(.var 3)]) (.cst (dn 7001))) (.cst (dn 40009)))) (.cst (dn 911)))]) (.var 1)))]
def t_pick1 : List T := [(.ret (.idx (.var 1) (.call "_law_draw" [(.var 0), (.blt .len [(.var 1)])])))]
def w1T : List (Str × Df) := [("_law_draw", ⟨["well", "top"], 4, t_draw1⟩), ("_law_pick", ⟨["well", "some"], 2, t_pick1⟩)]
variable {L : Lw} [H : Has L w1T] {k : Nat} {S : Sto} {j : Nat} {M : List (Nat × MO)}
theorem intDn {i : Int} (h : 0 ≤ i) : D.int i = dn i.toNat := by unfold dn; rw [Int.toNat_of_nonneg h]
theorem ySubJ {G : Gb} {w i m : Nat} {env : EnvD} {e : E} {ss : List T} {a b c : Int} {Q : Fl → EnvD → Sto → Prop} (h0 : env[i]? = some (some (.ref j))) (hs : S[j]? = some (.lst [.int a, .int b, .int c]))
    (h : XE G e env S fun d S2 => S2 = S ∧ m < 3 ∧ XS G w ss env (S.set j (.lst ([.int a, .int b, .int c].set m d))) Q) : XS G w (.asg (.sub (.var i) (.cst (dn m))) e :: ss) env S Q := by
  obtain ⟨d, S2, e1, rfl, hm, f, env3, S3, e4, q⟩ := h
  refine ySub ⟨d, S2, e1, .ref j, S2, eV h0, j, rfl, dn m, S2, eC, (m : Int), _, rfl, hs, m, ?_, f, env3, S3, e4, q⟩
  simp only [ixN, List.length_cons, List.length_nil]
  rw [if_pos (by omega), if_pos (by omega), Int.toNat_natCast]
theorem c_draw1 {n : Nat} (h : St j M S) (h0 : 0 < n) (h1 : n < 1073741824) : Dr L (k + 1) "_law_draw" [.ref j, dn n] j M S (Lt n) := by
  have hst := h
  have hl := h.lt
  obtain ⟨a, b, c, hj⟩ := h.jar
  have gs : ∀ x, (S.set j x)[j]? = some x := fun x => List.getElem?_set_self hl
  refine (wFnL (H.get 0 _ _ rfl) rfl ?_)
  show XS _ _ t_draw1 [some (.ref j), some (dn n), none, none] S _
  repeat fail
  refine ifD (fun ha => ?_) (fun ha => ?_)
  · repeat fail
    have e1 := Int.emod_nonneg a (show (n : Int) ≠ 0 by omega)
    have e2 := Int.emod_lt_of_pos a (show (0 : Int) < n by omega)
    refine ⟨([some (.ref j), some (dn n), none, none].set 2 (some (.int (a % n))), S.set j (.lst [.int (a / n), .int b, .int c])), ?_, ?_⟩
    · simp only [asgTs, asgT, ev, dn, List.getElem?_cons_zero, hj]
      rfl
    repeat fail
    exact ⟨⟨(a % n).toNat, intDn e1, by omega⟩, hst.setJ _ _ _⟩
  · refine ySubJ rfl hj ?_
    repeat fail
    refine ⟨rfl, by decide, ?_⟩
    have h2 : (S.set j (.lst ([D.int a, D.int b, D.int c].set 2 (.int (c + (1 : Nat))))))[j]? = some (.lst [.int a, .int b, .int (c + (1 : Nat))]) := gs _
    repeat fail
    refine ySubJ rfl h2 ?_
    repeat fail
    refine ⟨rfl, by decide, ?_⟩
    repeat fail
    refine ⟨⟨_, intDn ?_, ?_⟩, ?_⟩
    · exact Int.emod_nonneg _ (by omega)
    · have := Int.emod_lt_of_pos (((b * ((48271 : Nat) : Int) + ((46337 : Nat) : Int) * (c + ((1 : Nat) : Int)) + ((11 : Nat) : Int)) % ((2147483423 : Nat) : Int) * ((b * ((48271 : Nat) : Int) + ((46337 : Nat) : Int) * (c + ((1 : Nat) : Int)) + ((11 : Nat) : Int)) % ((2147483423 : Nat) : Int) % ((7001 : Nat) : Int) + ((40009 : Nat) : Int))) / ((911 : Nat) : Int)) (show (0 : Int) < n by omega)
      omega
    · rw [List.set_set]
      exact hst.setJ _ _ _
theorem c_pick1 {l : List D} (h : St j M S) (h0 : 0 < l.length) (h1 : l.length < 1000) : Dr L (k + 2) "_law_pick" [.ref j, .tup l] j M S (· ∈ l) := by
  refine (wFnL (H.get 1 _ _ rfl) rfl ?_)
  show XS _ _ t_pick1 [some (.ref j), some (.tup l)] S _
  repeat fail
  refine (c_draw1 h h0 (by omega)).go ?_
  rintro _ S1 ⟨m, rfl, hm⟩ h1
  refine pTupI (List.getElem?_eq_getElem hm) ?_
  repeat fail
  exact ⟨List.getElem_mem hm, h1⟩
end Ev

namespace S1
open PySem PySem.Spec PyProof.Rows L2 Ev
/-! the text's defs that the laws of runs share, as trees -/
def t_is_whole : List T := [(.ret (.and' (.blt .isinstance [(.var 0), (.cst (.ty "int"))]) (.not' (.blt .isinstance [(.var 0), (.cst (.ty "bool"))]))))]
def t_is_between : List T := [(.ret (.and' (.call "is_whole" [(.var 0)]) (.chain .LtE .LtE (.var 1) (.var 0) (.var 2))))]
def t_is_from_nought : List T := [(.ret (.and' (.call "is_whole" [(.var 0)]) (.cmp .GtE (.var 0) (.cst (dn 0)))))]
def t_is_word : List T := [(.ret (.call "is_between" [(.var 0), (.cst (dn 0)), (.cst (dn 65535))]))]
def t_is_flag : List T := [(.ret (.call "is_between" [(.var 0), (.cst (dn 0)), (.cst (dn 1))]))]
def t_is_one_of : List T := [(.ret (.and' (.blt .isinstance [(.var 0), (.cst (.ty "str"))]) (.cmp .In (.var 0) (.var 1))))]
def t_is_tuple : List T := [(.ret (.and' (.blt .isinstance [(.var 0), (.cst (.ty "tuple"))]) (.chain .LtE .LtE (.var 1) (.blt .len [(.var 0)]) (.var 2))))]
def t_are_all : List T := [(.ret (.and' (.call "is_tuple" [(.var 0), (.var 1), (.var 2)]) (.cmp .Is (.call "first_bad" [(.var 0), (.var 3)]) (.cst .non))))]
def t_first_bad : List T := [(.for' [2, 3] false 2 [(.var 0)] [(.ife (.not' (.calll 1 [(.var 3)])) [(.ret (.var 2))] [])]), (.ret (.cst .non))]
def t_combined : List T := [(.ife (.cmp .Eq (.var 0) (.cst (.str "add"))) [(.ret (.bin .BitAnd (.bin .Add (.var 1) (.var 2)) (.cst (dn 65535))))] []), (.ife (.cmp .Eq (.var 0) (.cst (.str "sub"))) [(.ret (.bin .BitAnd (.bin .Sub (.var 1) (.var 2)) (.cst (dn 65535))))] []), (.ife (.cmp .Eq (.var 0) (.cst (.str "and"))) [(.ret (.bin .BitAnd (.var 1) (.var 2)))] []), (.ife (.cmp .Eq (.var 0) (.cst (.str "or"))) [(.ret (.bin .BitOr (.var 1) (.var 2)))] []), (.ife (.cmp .Eq (.var 0) (.cst (.str "xor"))) [(.ret (.bin .BitXor (.var 1) (.var 2)))] []), (.ife (.cmp .Eq (.var 0) (.cst (.str "left"))) [(.ret (.bin .BitAnd (.bin .LShift (.var 1) (.bin .BitAnd (.var 2) (.cst (dn 15)))) (.cst (dn 65535))))] []), (.ret (.bin .RShift (.var 1) (.bin .BitAnd (.var 2) (.cst (dn 15)))))]
def t_related : List T := [(.ife (.cmp .Eq (.var 0) (.cst (.str "same"))) [(.ret (.cmp .Eq (.var 1) (.var 2)))] []), (.ife (.cmp .Eq (.var 0) (.cst (.str "other"))) [(.ret (.cmp .NotEq (.var 1) (.var 2)))] []), (.ife (.cmp .Eq (.var 0) (.cst (.str "below"))) [(.ret (.cmp .Lt (.var 1) (.var 2)))] []), (.ife (.cmp .Eq (.var 0) (.cst (.str "from"))) [(.ret (.cmp .GtE (.var 1) (.var 2)))] []), (.ife (.cmp .Eq (.var 0) (.cst (.str "bit"))) [(.ret (.cmp .NotEq (.bin .BitAnd (.var 1) (.var 2)) (.cst (dn 0))))] []), (.ret (.cmp .Eq (.bin .BitAnd (.var 1) (.var 2)) (.cst (dn 0))))]
def t_ones_in : List T := [(.ret (.ones (.var 0)))]
def t_mixed : List T := [(.ret (.bin .BitAnd (.bin .Add (.bin .Mult (.var 0) (.cst (dn 40503))) (.cst (dn 1))) (.cst (dn 65535))))]
def t_exchanged : List T := [(.ret (.bin .Add (.bin .Add (.sl (.var 0) false true (.cst .non) (.var 1)) (.tup [(.var 2)])) (.sl (.var 0) true false (.bin .Add (.var 1) (.cst (dn 1))) (.cst .non))))]
def t_pair_index : List T := [(.for' [2, 3] false 2 [(.var 0)] [(.ife (.cmp .Eq (.idx (.var 3) (.cst (dn 0))) (.var 1)) [(.ret (.var 2))] [])]), (.ret (.cst .non))]
def t_table_fault : List T := [(.par [2, 3] [(.idx (.var 0) (.cst (dn 0))), (.idx (.var 0) (.neg (.cst (dn 2))))]), (.par [4, 5] [(.idx (.var 1) (.cst (dn 5))), (.idx (.idx (.var 1) (.cst (dn 0))) (.idx (.var 0) (.neg (.cst (dn 1)))))]), (.asg (.name 6) (.ife (.cmp .In (.var 2) (.tup [(.cst (.str "cell")), (.cst (.str "fill")), (.cst (.str "count"))])) (.cst (.str "array")) (.cst (.str "pairs")))), (.ife (.or' (.cmp .GtE (.var 3) (.blt .len [(.var 4)])) (.cmp .NotEq (.idx (.idx (.var 4) (.var 3)) (.cst (dn 0))) (.var 6))) [(.ret (.cst (.str "table")))] []), (.ife (.and' (.cmp .In (.var 2) (.tup [(.cst (.str "fill")), (.cst (.str "count")), (.cst (.str "change"))])) (.cmp .Eq (.idx (.idx (.var 4) (.var 3)) (.cst (dn 1))) (.cst (dn 0)))) [(.ret (.cst (.str "table")))] []), (.asg (.name 7) (.blt .len [(.idx (.idx (.var 4) (.var 3)) (.cst (dn 2)))])), (.ife (.and' (.cmp .Eq (.var 6) (.cst (.str "array"))) (.cmp .GtE (.var 5) (.var 7))) [(.ret (.cst (.str "index")))] []), (.ife (.and' (.cmp .In (.var 2) (.tup [(.cst (.str "value")), (.cst (.str "change"))])) (.not' (.chain .LtE .LtE (.cst (dn 1)) (.var 5) (.var 7)))) [(.ret (.cst (.str "handle")))] []), (.ret (.cst .non))]
def t_packet_fault : List T := [(.par [2, 3] [(.idx (.var 0) (.cst (dn 0))), (.bin .Add (.idx (.idx (.var 1) (.cst (dn 0))) (.idx (.var 0) (.cst (dn 2)))) (.idx (.var 0) (.cst (dn 3))))]), (.ife (.cmp .Eq (.var 2) (.cst (.str "pair"))) [(.aug 3 .Add (.cst (dn 1)))] []), (.ife (.cmp .GtE (.var 3) (.blt .len [(.idx (.var 1) (.cst (dn 4)))])) [(.ret (.cst (.str "packet")))] []), (.ife (.and' (.cmp .Eq (.var 2) (.cst (.str "write"))) (.cmp .Eq (.idx (.var 1) (.cst (dn 9))) (.cst (dn 0)))) [(.ret (.cst (.str "grant")))] []), (.ret (.cst .non))]
def t_next_fault : List T := [(.ife (.cmp .GtE (.idx (.var 1) (.cst (dn 3))) (.blt .len [(.var 0)])) [(.ret (.cst (.str "place")))] []), (.asg (.name 2) (.idx (.var 0) (.idx (.var 1) (.cst (dn 3))))), (.ife (.cmp .In (.idx (.var 2) (.cst (dn 0))) (.tup [(.cst (.str "cell")), (.cst (.str "fill")), (.cst (.str "count")), (.cst (.str "find")), (.cst (.str "value")), (.cst (.str "change"))])) [(.ret (.call "table_fault" [(.var 2), (.var 1)]))] []), (.ife (.cmp .In (.idx (.var 2) (.cst (dn 0))) (.tup [(.cst (.str "byte")), (.cst (.str "pair")), (.cst (.str "write"))])) [(.ret (.call "packet_fault" [(.var 2), (.var 1)]))] []), (.ret (.cst .non))]
def t_set_word : List T := [(.ret (.idx (.var 0) (.cst (dn 2))))]
def t_moved_word : List T := [(.ret (.idx (.idx (.var 1) (.cst (dn 0))) (.idx (.var 0) (.cst (dn 2)))))]
def t_length_word : List T := [(.ret (.blt .len [(.idx (.var 1) (.cst (dn 4)))]))]
def t_taken_word : List T := [(.ret (.idx (.idx (.var 1) (.cst (dn 1))) (.idx (.var 0) (.cst (dn 2)))))]
def t_combined_word : List T := [(.ret (.call "combined" [(.idx (.var 0) (.cst (dn 0))), (.idx (.idx (.var 1) (.cst (dn 0))) (.idx (.var 0) (.cst (dn 1)))), (.idx (.idx (.var 1) (.cst (dn 0))) (.idx (.var 0) (.cst (dn 2))))]))]
def t_combined_number : List T := [(.ret (.call "combined" [(.sl (.idx (.var 0) (.cst (dn 0))) false true (.cst .non) (.neg (.cst (dn 1)))), (.idx (.idx (.var 1) (.cst (dn 0))) (.idx (.var 0) (.cst (dn 1)))), (.idx (.var 0) (.cst (dn 2)))]))]
def t_byte_word : List T := [(.ret (.idx (.idx (.var 1) (.cst (dn 4))) (.bin .Add (.idx (.idx (.var 1) (.cst (dn 0))) (.idx (.var 0) (.cst (dn 2)))) (.idx (.var 0) (.cst (dn 3))))))]
def t_pair_word : List T := [(.asg (.name 2) (.bin .Add (.idx (.idx (.var 1) (.cst (dn 0))) (.idx (.var 0) (.cst (dn 2)))) (.idx (.var 0) (.cst (dn 3))))), (.ret (.bin .Add (.bin .Mult (.cst (dn 256)) (.idx (.idx (.var 1) (.cst (dn 4))) (.var 2))) (.idx (.idx (.var 1) (.cst (dn 4))) (.bin .Add (.var 2) (.cst (dn 1))))))]
def t_cell_word : List T := [(.ret (.idx (.idx (.idx (.idx (.var 1) (.cst (dn 5))) (.idx (.var 0) (.cst (dn 2)))) (.cst (dn 2))) (.idx (.idx (.var 1) (.cst (dn 0))) (.idx (.var 0) (.cst (dn 3))))))]
def t_found_word : List T := [(.asg (.name 2) (.call "pair_index" [(.idx (.idx (.idx (.var 1) (.cst (dn 5))) (.idx (.var 0) (.cst (dn 2)))) (.cst (dn 2))), (.idx (.idx (.var 1) (.cst (dn 0))) (.idx (.var 0) (.cst (dn 3))))])), (.ret (.ife (.cmp .Is (.var 2) (.cst .non)) (.cst (dn 0)) (.bin .Add (.var 2) (.cst (dn 1)))))]
def t_value_word : List T := [(.ret (.idx (.idx (.idx (.idx (.idx (.var 1) (.cst (dn 5))) (.idx (.var 0) (.cst (dn 2)))) (.cst (dn 2))) (.bin .Sub (.idx (.idx (.var 1) (.cst (dn 0))) (.idx (.var 0) (.cst (dn 3)))) (.cst (dn 1)))) (.cst (dn 1))))]
def t_asked_word : List T := [(.ife (.cmp .Eq (.idx (.var 0) (.cst (dn 2))) (.cst (.str "clock"))) [(.ret (.idx (.var 1) (.cst (dn 6))))] []), (.asg (.name 2) (.idx (.idx (.var 1) (.cst (dn 0))) (.idx (.var 0) (.cst (dn 3))))), (.ret (.ife (.cmp .Eq (.idx (.var 0) (.cst (dn 2))) (.cst (.str "ones"))) (.call "ones_in" [(.var 2)]) (.call "mixed" [(.var 2)])))]
def t_with_content : List T := [(.asg (.name 3) (.call "exchanged" [(.idx (.idx (.var 0) (.cst (dn 5))) (.var 1)), (.cst (dn 2)), (.var 2)])), (.ret (.call "exchanged" [(.var 0), (.cst (dn 5)), (.call "exchanged" [(.idx (.var 0) (.cst (dn 5))), (.var 1), (.var 3)])]))]
def t_kept : List T := [(.ret (.call "exchanged" [(.var 1), (.cst (dn 1)), (.call "exchanged" [(.idx (.var 1) (.cst (dn 1))), (.idx (.var 0) (.cst (dn 2))), (.idx (.idx (.var 1) (.cst (dn 0))) (.idx (.var 0) (.cst (dn 1))))])]))]
def t_written : List T := [(.asg (.name 2) (.bin .Add (.idx (.idx (.var 1) (.cst (dn 0))) (.idx (.var 0) (.cst (dn 2)))) (.idx (.var 0) (.cst (dn 3))))), (.ret (.call "exchanged" [(.var 1), (.cst (dn 4)), (.call "exchanged" [(.idx (.var 1) (.cst (dn 4))), (.var 2), (.bin .BitAnd (.idx (.idx (.var 1) (.cst (dn 0))) (.idx (.var 0) (.cst (dn 1)))) (.cst (dn 255)))])]))]
def t_filled : List T := [(.asg (.name 2) (.idx (.idx (.idx (.var 1) (.cst (dn 5))) (.idx (.var 0) (.cst (dn 2)))) (.cst (dn 2)))), (.ret (.call "with_content" [(.var 1), (.idx (.var 0) (.cst (dn 2))), (.call "exchanged" [(.var 2), (.idx (.idx (.var 1) (.cst (dn 0))) (.idx (.var 0) (.cst (dn 3)))), (.idx (.idx (.var 1) (.cst (dn 0))) (.idx (.var 0) (.cst (dn 1))))])]))]
def t_counted : List T := [(.par [2, 3] [(.idx (.idx (.idx (.var 1) (.cst (dn 5))) (.idx (.var 0) (.cst (dn 1)))) (.cst (dn 2))), (.idx (.idx (.var 1) (.cst (dn 0))) (.idx (.var 0) (.cst (dn 2))))]), (.ret (.call "with_content" [(.var 1), (.idx (.var 0) (.cst (dn 1))), (.call "exchanged" [(.var 2), (.var 3), (.bin .BitAnd (.bin .Add (.idx (.var 2) (.var 3)) (.cst (dn 1))) (.cst (dn 65535)))])]))]
def t_changed : List T := [(.par [2, 3] [(.idx (.idx (.idx (.var 1) (.cst (dn 5))) (.idx (.var 0) (.cst (dn 2)))) (.cst (dn 2))), (.bin .Sub (.idx (.idx (.var 1) (.cst (dn 0))) (.idx (.var 0) (.cst (dn 3)))) (.cst (dn 1)))]), (.asg (.name 4) (.tup [(.idx (.idx (.var 2) (.var 3)) (.cst (dn 0))), (.idx (.idx (.var 1) (.cst (dn 0))) (.idx (.var 0) (.cst (dn 1))))])), (.ret (.call "with_content" [(.var 1), (.idx (.var 0) (.cst (dn 2))), (.call "exchanged" [(.var 2), (.var 3), (.var 4)])]))]
def t_begun_again : List T := [(.ret (.call "exchanged" [(.var 1), (.cst (dn 2)), (.call "exchanged" [(.idx (.var 1) (.cst (dn 2))), (.idx (.var 0) (.cst (dn 1))), (.cst (dn 0))])]))]
def t_leads_to : List T := [(.asg (.name 2) (.idx (.var 1) (.cst (dn 0)))), (.ife (.cmp .Eq (.idx (.var 0) (.cst (dn 0))) (.cst (.str "jump"))) [(.ret (.idx (.var 0) (.cst (dn 1))))] []), (.ife (.cmp .Eq (.idx (.var 0) (.cst (dn 0))) (.cst (.str "again"))) [(.ret (.ife (.cmp .Lt (.idx (.idx (.var 1) (.cst (dn 2))) (.idx (.var 0) (.cst (dn 1)))) (.idx (.var 0) (.cst (dn 2)))) (.idx (.var 0) (.cst (dn 3))) (.cst .non)))] []), (.asg (.name 3) (.ife (.cmp .Eq (.idx (.var 0) (.cst (dn 0))) (.cst (.str "when"))) (.idx (.var 2) (.idx (.var 0) (.cst (dn 3)))) (.idx (.var 0) (.cst (dn 3))))), (.ret (.ife (.call "related" [(.idx (.var 0) (.cst (dn 1))), (.idx (.var 2) (.idx (.var 0) (.cst (dn 2)))), (.var 3)]) (.idx (.var 0) (.cst (dn 4))) (.cst .non)))]
def t_gone_on : List T := [(.asg (.name 2) (.call "leads_to" [(.var 0), (.var 1)])), (.ife (.cmp .Is (.var 2) (.cst .non)) [(.ret (.call "exchanged" [(.var 1), (.cst (dn 3)), (.bin .Add (.idx (.var 1) (.cst (dn 3))) (.cst (dn 1)))]))] []), (.ife (.cmp .Eq (.idx (.var 0) (.cst (dn 0))) (.cst (.str "again"))) [(.asg (.name 3) (.idx (.var 1) (.cst (dn 2)))), (.asg (.name 1) (.call "exchanged" [(.var 1), (.cst (dn 2)), (.call "exchanged" [(.var 3), (.idx (.var 0) (.cst (dn 1))), (.bin .Add (.idx (.var 3) (.idx (.var 0) (.cst (dn 1)))) (.cst (dn 1)))])]))] []), (.ret (.call "exchanged" [(.var 1), (.cst (dn 3)), (.var 2)]))]
def t_done : List T := [(.asg (.name 2) (.idx (.var 0) (.cst (dn 0)))), (.ife (.cmp .In (.var 2) (.glob "WORDS")) [(.asg (.name 3) (.idx (.glob "WORDS") (.var 2))), (.asg (.name 4) (.call "exchanged" [(.idx (.var 1) (.cst (dn 0))), (.idx (.var 0) (.cst (dn 1))), (.calll 3 [(.var 0), (.var 1)])])), (.ret (.bin .Add (.bin .Add (.bin .Add (.tup [(.var 4)]) (.sl (.var 1) true true (.cst (dn 1)) (.cst (dn 3)))) (.tup [(.bin .Add (.idx (.var 1) (.cst (dn 3))) (.cst (dn 1)))])) (.sl (.var 1) true false (.cst (dn 4)) (.cst .non))))] []), (.ife (.cmp .In (.var 2) (.glob "CHANGES")) [(.asg (.name 5) (.idx (.glob "CHANGES") (.var 2))), (.ret (.call "exchanged" [(.calll 5 [(.var 0), (.var 1)]), (.cst (dn 3)), (.bin .Add (.idx (.var 1) (.cst (dn 3))) (.cst (dn 1)))]))] []), (.ife (.cmp .Eq (.var 2) (.cst (.str "answer"))) [(.ret (.call "exchanged" [(.var 1), (.cst (dn 8)), (.tup [(.cst (.str "answer")), (.idx (.idx (.var 1) (.cst (dn 0))) (.idx (.var 0) (.cst (dn 1))))])]))] []), (.ret (.call "gone_on" [(.var 0), (.var 1)]))]
def t_stepped : List T := [(.ife (.cmp .IsNot (.idx (.var 1) (.cst (dn 8))) (.cst .non)) [(.ret (.var 1))] []), (.asg (.name 2) (.call "next_fault" [(.var 0), (.var 1)])), (.ife (.cmp .IsNot (.var 2) (.cst .non)) [(.asg (.name 1) (.call "exchanged" [(.var 1), (.cst (dn 8)), (.tup [(.cst (.str "fault")), (.var 2)])]))] [(.asg (.name 1) (.call "done" [(.idx (.var 0) (.idx (.var 1) (.cst (dn 3)))), (.var 1)]))]), (.ret (.call "exchanged" [(.var 1), (.cst (dn 7)), (.bin .Add (.idx (.var 1) (.cst (dn 7))) (.cst (dn 1)))]))]
def t_is_byte : List T := [(.ret (.call "is_between" [(.var 0), (.cst (dn 0)), (.cst (dn 255))]))]
def t_is_packet : List T := [(.ret (.call "are_all" [(.var 0), (.cst (dn 0)), (.cst (dn 256)), (.cst (.fn "is_byte"))]))]
def t_is_pair : List T := [(.ret (.call "are_all" [(.var 0), (.cst (dn 2)), (.cst (dn 2)), (.cst (.fn "is_word"))]))]
def t_are_pairs : List T := [(.ife (.not' (.call "are_all" [(.var 0), (.cst (dn 0)), (.cst (dn 16)), (.cst (.fn "is_pair"))])) [(.ret (.cst (.bl false)))] []), (.asg (.name 1) (.comp [2] [2] true 0 [(.var 0)] false (.cst .non) (.idx (.var 2) (.cst (dn 0))))), (.ret (.gen false [none, none] [0, 1] false 3 [(.var 1), (.sl (.var 1) true false (.cst (dn 1)) (.cst .non))] (.cmp .Lt (.var 0) (.var 1))))]
def t_is_headed : List T := [(.ret (.and' (.call "is_tuple" [(.var 0), (.cst (dn 3)), (.cst (dn 3))]) (.and' (.blt .isinstance [(.idx (.var 0) (.cst (dn 0))), (.cst (.ty "str"))]) (.call "is_flag" [(.idx (.var 0) (.cst (dn 1)))]))))]
def t_is_table : List T := [(.ife (.not' (.call "is_headed" [(.var 0)])) [(.ret (.cst (.bl false)))] []), (.ife (.cmp .Eq (.idx (.var 0) (.cst (dn 0))) (.cst (.str "array"))) [(.ret (.call "are_all" [(.idx (.var 0) (.cst (dn 2))), (.cst (dn 1)), (.cst (dn 32)), (.cst (.fn "is_word"))]))] []), (.ret (.and' (.cmp .Eq (.idx (.var 0) (.cst (dn 0))) (.cst (.str "pairs"))) (.call "are_pairs" [(.idx (.var 0) (.cst (dn 2)))])))]
def t_are_tables : List T := [(.ret (.call "are_all" [(.var 0), (.cst (dn 0)), (.cst (dn 6)), (.cst (.fn "is_table"))]))]
def t_has_fields : List T := [(.ife (.or' (.not' (.blt .isinstance [(.var 0), (.cst (.ty "tuple"))])) (.or' (.not' (.var 0)) (.not' (.blt .isinstance [(.idx (.var 0) (.cst (dn 0))), (.cst (.ty "str"))])))) [(.ret (.cst (.bl false)))] []), (.ret (.and' (.cmp .In (.idx (.var 0) (.cst (dn 0))) (.glob "FIELDS")) (.cmp .Eq (.blt .len [(.var 0)]) (.bin .Add (.cst (dn 1)) (.blt .len [(.idx (.glob "FIELDS") (.idx (.var 0) (.cst (dn 0))))])))))]
def t_is_field : List T := [(.ife (.cmp .Eq (.var 0) (.cst (.str "condition"))) [(.ret (.call "is_one_of" [(.var 1), (.glob "CONDITIONS")]))] []), (.ife (.cmp .Eq (.var 0) (.cst (.str "helper"))) [(.ret (.call "is_one_of" [(.var 1), (.glob "HELPERS")]))] []), (.tup [(.name 2), (.name 3)] (.idx (.glob "BOUNDS") (.var 0))), (.ret (.call "is_between" [(.var 1), (.var 2), (.var 3)]))]
def t_is_row_form : List T := [(.ife (.not' (.call "has_fields" [(.var 0)])) [(.ret (.cst (.bl false)))] []), (.ret (.gen false [none, none] [0, 1] false 3 [(.idx (.glob "FIELDS") (.idx (.var 0) (.cst (dn 0)))), (.sl (.var 0) true false (.cst (dn 1)) (.cst .non))] (.call "is_field" [(.var 0), (.var 1)])))]
def t_is_row : List T := [(.ret (.call "is_row_form" [(.var 0)]))]
def t_is_count : List T := [(.ret (.call "is_between" [(.var 0), (.cst (dn 0)), (.cst (dn 100))]))]
def t_is_end : List T := [(.ife (.cmp .Is (.var 0) (.cst .non)) [(.ret (.cst (.bl true)))] []), (.ife (.or' (.not' (.call "is_tuple" [(.var 0), (.cst (dn 2)), (.cst (dn 2))])) (.not' (.blt .isinstance [(.idx (.var 0) (.cst (dn 0))), (.cst (.ty "str"))]))) [(.ret (.cst (.bl false)))] []), (.ife (.cmp .Eq (.idx (.var 0) (.cst (dn 0))) (.cst (.str "answer"))) [(.ret (.call "is_word" [(.idx (.var 0) (.cst (dn 1)))]))] []), (.ret (.and' (.cmp .Eq (.idx (.var 0) (.cst (dn 0))) (.cst (.str "fault"))) (.call "is_one_of" [(.idx (.var 0) (.cst (dn 1))), (.glob "FAULTS")])))]
def t_run_parts : List T := [(.ret (.tup [(.call "are_all" [(.idx (.var 0) (.cst (dn 0))), (.cst (dn 8)), (.cst (dn 8)), (.cst (.fn "is_word"))]), (.call "are_all" [(.idx (.var 0) (.cst (dn 1))), (.cst (dn 16)), (.cst (dn 16)), (.cst (.fn "is_word"))]), (.call "are_all" [(.idx (.var 0) (.cst (dn 2))), (.cst (dn 4)), (.cst (dn 4)), (.cst (.fn "is_count"))]), (.call "is_between" [(.idx (.var 0) (.cst (dn 3))), (.cst (dn 0)), (.cst (dn 120))]), (.call "is_packet" [(.idx (.var 0) (.cst (dn 4)))]), (.call "are_tables" [(.idx (.var 0) (.cst (dn 5)))]), (.call "is_word" [(.idx (.var 0) (.cst (dn 6)))]), (.call "is_from_nought" [(.idx (.var 0) (.cst (dn 7)))]), (.call "is_end" [(.idx (.var 0) (.cst (dn 8)))]), (.call "is_flag" [(.idx (.var 0) (.cst (dn 9)))])]))]
def t_need_sieve : List T := [(.ife (.not' (.call "is_tuple" [(.var 0), (.cst (dn 1)), (.cst (dn 120))])) [.stop] []), (.asg (.name 1) (.call "first_bad" [(.var 0), (.cst (.fn "is_row"))])), (.ife (.cmp .IsNot (.var 1) (.cst .non)) [.stop] [])]
def t_need_run : List T := [(.ife (.not' (.call "is_tuple" [(.var 0), (.cst (dn 10)), (.cst (dn 10))])) [.stop] []), (.for' [1, 2] false 2 [(.call "run_parts" [(.var 0)])] [(.ife (.not' (.var 2)) [.stop] [])])]
def t_need_steps : List T := [(.ife (.not' (.call "is_between" [(.var 0), (.cst (dn 0)), (.glob "MOST_STEPS")])) [.stop] [])]
def t_run_far : List T := [(.asg (.name 3) (.var 2)), (.while' (.and' (.cmp .Gt (.var 3) (.cst (dn 0))) (.cmp .Is (.idx (.var 1) (.cst (dn 8))) (.cst .non))) [(.asg (.name 1) (.call "stepped" [(.var 0), (.var 1)])), (.aug 3 .Sub (.cst (dn 1)))]), (.ret (.var 1))]
def t_one_step : List T := [(.expr (.call "need_sieve" [(.var 0)])), (.expr (.call "need_run" [(.var 1)])), (.ret (.call "stepped" [(.var 0), (.var 1)]))]
def t_run_on : List T := [(.expr (.call "need_sieve" [(.var 0)])), (.expr (.call "need_run" [(.var 1)])), (.expr (.call "need_steps" [(.var 2)])), (.ret (.call "run_far" [(.var 0), (.var 1), (.var 2)]))]
def t_fault_of : List T := [(.expr (.call "need_sieve" [(.var 0)])), (.expr (.call "need_run" [(.var 1)])), (.ret (.ife (.cmp .IsNot (.idx (.var 1) (.cst (dn 8))) (.cst .non)) (.cst .non) (.call "next_fault" [(.var 0), (.var 1)])))]
def t__law_dip : List T := [(.ife (.cmp .Gt (.idx (.var 0) (.cst (dn 0))) (.cst (dn 0))) [(.tup [(.sub (.var 0) (.cst (dn 0))), (.name 2)] (.blt .divmod [(.idx (.var 0) (.cst (dn 0))), (.var 1)])), (.ret (.var 2))] []), (.asg (.sub (.var 0) (.cst (dn 2))) (.bin .Add (.idx (.var 0) (.cst (dn 2))) (.cst (dn 1)))), (.asg (.name 3) (.bin .Mod (.blt .int [(.bin .Add (.idx (.var 0) (.cst (dn 1))) (.bin .Mult (.cst (dn 28657)) (.idx (.var 0) (.cst (dn 2)))))]) (.cst (dn 2147483399)))), (.asg (.sub (.var 0) (.cst (dn 1))) (.bin .Mod (.blt .int [(.bin .Add (.bin .Mult (.var 3) (.bin .Add (.bin .Mod (.blt .int [(.var 3)]) (.cst (dn 5003))) (.cst (dn 48271)))) (.bin .Mult (.cst (dn 17)) (.idx (.var 0) (.cst (dn 2)))))]) (.cst (dn 2147483399)))), (.ret (.bin .Mod (.blt .int [(.bin .FloorDiv (.idx (.var 0) (.cst (dn 1))) (.cst (dn 613)))]) (.var 1)))]
def t__law_one_of : List T := [(.ret (.idx (.var 1) (.call "_law_dip" [(.var 0), (.blt .len [(.var 1)])])))]
def t__law_same : List T := [(.ret (.cmp .Eq (.blt .repr [(.var 0)]) (.blt .repr [(.var 1)])))]
def t__law_put : List T := [(.ret (.bin .Add (.bin .Add (.sl (.var 0) false true (.cst .non) (.var 1)) (.tup [(.var 2)])) (.sl (.var 0) true false (.bin .Add (.var 1) (.cst (dn 1))) (.cst .non))))]
def t__law_reckon : List T := [(.ife (.cmp .Eq (.var 0) (.cst (.str "add"))) [(.ret (.bin .Mod (.blt .int [(.bin .Add (.var 1) (.var 2))]) (.cst (dn 65536))))] []), (.ife (.cmp .Eq (.var 0) (.cst (.str "sub"))) [(.ret (.bin .Mod (.blt .int [(.bin .Sub (.var 1) (.var 2))]) (.cst (dn 65536))))] []), (.ife (.cmp .Eq (.var 0) (.cst (.str "and"))) [(.ret (.bin .BitAnd (.var 1) (.var 2)))] []), (.ife (.cmp .Eq (.var 0) (.cst (.str "or"))) [(.ret (.bin .BitOr (.var 1) (.var 2)))] []), (.ife (.cmp .Eq (.var 0) (.cst (.str "xor"))) [(.ret (.bin .BitXor (.var 1) (.var 2)))] []), (.asg (.name 3) (.bin .Mod (.blt .int [(.var 2)]) (.cst (dn 16)))), (.ret (.ife (.cmp .Eq (.var 0) (.cst (.str "left"))) (.bin .Mod (.blt .int [(.bin .LShift (.var 1) (.var 3))]) (.cst (dn 65536))) (.bin .RShift (.var 1) (.var 3))))]
def t__law_holds : List T := [(.asg (.name 3) (.bin .BitAnd (.var 1) (.var 2))), (.asg (.name 4) (.newd [(.inr "same"), (.inr "other"), (.inr "below"), (.inr "from")] [(.cmp .Eq (.var 1) (.var 2)), (.cmp .NotEq (.var 1) (.var 2)), (.cmp .Lt (.var 1) (.var 2)), (.cmp .GtE (.var 1) (.var 2))])), (.update (.var 4) (.newd [(.inr "bit"), (.inr "nobit")] [(.cmp .NotEq (.var 3) (.cst (dn 0))), (.cmp .Eq (.var 3) (.cst (dn 0)))])), (.ret (.idx (.var 4) (.var 0)))]
def t__law_table : List T := [(.asg (.name 2) (.ife (.cmp .Eq (.idx (.var 1) (.cst (dn 0))) (.cst (.str "count"))) (.idx (.var 1) (.cst (dn 1))) (.idx (.var 1) (.cst (dn 2))))), (.ife (.cmp .GtE (.var 2) (.blt .len [(.idx (.var 0) (.cst (dn 5)))])) [(.ret (.cst .non))] []), (.par [3, 4] [(.idx (.idx (.var 0) (.cst (dn 5))) (.var 2)), (.ife (.cmp .In (.idx (.var 1) (.cst (dn 0))) (.tup [(.cst (.str "cell")), (.cst (.str "fill")), (.cst (.str "count"))])) (.cst (.str "array")) (.cst (.str "pairs")))]), (.ife (.or' (.cmp .NotEq (.idx (.var 3) (.cst (dn 0))) (.var 4)) (.and' (.cmp .In (.idx (.var 1) (.cst (dn 0))) (.tup [(.cst (.str "fill")), (.cst (.str "count")), (.cst (.str "change"))])) (.cmp .Eq (.idx (.var 3) (.cst (dn 1))) (.cst (dn 0))))) [(.ret (.cst .non))] []), (.ret (.var 3))]
def t__law_fault : List T := [(.ife (.cmp .GtE (.idx (.var 1) (.cst (dn 3))) (.blt .len [(.var 0)])) [(.ret (.cst (.str "place")))] []), (.asg (.name 2) (.idx (.var 0) (.idx (.var 1) (.cst (dn 3))))), (.ife (.cmp .In (.idx (.var 2) (.cst (dn 0))) (.tup [(.cst (.str "cell")), (.cst (.str "fill")), (.cst (.str "count")), (.cst (.str "find")), (.cst (.str "value")), (.cst (.str "change"))])) [(.par [3, 4] [(.call "_law_table" [(.var 1), (.var 2)]), (.idx (.idx (.var 1) (.cst (dn 0))) (.idx (.var 2) (.bin .Sub (.blt .len [(.var 2)]) (.cst (dn 1)))))]), (.ife (.cmp .Is (.var 3) (.cst .non)) [(.ret (.cst (.str "table")))] []), (.ife (.cmp .Eq (.idx (.var 3) (.cst (dn 0))) (.cst (.str "array"))) [(.ret (.ife (.cmp .GtE (.var 4) (.blt .len [(.idx (.var 3) (.cst (dn 2)))])) (.cst (.str "index")) (.cst .non)))] []), (.ret (.ife (.and' (.cmp .NotEq (.idx (.var 2) (.cst (dn 0))) (.cst (.str "find"))) (.or' (.cmp .Eq (.var 4) (.cst (dn 0))) (.cmp .Gt (.var 4) (.blt .len [(.idx (.var 3) (.cst (dn 2)))])))) (.cst (.str "handle")) (.cst .non)))] []), (.ife (.cmp .In (.idx (.var 2) (.cst (dn 0))) (.tup [(.cst (.str "byte")), (.cst (.str "pair")), (.cst (.str "write"))])) [(.ife (.cmp .GtE (.bin .Add (.bin .Add (.idx (.idx (.var 1) (.cst (dn 0))) (.idx (.var 2) (.cst (dn 2)))) (.idx (.var 2) (.cst (dn 3)))) (.blt .int [(.cmp .Eq (.idx (.var 2) (.cst (dn 0))) (.cst (.str "pair")))])) (.blt .len [(.idx (.var 1) (.cst (dn 4)))])) [(.ret (.cst (.str "packet")))] []), (.ret (.ife (.and' (.cmp .Eq (.idx (.var 2) (.cst (dn 0))) (.cst (.str "write"))) (.cmp .Eq (.idx (.var 1) (.cst (dn 9))) (.cst (dn 0)))) (.cst (.str "grant")) (.cst .non)))] []), (.ret (.cst .non))]
def t__law_set : List T := [(.ret (.bin .Add (.tup [(.call "_law_put" [(.idx (.var 0) (.cst (dn 0))), (.var 1), (.var 2)])]) (.sl (.var 0) true false (.cst (dn 1)) (.cst .non))))]
def t__law_asked : List T := [(.ife (.cmp .Eq (.var 1) (.cst (.str "clock"))) [(.ret (.idx (.var 0) (.cst (dn 6))))] []), (.ret (.ife (.cmp .Eq (.var 1) (.cst (.str "mix"))) (.bin .Mod (.blt .int [(.bin .Add (.bin .Mult (.var 2) (.cst (dn 40503))) (.cst (dn 1)))]) (.cst (dn 65536))) (.blt .len [(.comp [3] [3] true 1 [(.cst (dn 16))] true (.cmp .Eq (.bin .BitAnd (.bin .RShift (.var 2) (.var 3)) (.cst (dn 1))) (.cst (dn 1))) (.var 3))])))]
def t__law_plain : List T := [(.par [2, 3] [(.idx (.var 1) (.cst (dn 0))), (.idx (.var 0) (.cst (dn 0)))]), (.ife (.cmp .In (.var 2) (.tup [(.cst (.str "set")), (.cst (.str "length"))])) [(.ret (.call "_law_set" [(.var 0), (.idx (.var 1) (.cst (dn 1))), (.ife (.cmp .Eq (.var 2) (.cst (.str "set"))) (.idx (.var 1) (.cst (dn 2))) (.blt .len [(.idx (.var 0) (.cst (dn 4)))]))]))] []), (.ife (.cmp .In (.var 2) (.tup [(.cst (.str "move")), (.cst (.str "take"))])) [(.ret (.call "_law_set" [(.var 0), (.idx (.var 1) (.cst (dn 1))), (.ife (.cmp .Eq (.var 2) (.cst (.str "move"))) (.idx (.var 3) (.idx (.var 1) (.cst (dn 2)))) (.idx (.idx (.var 0) (.cst (dn 1))) (.idx (.var 1) (.cst (dn 2)))))]))] []), (.ife (.cmp .Eq (.var 2) (.cst (.str "keep"))) [(.ret (.bin .Add (.bin .Add (.sl (.var 0) false true (.cst .non) (.cst (dn 1))) (.tup [(.call "_law_put" [(.idx (.var 0) (.cst (dn 1))), (.idx (.var 1) (.cst (dn 2))), (.idx (.var 3) (.idx (.var 1) (.cst (dn 1))))])])) (.sl (.var 0) true false (.cst (dn 2)) (.cst .non))))] []), (.ife (.cmp .Eq (.var 2) (.cst (.str "begin"))) [(.ret (.bin .Add (.bin .Add (.sl (.var 0) false true (.cst .non) (.cst (dn 2))) (.tup [(.call "_law_put" [(.idx (.var 0) (.cst (dn 2))), (.idx (.var 1) (.cst (dn 1))), (.cst (dn 0))])])) (.sl (.var 0) true false (.cst (dn 3)) (.cst .non))))] []), (.ife (.cmp .Eq (.var 2) (.cst (.str "ask"))) [(.ret (.call "_law_set" [(.var 0), (.idx (.var 1) (.cst (dn 1))), (.call "_law_asked" [(.var 0), (.idx (.var 1) (.cst (dn 2))), (.idx (.var 3) (.idx (.var 1) (.cst (dn 3))))])]))] []), (.ife (.cmp .In (.var 2) (.tup [(.cst (.str "add")), (.cst (.str "sub")), (.cst (.str "and")), (.cst (.str "or")), (.cst (.str "xor")), (.cst (.str "left")), (.cst (.str "right"))])) [(.ret (.call "_law_set" [(.var 0), (.idx (.var 1) (.cst (dn 1))), (.call "_law_reckon" [(.var 2), (.idx (.var 3) (.idx (.var 1) (.cst (dn 1)))), (.idx (.var 3) (.idx (.var 1) (.cst (dn 2))))])]))] []), (.ife (.cmp .In (.var 2) (.tup [(.cst (.str "addn")), (.cst (.str "andn")), (.cst (.str "orn")), (.cst (.str "xorn")), (.cst (.str "leftn")), (.cst (.str "rightn"))])) [(.ret (.call "_law_set" [(.var 0), (.idx (.var 1) (.cst (dn 1))), (.call "_law_reckon" [(.sl (.var 2) false true (.cst .non) (.bin .Sub (.blt .len [(.var 2)]) (.cst (dn 1)))), (.idx (.var 3) (.idx (.var 1) (.cst (dn 1)))), (.idx (.var 1) (.cst (dn 2)))])]))] []), (.ret (.cst .non))]
def t__law_reach : List T := [(.par [2, 3, 4] [(.idx (.var 1) (.cst (dn 0))), (.idx (.var 0) (.cst (dn 0))), (.idx (.var 0) (.cst (dn 4)))]), (.ife (.cmp .In (.var 2) (.tup [(.cst (.str "byte")), (.cst (.str "pair"))])) [(.asg (.name 5) (.bin .Add (.idx (.var 3) (.idx (.var 1) (.cst (dn 2)))) (.idx (.var 1) (.cst (dn 3))))), (.ret (.call "_law_set" [(.var 0), (.idx (.var 1) (.cst (dn 1))), (.ife (.cmp .Eq (.var 2) (.cst (.str "byte"))) (.idx (.var 4) (.var 5)) (.bin .Add (.bin .Mult (.idx (.var 4) (.var 5)) (.cst (dn 256))) (.idx (.var 4) (.bin .Add (.var 5) (.cst (dn 1))))))]))] []), (.ife (.cmp .Eq (.var 2) (.cst (.str "write"))) [(.asg (.name 6) (.call "_law_put" [(.var 4), (.bin .Add (.idx (.var 3) (.idx (.var 1) (.cst (dn 2)))) (.idx (.var 1) (.cst (dn 3)))), (.bin .Mod (.blt .int [(.idx (.var 3) (.idx (.var 1) (.cst (dn 1))))]) (.cst (dn 256)))])), (.ret (.bin .Add (.bin .Add (.sl (.var 0) false true (.cst .non) (.cst (dn 4))) (.tup [(.var 6)])) (.sl (.var 0) true false (.cst (dn 5)) (.cst .non))))] []), (.asg (.name 7) (.ife (.cmp .Eq (.var 2) (.cst (.str "count"))) (.idx (.var 1) (.cst (dn 1))) (.idx (.var 1) (.cst (dn 2))))), (.tup [(.name 8), (.name 9)] (.tup [(.idx (.idx (.var 0) (.cst (dn 5))) (.var 7)), (.idx (.var 3) (.idx (.var 1) (.bin .Sub (.blt .len [(.var 1)]) (.cst (dn 1)))))])), (.asg (.name 10) (.idx (.var 8) (.cst (dn 2)))), (.ife (.cmp .Eq (.var 2) (.cst (.str "find"))) [(.asg (.name 11) (.comp [5] [5] true 1 [(.blt .len [(.var 10)])] true (.cmp .Eq (.idx (.idx (.var 10) (.var 5)) (.cst (dn 0))) (.var 9)) (.bin .Add (.var 5) (.cst (dn 1))))), (.ret (.call "_law_set" [(.var 0), (.idx (.var 1) (.cst (dn 1))), (.ife (.cmp .NotEq (.var 11) (.lst [])) (.idx (.var 11) (.cst (dn 0))) (.cst (dn 0)))]))] []), (.ife (.cmp .In (.var 2) (.tup [(.cst (.str "cell")), (.cst (.str "value"))])) [(.ret (.call "_law_set" [(.var 0), (.idx (.var 1) (.cst (dn 1))), (.ife (.cmp .Eq (.var 2) (.cst (.str "cell"))) (.idx (.var 10) (.var 9)) (.idx (.idx (.var 10) (.bin .Sub (.var 9) (.cst (dn 1)))) (.cst (dn 1))))]))] []), (.ife (.cmp .Eq (.var 2) (.cst (.str "change"))) [(.asg (.name 6) (.call "_law_put" [(.var 10), (.bin .Sub (.var 9) (.cst (dn 1))), (.tup [(.idx (.idx (.var 10) (.bin .Sub (.var 9) (.cst (dn 1)))) (.cst (dn 0))), (.idx (.var 3) (.idx (.var 1) (.cst (dn 1))))])]))] [(.asg (.name 6) (.call "_law_put" [(.var 10), (.var 9), (.ife (.cmp .Eq (.var 2) (.cst (.str "fill"))) (.idx (.var 3) (.idx (.var 1) (.cst (dn 1)))) (.bin .Mod (.blt .int [(.bin .Add (.idx (.var 10) (.var 9)) (.cst (dn 1)))]) (.cst (dn 65536))))]))]), (.ret (.bin .Add (.bin .Add (.sl (.var 0) false true (.cst .non) (.cst (dn 5))) (.tup [(.call "_law_put" [(.idx (.var 0) (.cst (dn 5))), (.var 7), (.bin .Add (.sl (.var 8) false true (.cst .non) (.cst (dn 2))) (.tup [(.var 6)]))])])) (.sl (.var 0) true false (.cst (dn 6)) (.cst .non))))]
def t__law_way : List T := [(.par [2, 3, 4] [(.idx (.var 1) (.cst (dn 0))), (.idx (.var 0) (.cst (dn 0))), (.bin .Add (.idx (.var 0) (.cst (dn 3))) (.cst (dn 1)))]), (.ife (.cmp .Eq (.var 2) (.cst (.str "answer"))) [(.ret (.bin .Add (.bin .Add (.sl (.var 0) false true (.cst .non) (.cst (dn 8))) (.tup [(.tup [(.cst (.str "answer")), (.idx (.var 3) (.idx (.var 1) (.cst (dn 1))))])])) (.sl (.var 0) true false (.cst (dn 9)) (.cst .non))))] []), (.ife (.cmp .Eq (.var 2) (.cst (.str "jump"))) [(.asg (.name 4) (.idx (.var 1) (.cst (dn 1))))] [(.ife (.cmp .In (.var 2) (.tup [(.cst (.str "when")), (.cst (.str "whenn"))])) [(.asg (.name 5) (.ife (.cmp .Eq (.var 2) (.cst (.str "when"))) (.idx (.var 3) (.idx (.var 1) (.cst (dn 3)))) (.idx (.var 1) (.cst (dn 3))))), (.asg (.name 4) (.ife (.call "_law_holds" [(.idx (.var 1) (.cst (dn 1))), (.idx (.var 3) (.idx (.var 1) (.cst (dn 2)))), (.var 5)]) (.idx (.var 1) (.cst (dn 4))) (.var 4)))] [(.ife (.cmp .Lt (.idx (.idx (.var 0) (.cst (dn 2))) (.idx (.var 1) (.cst (dn 1)))) (.idx (.var 1) (.cst (dn 2)))) [(.asg (.name 0) (.bin .Add (.bin .Add (.sl (.var 0) false true (.cst .non) (.cst (dn 2))) (.tup [(.call "_law_put" [(.idx (.var 0) (.cst (dn 2))), (.idx (.var 1) (.cst (dn 1))), (.bin .Add (.idx (.idx (.var 0) (.cst (dn 2))) (.idx (.var 1) (.cst (dn 1)))) (.cst (dn 1)))])])) (.sl (.var 0) true false (.cst (dn 3)) (.cst .non)))), (.asg (.name 4) (.idx (.var 1) (.cst (dn 3))))] [])])]), (.ret (.bin .Add (.bin .Add (.sl (.var 0) false true (.cst .non) (.cst (dn 3))) (.tup [(.var 4)])) (.sl (.var 0) true false (.cst (dn 4)) (.cst .non))))]
def t__law_step : List T := [(.ife (.cmp .IsNot (.idx (.var 1) (.cst (dn 8))) (.cst .non)) [(.ret (.var 1))] []), (.par [2, 3] [(.call "_law_fault" [(.var 0), (.var 1)]), (.bin .Add (.idx (.var 1) (.cst (dn 7))) (.cst (dn 1)))]), (.ife (.cmp .IsNot (.var 2) (.cst .non)) [(.ret (.bin .Add (.bin .Add (.sl (.var 1) false true (.cst .non) (.cst (dn 7))) (.tup [(.var 3), (.tup [(.cst (.str "fault")), (.var 2)])])) (.sl (.var 1) true false (.cst (dn 9)) (.cst .non))))] []), (.asg (.name 4) (.idx (.var 0) (.idx (.var 1) (.cst (dn 3))))), (.ife (.cmp .In (.idx (.var 4) (.cst (dn 0))) (.tup [(.cst (.str "jump")), (.cst (.str "when")), (.cst (.str "whenn")), (.cst (.str "again")), (.cst (.str "answer"))])) [(.asg (.name 5) (.call "_law_way" [(.var 1), (.var 4)]))] [(.asg (.name 5) (.call "_law_plain" [(.var 1), (.var 4)])), (.asg (.name 5) (.ife (.cmp .Is (.var 5) (.cst .non)) (.call "_law_reach" [(.var 1), (.var 4)]) (.var 5))), (.asg (.name 5) (.bin .Add (.bin .Add (.sl (.var 5) false true (.cst .non) (.cst (dn 3))) (.tup [(.bin .Add (.idx (.var 1) (.cst (dn 3))) (.cst (dn 1)))])) (.sl (.var 5) true false (.cst (dn 4)) (.cst .non))))]), (.ret (.bin .Add (.bin .Add (.sl (.var 5) false true (.cst .non) (.cst (dn 7))) (.tup [(.var 3)])) (.sl (.var 5) true false (.cst (dn 8)) (.cst .non))))]
def t__law_run : List T := [(.for' [3] true 1 [(.var 2)] [(.ife (.cmp .IsNot (.idx (.var 1) (.cst (dn 8))) (.cst .non)) [(.ret (.var 1))] []), (.asg (.name 1) (.call "_law_step" [(.var 0), (.var 1)]))]), (.ret (.var 1))]
def t__law_begun : List T := [(.ret (.tup [(.bin .Mult (.tup [(.cst (dn 0))]) (.cst (dn 8))), (.bin .Mult (.tup [(.cst (dn 0))]) (.cst (dn 16))), (.bin .Mult (.tup [(.cst (dn 0))]) (.cst (dn 4))), (.cst (dn 0)), (.var 0), (.var 1), (.var 2), (.cst (dn 0)), (.cst .non), (.var 3)]))]
def t__law_word : List T := [(.asg (.name 1) (.call "_law_dip" [(.var 0), (.cst (dn 8))])), (.ife (.cmp .Lt (.var 1) (.cst (dn 4))) [(.ret (.call "_law_dip" [(.var 0), (.cst (dn 12))]))] []), (.ife (.cmp .Eq (.var 1) (.cst (dn 4))) [(.ret (.call "_law_one_of" [(.var 0), (.lst [(.cst (dn 255)), (.cst (dn 256)), (.cst (dn 257)), (.cst (dn 32767)), (.cst (dn 32768)), (.cst (dn 65535)), (.cst (dn 65534)), (.cst (dn 65280))])]))] []), (.ret (.ife (.cmp .Lt (.var 1) (.cst (dn 7))) (.call "_law_dip" [(.var 0), (.cst (dn 300))]) (.call "_law_dip" [(.var 0), (.cst (dn 65536))])))]
def t__law_bytes : List T := [(.asg (.name 2) (.newl [])), (.for' [3] true 1 [(.var 1)] [(.append (.var 2) (.ife (.cmp .Gt (.call "_law_dip" [(.var 0), (.cst (dn 3))]) (.cst (dn 0))) (.call "_law_one_of" [(.var 0), (.lst [(.cst (dn 0)), (.cst (dn 1)), (.cst (dn 2)), (.cst (dn 7)), (.cst (dn 69)), (.cst (dn 128)), (.cst (dn 254)), (.cst (dn 255))])]) (.call "_law_dip" [(.var 0), (.cst (dn 256))])))]), (.ret (.blt .tuple [(.var 2)]))]
class S1T (L : Lw) : Prop where
  f_is_whole : L.df "is_whole" = some ⟨["value"], 1, t_is_whole⟩
  f_is_between : L.df "is_between" = some ⟨["value", "least", "most"], 3, t_is_between⟩
  f_is_from_nought : L.df "is_from_nought" = some ⟨["value"], 1, t_is_from_nought⟩
  f_is_word : L.df "is_word" = some ⟨["value"], 1, t_is_word⟩
  f_is_flag : L.df "is_flag" = some ⟨["value"], 1, t_is_flag⟩
  f_is_one_of : L.df "is_one_of" = some ⟨["value", "texts"], 2, t_is_one_of⟩
  f_is_tuple : L.df "is_tuple" = some ⟨["value", "least", "most"], 3, t_is_tuple⟩
  f_are_all : L.df "are_all" = some ⟨["value", "least", "most", "is_good"], 4, t_are_all⟩
  f_first_bad : L.df "first_bad" = some ⟨["values", "is_good"], 4, t_first_bad⟩
  f_combined : L.df "combined" = some ⟨["op", "one", "two"], 3, t_combined⟩
  f_related : L.df "related" = some ⟨["condition", "one", "two"], 3, t_related⟩
  f_ones_in : L.df "ones_in" = some ⟨["number"], 1, t_ones_in⟩
  f_mixed : L.df "mixed" = some ⟨["word"], 1, t_mixed⟩
  f_exchanged : L.df "exchanged" = some ⟨["row", "index", "value"], 3, t_exchanged⟩
  f_pair_index : L.df "pair_index" = some ⟨["pairs", "key"], 4, t_pair_index⟩
  f_table_fault : L.df "table_fault" = some ⟨["row", "run"], 8, t_table_fault⟩
  f_packet_fault : L.df "packet_fault" = some ⟨["row", "run"], 4, t_packet_fault⟩
  f_next_fault : L.df "next_fault" = some ⟨["sieve", "run"], 3, t_next_fault⟩
  f_set_word : L.df "set_word" = some ⟨["row", "run"], 2, t_set_word⟩
  f_moved_word : L.df "moved_word" = some ⟨["row", "run"], 2, t_moved_word⟩
  f_length_word : L.df "length_word" = some ⟨["row", "run"], 2, t_length_word⟩
  f_taken_word : L.df "taken_word" = some ⟨["row", "run"], 2, t_taken_word⟩
  f_combined_word : L.df "combined_word" = some ⟨["row", "run"], 2, t_combined_word⟩
  f_combined_number : L.df "combined_number" = some ⟨["row", "run"], 2, t_combined_number⟩
  f_byte_word : L.df "byte_word" = some ⟨["row", "run"], 2, t_byte_word⟩
  f_pair_word : L.df "pair_word" = some ⟨["row", "run"], 3, t_pair_word⟩
  f_cell_word : L.df "cell_word" = some ⟨["row", "run"], 2, t_cell_word⟩
  f_found_word : L.df "found_word" = some ⟨["row", "run"], 3, t_found_word⟩
  f_value_word : L.df "value_word" = some ⟨["row", "run"], 2, t_value_word⟩
  f_asked_word : L.df "asked_word" = some ⟨["row", "run"], 3, t_asked_word⟩
  f_with_content : L.df "with_content" = some ⟨["run", "t", "content"], 4, t_with_content⟩
  f_kept : L.df "kept" = some ⟨["row", "run"], 2, t_kept⟩
  f_written : L.df "written" = some ⟨["row", "run"], 3, t_written⟩
  f_filled : L.df "filled" = some ⟨["row", "run"], 3, t_filled⟩
  f_counted : L.df "counted" = some ⟨["row", "run"], 4, t_counted⟩
  f_changed : L.df "changed" = some ⟨["row", "run"], 5, t_changed⟩
  f_begun_again : L.df "begun_again" = some ⟨["row", "run"], 2, t_begun_again⟩
  f_leads_to : L.df "leads_to" = some ⟨["row", "run"], 4, t_leads_to⟩
  f_gone_on : L.df "gone_on" = some ⟨["row", "run"], 4, t_gone_on⟩
  f_done : L.df "done" = some ⟨["row", "run"], 6, t_done⟩
  f_stepped : L.df "stepped" = some ⟨["sieve", "run"], 3, t_stepped⟩
  f_is_byte : L.df "is_byte" = some ⟨["value"], 1, t_is_byte⟩
  f_is_packet : L.df "is_packet" = some ⟨["value"], 1, t_is_packet⟩
  f_is_pair : L.df "is_pair" = some ⟨["value"], 1, t_is_pair⟩
  f_are_pairs : L.df "are_pairs" = some ⟨["value"], 3, t_are_pairs⟩
  f_is_headed : L.df "is_headed" = some ⟨["value"], 1, t_is_headed⟩
  f_is_table : L.df "is_table" = some ⟨["value"], 1, t_is_table⟩
  f_are_tables : L.df "are_tables" = some ⟨["value"], 1, t_are_tables⟩
  f_has_fields : L.df "has_fields" = some ⟨["value"], 1, t_has_fields⟩
  f_is_field : L.df "is_field" = some ⟨["kind", "value"], 4, t_is_field⟩
  f_is_row_form : L.df "is_row_form" = some ⟨["value"], 1, t_is_row_form⟩
  f_is_row : L.df "is_row" = some ⟨["value"], 1, t_is_row⟩
  f_is_count : L.df "is_count" = some ⟨["value"], 1, t_is_count⟩
  f_is_end : L.df "is_end" = some ⟨["value"], 1, t_is_end⟩
  f_run_parts : L.df "run_parts" = some ⟨["value"], 1, t_run_parts⟩
  f_need_sieve : L.df "need_sieve" = some ⟨["sieve"], 2, t_need_sieve⟩
  f_need_run : L.df "need_run" = some ⟨["run"], 3, t_need_run⟩
  f__law_dip : L.df "_law_dip" = some ⟨["jar", "top"], 4, t__law_dip⟩
  f__law_one_of : L.df "_law_one_of" = some ⟨["jar", "some"], 2, t__law_one_of⟩
  f__law_same : L.df "_law_same" = some ⟨["told", "due"], 2, t__law_same⟩
  f__law_put : L.df "_law_put" = some ⟨["line", "at", "thing"], 3, t__law_put⟩
  f__law_reckon : L.df "_law_reckon" = some ⟨["op", "one", "two"], 4, t__law_reckon⟩
  f__law_holds : L.df "_law_holds" = some ⟨["condition", "one", "two"], 5, t__law_holds⟩
  f__law_table : L.df "_law_table" = some ⟨["run", "row"], 5, t__law_table⟩
  f__law_fault : L.df "_law_fault" = some ⟨["sieve", "run"], 5, t__law_fault⟩
  f__law_set : L.df "_law_set" = some ⟨["run", "at", "word"], 3, t__law_set⟩
  f__law_asked : L.df "_law_asked" = some ⟨["run", "help_word", "word"], 4, t__law_asked⟩
  f__law_plain : L.df "_law_plain" = some ⟨["run", "row"], 4, t__law_plain⟩
  f__law_reach : L.df "_law_reach" = some ⟨["run", "row"], 12, t__law_reach⟩
  f__law_way : L.df "_law_way" = some ⟨["run", "row"], 6, t__law_way⟩
  f__law_step : L.df "_law_step" = some ⟨["sieve", "run"], 6, t__law_step⟩
  f__law_word : L.df "_law_word" = some ⟨["jar"], 2, t__law_word⟩
class FART (L : Lw) : Prop where
  f_need_steps : L.df "need_steps" = some ⟨["steps"], 1, t_need_steps⟩
  f_run_far : L.df "run_far" = some ⟨["sieve", "run", "steps"], 4, t_run_far⟩
  f_run_on : L.df "run_on" = some ⟨["sieve", "run", "steps"], 3, t_run_on⟩
class ONET (L : Lw) : Prop where
  f_one_step : L.df "one_step" = some ⟨["sieve", "run"], 2, t_one_step⟩
class FOFT (L : Lw) : Prop where
  f_fault_of : L.df "fault_of" = some ⟨["sieve", "run"], 2, t_fault_of⟩
class LRUNT (L : Lw) : Prop where
  f__law_run : L.df "_law_run" = some ⟨["sieve", "run", "many"], 4, t__law_run⟩
class LBEGT (L : Lw) : Prop where
  f__law_begun : L.df "_law_begun" = some ⟨["packet", "tables", "clock", "writable"], 4, t__law_begun⟩
class LBYTT (L : Lw) : Prop where
  f__law_bytes : L.df "_law_bytes" = some ⟨["jar", "many"], 4, t__law_bytes⟩
def cCONDITIONS : D := .tup [.str "same", .str "other", .str "below", .str "from", .str "bit", .str "nobit"]
def cHELPERS : D := .tup [.str "clock", .str "ones", .str "mix"]
def cWORDS : D := .wd ([("set" : Str), ("move" : Str), ("length" : Str), ("take" : Str), ("add" : Str), ("sub" : Str), ("and" : Str), ("or" : Str), ("xor" : Str), ("left" : Str), ("right" : Str), ("addn" : Str), ("andn" : Str), ("orn" : Str), ("xorn" : Str), ("leftn" : Str), ("rightn" : Str), ("byte" : Str), ("pair" : Str), ("cell" : Str), ("find" : Str), ("value" : Str), ("ask" : Str)] : List Str) [.fn "set_word", .fn "moved_word", .fn "length_word", .fn "taken_word", .fn "combined_word", .fn "combined_word", .fn "combined_word", .fn "combined_word", .fn "combined_word", .fn "combined_word", .fn "combined_word", .fn "combined_number", .fn "combined_number", .fn "combined_number", .fn "combined_number", .fn "combined_number", .fn "combined_number", .fn "byte_word", .fn "pair_word", .fn "cell_word", .fn "found_word", .fn "value_word", .fn "asked_word"]
def cCHANGES : D := .wd ([("keep" : Str), ("write" : Str), ("fill" : Str), ("count" : Str), ("change" : Str), ("begin" : Str)] : List Str) [.fn "kept", .fn "written", .fn "filled", .fn "counted", .fn "changed", .fn "begun_again"]
def cFIELDS : D := .wd ([("set" : Str), ("move" : Str), ("length" : Str), ("take" : Str), ("keep" : Str), ("add" : Str), ("sub" : Str), ("and" : Str), ("or" : Str), ("xor" : Str), ("left" : Str), ("right" : Str), ("addn" : Str), ("andn" : Str), ("orn" : Str), ("xorn" : Str), ("leftn" : Str), ("rightn" : Str), ("byte" : Str), ("pair" : Str), ("write" : Str), ("cell" : Str), ("fill" : Str), ("count" : Str), ("find" : Str), ("value" : Str), ("change" : Str), ("ask" : Str), ("jump" : Str), ("when" : Str), ("whenn" : Str), ("begin" : Str), ("again" : Str), ("answer" : Str)] : List Str) [.tup [.str "reg", .str "word"], .tup [.str "reg", .str "reg"], .tup [.str "reg"], .tup [.str "reg", .str "slot"], .tup [.str "reg", .str "slot"], .tup [.str "reg", .str "reg"], .tup [.str "reg", .str "reg"], .tup [.str "reg", .str "reg"], .tup [.str "reg", .str "reg"], .tup [.str "reg", .str "reg"], .tup [.str "reg", .str "reg"], .tup [.str "reg", .str "reg"], .tup [.str "reg", .str "word"], .tup [.str "reg", .str "word"], .tup [.str "reg", .str "word"], .tup [.str "reg", .str "word"], .tup [.str "reg", .str "shift"], .tup [.str "reg", .str "shift"], .tup [.str "reg", .str "reg", .str "ahead"], .tup [.str "reg", .str "reg", .str "ahead"], .tup [.str "reg", .str "reg", .str "ahead"], .tup [.str "reg", .str "table", .str "reg"], .tup [.str "reg", .str "table", .str "reg"], .tup [.str "table", .str "reg"], .tup [.str "reg", .str "table", .str "reg"], .tup [.str "reg", .str "table", .str "reg"], .tup [.str "reg", .str "table", .str "reg"], .tup [.str "reg", .str "helper", .str "reg"], .tup [.str "place"], .tup [.str "condition", .str "reg", .str "reg", .str "place"], .tup [.str "condition", .str "reg", .str "word", .str "place"], .tup [.str "counter"], .tup [.str "counter", .str "times", .str "place"], .tup [.str "reg"]]
def cBOUNDS : D := .wd ([("reg" : Str), ("word" : Str), ("shift" : Str), ("slot" : Str), ("ahead" : Str), ("table" : Str), ("counter" : Str), ("times" : Str), ("place" : Str)] : List Str) [.tup [.int 0, .int 7], .tup [.int 0, .int 65535], .tup [.int 0, .int 15], .tup [.int 0, .int 15], .tup [.int 0, .int 255], .tup [.int 0, .int 5], .tup [.int 0, .int 3], .tup [.int 1, .int 100], .tup [.int 0, .int 119]]
def cFAULTS : D := .tup [.str "place", .str "table", .str "index", .str "handle", .str "packet", .str "grant"]
def cMOST_STEPS : D := .int 20000
class S1C (L : Lw) : Prop where
  g_CONDITIONS : L.gl "CONDITIONS" = some cCONDITIONS
  g_HELPERS : L.gl "HELPERS" = some cHELPERS
  g_WORDS : L.gl "WORDS" = some cWORDS
  g_CHANGES : L.gl "CHANGES" = some cCHANGES
  g_FIELDS : L.gl "FIELDS" = some cFIELDS
  g_BOUNDS : L.gl "BOUNDS" = some cBOUNDS
  g_FAULTS : L.gl "FAULTS" = some cFAULTS
class S1M (L : Lw) : Prop where
  g_MOST_STEPS : L.gl "MOST_STEPS" = some cMOST_STEPS
instance {L : Lw} [H : S1T L] : Has L chkT := ⟨fun i f d h => by
  match i, h with
  | 0, h => cases h; exact H.f_is_whole
  | 1, h => cases h; exact H.f_is_between
  | 2, h => cases h; exact H.f_is_tuple
  | 3, h => cases h; exact H.f_are_all
  | 4, h => cases h; exact H.f_first_bad
  | _ + 5, h => cases h⟩
end S1

set_option maxHeartbeats 4000000
namespace S1
open PySem PySem.Spec PyProof.Rows L2 Ev
local macro_rules
  | `(tactic| fail) => `(tactic| first
    | (refine (?_ : Ev.XE _ _ _ _ _); first | refine wVar rfl ?_ | refine wCst ?_ | refine wCallc rfl ?_ | refine wIdx ?_ | refine wBin ?_ | refine wCmp ?_ | refine wTup ?_ | refine wBlt ?_ | refine wNot ?_ | refine wAndE ?_ | refine wOrE ?_ | refine wIfE ?_ | refine wChain ?_ | refine wLst ?_ | refine wNewl ?_ | refine wNewc ?_ | refine wSlTo ?_ | refine wSlFrom ?_ | refine wSlBoth ?_ | refine wOnes ?_ | refine wCallkc rfl ?_ | refine wCalllc rfl rfl ?_ | refine wComp ?_ | refine wGenL rfl ?_ | refine wNeg ?_ | refine wInv ?_ | refine wBlen ?_)
    | (refine (?_ : Ev.XL _ _ _ _ _); first | refine wCons ?_ | refine wNil ?_)
    | (refine (?_ : Ev.XS _ _ _ _ _ _); first | refine yIf ?_ | refine yRet ?_ | refine yAsg ?_ | refine yNil ?_ | refine yPar ?_ | refine yTup ?_ | refine yExpr ?_ | refine yFor ?_ | refine yRetN ?_ | refine yAug rfl ?_ | refine yPass ?_ | refine yBrk ?_ | refine yCont ?_ | refine yWhile ?_)
    | (refine (?_ : Ev.PT _ _ _); first | refine tBl ?_ | refine tTup ?_ | refine tNon ?_)
    | (refine (?_ : Ev.PC _ _ _ _ _); first | refine pEqS ?_ | refine pEqN ?_ | refine pLt ?_ | refine pLe ?_ | refine pGt ?_ | refine pGe ?_ | refine pNeN ?_ | refine pNeS ?_ | refine pIsN ?_ | refine pIsNotN ?_ | refine zLt ?_ | refine zGt ?_ | refine zLe ?_ | refine zGe ?_ | refine pInT rfl ?_)
    | (refine (?_ : Ev.PI _ _ _ _); first | refine pTupI rfl ?_ | refine pLstI rfl ?_ | refine pRefI (by assumption) rfl ?_ | refine pTupZ rfl ?_)
    | (refine (?_ : Ev.PB _ _ _ _ _); first | refine pAdd ?_ | refine pCatT (Nat.le_of_ble_eq_true rfl) ?_ | refine zAnd32 ?_ | refine zAnd16 ?_ | refine zAnd16i ?_ | refine zAnd8 ?_ | refine zAnd5 ?_ | refine zAnd4 ?_ | refine pAnd ?_ | refine pOr ?_ | refine pXor ?_ | refine pShr ?_ | refine pSub (by omega) ?_ | refine pMod (by omega) ?_ | refine pDiv (by omega) (by omega) ?_ | refine pMul (by omega) ?_ | refine pShl (by omega) (by omega) ?_ | refine pPow (by omega) (by omega) ?_ | refine zAdd ?_ | refine zSub ?_ | refine zMul (by omega) ?_ | refine zMod (by omega) ?_ | refine zDiv (by omega) (by omega) ?_)
    | (refine (?_ : Ev.PF _ _ _ _); first | refine pLenT ?_ | refine pIntN ?_ | refine pIntB ?_ | refine pLenL ?_ | refine pMinN ?_ | refine pMaxN ?_ | refine pIsiNI ?_ | refine pIsiNB ?_ | refine pIsiTT ?_ | refine pIsiSS ?_ | refine pTupL ?_ | refine zInt ?_ | refine zAbs ?_ | refine zDm (by omega) (by omega) ?_ | refine pTupR (by assumption) ?_ | refine pLenR (by assumption) ?_ | refine pLenS ?_ | refine pAllT ?_)
    | (refine (?_ : Ev.RQ _ _ _ _); first | refine rqR ?_ | refine rqN ?_)
    | (refine (?_ : Ev.PL _ _ _ _ _); first | refine sFromT ?_ | refine sToT ?_ | refine sFromL ?_ | refine sToL ?_ | refine sToR ?_ | refine sMidT (by omega) (Nat.le_of_ble_eq_true rfl) ?_)
    | (refine (?_ : Ev.PR _ _ _ _); first | refine rT ?_ | refine rL ?_ | refine rN (by omega) ?_ | refine rN2 (by omega) (by omega) ?_ | refine rEn ?_ | refine rZip ?_)
    | (refine (?_ : Ev.LQ _ _ _ _ _ _ _); first | refine lqN ?_ | refine lqR ?_)
    | (refine (?_ : Ev.TQ _ _ _ _ _ _ _ _ _ _ _); first | refine tqN ?_ | refine tqC ?_ | refine tqB ?_ | refine tqR ?_)
    | (refine (?_ : Ev.WP _ _); refine WP.mk rfl ?_)
    | refine ifT rfl ?_
    | refine ifF rfl ?_
    | refine ifT' rfl ?_
    | refine ifF' rfl ?_
    | refine aLen (Nat.le_of_ble_eq_true rfl) ?_
    | refine Exists.intro _ (And.intro rfl ?_)
    | refine ifT (by decide +kernel) ?_
    | refine ifF (by decide +kernel) ?_
    | refine ifT' (by decide +kernel) ?_
    | refine ifF' (by decide +kernel) ?_)
local macro_rules
  | `(tactic| fail) => `(tactic| first
    | refine wGlobc rfl S1C.g_FIELDS ?_
    | refine wGlobc rfl S1C.g_BOUNDS ?_
    | refine wGlobc rfl S1C.g_WORDS ?_
    | refine wGlobc rfl S1C.g_CHANGES ?_
    | refine wGlobc rfl S1C.g_CONDITIONS ?_
    | refine wGlobc rfl S1C.g_HELPERS ?_
    | refine wGlobc rfl S1C.g_FAULTS ?_)
variable {L : Lw} [H : S1T L] [C : S1C L] {k : Nat} {S : Sto}
/-! tables, runs -/
inductive Tab where
  | arr (may : Nat) (l : List Nat) | prs (may : Nat) (l : List (Nat × Nat))
def pr (p : Nat × Nat) : D := .tup [dn p.1, dn p.2]
def Tab.d : Tab → D
  | .arr may l => .tup [.str "array", dn may, .tup (l.map dn)]
  | .prs may l => .tup [.str "pairs", dn may, .tup (l.map pr)]
def Tab.Ok : Tab → Prop
  | .arr may l => may ≤ 1 ∧ 1 ≤ l.length ∧ l.length ≤ 32 ∧ ∀ n ∈ l, n < 65536
  | .prs may l => may ≤ 1 ∧ l.length ≤ 16 ∧ (∀ p ∈ l, p.1 < 65536 ∧ p.2 < 65536) ∧ l.Pairwise fun p q => p.1 < q.1
def faults : List Str := ["place", "table", "index", "handle", "packet", "grant"]
inductive EndOk : D → Prop
  | non : EndOk .non
  | ans (w : Nat) (h : w < 65536) : EndOk (.tup [.str "answer", dn w])
  | flt (f : Str) (h : f ∈ faults) : EndOk (.tup [.str "fault", .str f])
structure Run where
  rg : List Nat
  sl : List Nat
  ct : List Nat
  pl : Nat
  pk : List Nat
  tb : List Tab
  ck : Nat
  st : Nat
  en : D
  wr : Nat
def Run.d (r : Run) : D := .tup [.tup (r.rg.map dn), .tup (r.sl.map dn), .tup (r.ct.map dn), dn r.pl, .tup (r.pk.map dn), .tup (r.tb.map Tab.d), dn r.ck, dn r.st, r.en, dn r.wr]
structure Run.Ok (r : Run) : Prop where
  rg : r.rg.length = 8 ∧ ∀ n ∈ r.rg, n < 65536
  sl : r.sl.length = 16 ∧ ∀ n ∈ r.sl, n < 65536
  ct : r.ct.length = 4 ∧ ∀ n ∈ r.ct, n ≤ 100
  pl : r.pl ≤ 120
  pk : r.pk.length ≤ 256 ∧ ∀ n ∈ r.pk, n < 256
  tb : r.tb.length ≤ 6 ∧ ∀ t ∈ r.tb, t.Ok
  ck : r.ck < 65536
  en : EndOk r.en
  wr : r.wr ≤ 1
theorem c_btw {n a b : Nat} (h1 : a ≤ n) (h2 : n ≤ b) : Tells L (k + 2) "is_between" [dn n, dn a, dn b] S (.bl true) := by
  have := c_is_between (L := L) (k := k) (S := S) (n := n) (a := a) (b := b)
  rw [decide_eq_true ⟨h1, h2⟩] at this
  exact this
theorem c_tupT {l : List D} {a b : Nat} (h1 : a ≤ l.length) (h2 : l.length ≤ b) : Tells L (k + 1) "is_tuple" [.tup l, dn a, dn b] S (.bl true) := by
  have := c_is_tuple (L := L) (k := k) (S := S) (l := l) (a := a) (b := b)
  rw [decide_eq_true ⟨h1, h2⟩] at this
  exact this
theorem c_is_word {n : Nat} (h : n < 65536) : Tells L (k + 3) "is_word" [dn n] S (.bl true) := by
  refine (wFnL H.f_is_word rfl ?_)
  show XS _ _ t_is_word [_] S _
  repeat fail
  refine (c_btw (Nat.zero_le _) (by omega)).go ?_
  repeat fail
  exact ⟨rfl, rfl⟩
theorem c_is_flag {n : Nat} (h : n ≤ 1) : Tells L (k + 3) "is_flag" [dn n] S (.bl true) := by
  refine (wFnL H.f_is_flag rfl ?_)
  show XS _ _ t_is_flag [_] S _
  repeat fail
  refine (c_btw (Nat.zero_le _) h).go ?_
  repeat fail
  exact ⟨rfl, rfl⟩
theorem c_is_byte {n : Nat} (h : n < 256) : Tells L (k + 3) "is_byte" [dn n] S (.bl true) := by
  refine (wFnL H.f_is_byte rfl ?_)
  show XS _ _ t_is_byte [_] S _
  repeat fail
  refine (c_btw (Nat.zero_le _) (by omega)).go ?_
  repeat fail
  exact ⟨rfl, rfl⟩
theorem c_is_count {n : Nat} (h : n ≤ 100) : Tells L (k + 3) "is_count" [dn n] S (.bl true) := by
  refine (wFnL H.f_is_count rfl ?_)
  show XS _ _ t_is_count [_] S _
  repeat fail
  refine (c_btw (Nat.zero_le _) (by omega)).go ?_
  repeat fail
  exact ⟨rfl, rfl⟩
theorem c_from_nought {n : Nat} : Tells L (k + 2) "is_from_nought" [dn n] S (.bl true) := by
  refine (wFnL H.f_is_from_nought rfl ?_)
  show XS _ _ t_is_from_nought [_] S _
  repeat fail
  refine c_is_whole.go ?_
  repeat fail
  exact ⟨by simp, rfl⟩
theorem c_words {l : List Nat} {a b : Nat} (h : ∀ n ∈ l, n < 65536) (h1 : a ≤ l.length) (h2 : l.length ≤ b) : Tells L (k + 5) "are_all" [.tup (l.map dn), dn a, dn b, .fn "is_word"] S (.bl true) :=
  c_are_allT (fun d hd => by
    obtain ⟨n, hn, rfl⟩ := List.mem_map.mp hd
    exact c_is_word (h n hn)) (by rw [List.length_map]; exact h1) (by rw [List.length_map]; exact h2)
theorem c_counts {l : List Nat} (h : ∀ n ∈ l, n ≤ 100) (h1 : l.length = 4) : Tells L (k + 5) "are_all" [.tup (l.map dn), dn 4, dn 4, .fn "is_count"] S (.bl true) :=
  c_are_allT (fun d hd => by
    obtain ⟨n, hn, rfl⟩ := List.mem_map.mp hd
    exact c_is_count (h n hn)) (by rw [List.length_map]; omega) (by rw [List.length_map]; omega)
theorem c_is_packet {l : List Nat} (h : ∀ n ∈ l, n < 256) (h1 : l.length ≤ 256) : Tells L (k + 6) "is_packet" [.tup (l.map dn)] S (.bl true) := by
  refine (wFnL H.f_is_packet rfl ?_)
  show XS _ _ t_is_packet [_] S _
  repeat fail
  refine (c_are_allT (fun d hd => ?_) (Nat.zero_le _) (by rw [List.length_map]; exact h1)).go ?_
  · obtain ⟨n, hn, rfl⟩ := List.mem_map.mp hd
    exact c_is_byte (h n hn)
  repeat fail
  exact ⟨rfl, rfl⟩
theorem c_is_pair {p : Nat × Nat} (h : p.1 < 65536 ∧ p.2 < 65536) : Tells L (k + 6) "is_pair" [pr p] S (.bl true) := by
  refine (wFnL H.f_is_pair rfl ?_)
  show XS _ _ t_is_pair [_] S _
  repeat fail
  refine (c_words (l := [p.1, p.2]) (a := 2) (b := 2) (fun n hn => ?_) (by simp) (by simp)).go ?_
  · simp only [List.mem_cons, List.not_mem_nil, or_false] at hn
    rcases hn with rfl | rfl
    · exact h.1
    · exact h.2
  repeat fail
  exact ⟨rfl, rfl⟩
theorem keys_comp {G : Gb} {v0 : D} : ∀ (l : List (Nat × Nat)) (acc : List D) (Q : List D → Sto → Prop), acc.length + l.length ≤ 900 → Q (acc ++ l.map fun p => dn p.1) S →
    XP (fun _ => true) [2] true G false (.cst .non) (.idx (.var 2) (.cst (dn 0))) [some v0, none, none] (l.map pr) S acc Q
  | [], acc, Q, _, q => xpNil rfl (by simpa using q)
  | p :: l, acc, Q, hl, q => by
    rw [List.length_cons] at hl
    refine xpCons rfl (by omega) ?_
    unfold pr
    repeat fail
    refine keys_comp l _ Q (by rw [List.length_append, List.length_singleton]; omega) ?_
    rw [List.append_assoc, List.singleton_append]
    exact q
theorem keys_gen {G : Gb} : ∀ (l : List Nat) (e0 e1 : Option D) (Q : Bool → Sto → Prop), l.Pairwise (· < ·) → Q true S →
    XG false (fun _ => true) [0, 1] false G (.cmp .Lt (.var 0) (.var 1)) [e0, e1] (zipD (l.map dn) ((l.map dn).drop 1)) S Q
  | [], e0, e1, Q, _, q => xgNil rfl q
  | [a], e0, e1, Q, _, q => xgNil rfl q
  | a :: b :: l, e0, e1, Q, h, q => by
    have hab : a < b := (List.pairwise_cons.mp h).1 b (by simp)
    show XG false (fun _ => true) [0, 1] false G (.cmp .Lt (.var 0) (.var 1)) [e0, e1] (.tup [dn a, dn b] :: zipD ((b :: l).map dn) (((b :: l).map dn).drop 1)) S Q
    refine xgCons rfl ?_
    repeat fail
    refine ⟨fun z => ?_, fun _ => keys_gen (b :: l) e0 e1 Q (List.pairwise_cons.mp h).2 q⟩
    rw [decide_eq_true hab] at z
    cases z
theorem c_are_pairs {l : List (Nat × Nat)} (h1 : l.length ≤ 16) (h2 : ∀ p ∈ l, p.1 < 65536 ∧ p.2 < 65536) (h3 : l.Pairwise fun p q => p.1 < q.1) : Tells L (k + 9) "are_pairs" [.tup (l.map pr)] S (.bl true) := by
  refine (wFnL H.f_are_pairs rfl ?_)
  show XS _ _ t_are_pairs [_, none, none] S _
  repeat fail
  refine (c_are_allT (fun d hd => ?_) (Nat.zero_le _) (by rw [List.length_map]; exact h1)).go ?_
  · obtain ⟨p, hp, rfl⟩ := List.mem_map.mp hd
    exact c_is_pair (h2 p hp)
  repeat fail
  refine keys_comp l [] _ (by simp; omega) ?_
  rw [List.nil_append, show l.map (fun p => dn p.1) = (l.map (·.1)).map dn by rw [List.map_map]; rfl]
  repeat fail
  refine ⟨_, _, rfl, ?_⟩
  refine keys_gen (l.map (·.1)) _ _ _ (List.pairwise_map.mpr h3) ?_
  repeat fail
  exact ⟨rfl, rfl⟩
theorem c_is_table {t : Tab} (h : t.Ok) : Tells L (k + 10) "is_table" [t.d] S (.bl true) := by
  have hd : ∀ (s : Str) (may : Nat) (x : D), may ≤ 1 → ∀ k, Tells L (k + 4) "is_headed" [.tup [.str s, dn may, x]] S (.bl true) := fun s may x hm k => by
    refine (wFnL H.f_is_headed rfl ?_)
    show XS _ _ t_is_headed [_] S _
    repeat fail
    refine (c_tupT (by simp) (by simp)).go ?_
    repeat fail
    refine (c_is_flag hm).go ?_
    repeat fail
    exact ⟨rfl, rfl⟩
  cases t with
  | arr may l =>
    refine (wFnL H.f_is_table rfl ?_)
    show XS _ _ t_is_table [some (.tup [.str "array", dn may, .tup (l.map dn)])] S _
    repeat fail
    refine (hd _ _ _ h.1 _).go ?_
    repeat fail
    refine (c_words h.2.2.2 h.2.1 h.2.2.1).go ?_
    repeat fail
    exact ⟨rfl, rfl⟩
  | prs may l =>
    refine (wFnL H.f_is_table rfl ?_)
    show XS _ _ t_is_table [some (.tup [.str "pairs", dn may, .tup (l.map pr)])] S _
    repeat fail
    refine (hd _ _ _ h.1 _).go ?_
    repeat fail
    refine (c_are_pairs h.2.1 h.2.2.1 h.2.2.2).go ?_
    repeat fail
    exact ⟨rfl, rfl⟩
theorem c_are_tables {l : List Tab} (h1 : l.length ≤ 6) (h2 : ∀ t ∈ l, t.Ok) : Tells L (k + 13) "are_tables" [.tup (l.map Tab.d)] S (.bl true) := by
  refine (wFnL H.f_are_tables rfl ?_)
  show XS _ _ t_are_tables [_] S _
  repeat fail
  refine (c_are_allT (fun d hd => ?_) (Nat.zero_le _) (by rw [List.length_map]; exact h1)).go ?_
  · obtain ⟨t, ht, rfl⟩ := List.mem_map.mp hd
    exact c_is_table (h2 t ht)
  repeat fail
  exact ⟨rfl, rfl⟩
theorem c_one_of {x : Str} {l : List D} (h : l.all flatD = true) (h2 : (l.any fun y => flatEq y (.str x)) = true) : Tells L (k + 1) "is_one_of" [.str x, .tup l] S (.bl true) := by
  refine (wFnL H.f_is_one_of rfl ?_)
  show XS _ _ t_is_one_of [_, _] S _
  repeat fail
  refine pInT h ?_
  rw [h2]
  repeat fail
  exact ⟨rfl, rfl⟩
theorem fl_in : ∀ f ∈ faults, ((faults.map D.str).any fun y => flatEq y (.str f)) = true := by decide +kernel
theorem c_is_end {d : D} (h : EndOk d) : Tells L (k + 5) "is_end" [d] S (.bl true) := by
  cases h with
  | non =>
    refine (wFnL H.f_is_end rfl ?_)
    show XS _ _ t_is_end [_] S _
    repeat fail
    exact ⟨rfl, rfl⟩
  | ans w h =>
    refine (wFnL H.f_is_end rfl ?_)
    show XS _ _ t_is_end [_] S _
    repeat fail
    refine (c_tupT (by simp) (by simp)).go ?_
    repeat fail
    refine (c_is_word h).go ?_
    repeat fail
    exact ⟨rfl, rfl⟩
  | flt f h =>
    refine (wFnL H.f_is_end rfl ?_)
    show XS _ _ t_is_end [_] S _
    repeat fail
    refine (c_tupT (by simp) (by simp)).go ?_
    repeat fail
    refine (c_one_of (l := faults.map D.str) rfl (fl_in f h)).go ?_
    repeat fail
    exact ⟨rfl, rfl⟩
theorem allT_loop {G : Gb} {w : Nat} : ∀ (n j : Nat) (v0 : D) (x1 x2 : Option D) (Q : Fl → EnvD → Sto → Prop), (∀ env, Q .nx env S) →
    XF (fun _ => true) [1, 2] false G w [(.ife (.not' (.var 2)) [.stop] [])] (enumD j (List.replicate n (.bl true))) [some v0, x1, x2] S Q
  | 0, j, v0, x1, x2, Q, q => xfNil rfl (q _)
  | n + 1, j, v0, x1, x2, Q, q => by
    rw [List.replicate_succ]
    refine xfCons rfl ?_
    repeat fail
    exact allT_loop n (j + 1) v0 _ _ Q q
theorem c_need_run {r : Run} (h : r.Ok) : Tells L (k + 16) "need_run" [r.d] S .non := by
  have parts : ∀ k, Tells L (k + 14) "run_parts" [r.d] S (.tup (List.replicate 10 (.bl true))) := fun k => by
    refine (wFnL H.f_run_parts rfl ?_)
    unfold Run.d
    show XS _ _ t_run_parts [_] S _
    repeat fail
    refine (c_words h.rg.2 (by rw [h.rg.1]; omega) (by rw [h.rg.1]; omega)).go ?_
    repeat fail
    refine (c_words h.sl.2 (by rw [h.sl.1]; omega) (by rw [h.sl.1]; omega)).go ?_
    repeat fail
    refine (c_counts h.ct.2 h.ct.1).go ?_
    repeat fail
    refine (c_btw (Nat.zero_le _) h.pl).go ?_
    repeat fail
    refine (c_is_packet h.pk.2 h.pk.1).go ?_
    repeat fail
    refine (c_are_tables h.tb.1 h.tb.2).go ?_
    repeat fail
    refine (c_is_word h.ck).go ?_
    repeat fail
    refine c_from_nought.go ?_
    repeat fail
    refine (c_is_end h.en).go ?_
    repeat fail
    refine (c_is_flag h.wr).go ?_
    repeat fail
    exact ⟨rfl, rfl⟩
  refine (wFnL H.f_need_run rfl ?_)
  show XS _ _ t_need_run [some r.d, none, none] S _
  have e : ∃ l, r.d = .tup l ∧ l.length = 10 := ⟨_, rfl, rfl⟩
  repeat fail
  refine (c_tupT (l := [_, _, _, _, _, _, _, _, _, _]) (by simp) (by simp)).go ?_
  repeat fail
  refine (parts _).go ?_
  repeat fail
  refine allT_loop 10 0 _ _ _ _ fun env => ?_
  repeat fail
  exact ⟨rfl, rfl⟩
end S1

set_option maxHeartbeats 4000000
namespace S1
open PySem PySem.Spec PyProof.Rows L2 Ev
local macro_rules
  | `(tactic| fail) => `(tactic| first
    | (refine (?_ : Ev.XE _ _ _ _ _); first | refine wVar rfl ?_ | refine wCst ?_ | refine wCallc rfl ?_ | refine wIdx ?_ | refine wBin ?_ | refine wCmp ?_ | refine wTup ?_ | refine wBlt ?_ | refine wNot ?_ | refine wAndE ?_ | refine wOrE ?_ | refine wIfE ?_ | refine wChain ?_ | refine wLst ?_ | refine wNewl ?_ | refine wNewc ?_ | refine wSlTo ?_ | refine wSlFrom ?_ | refine wSlBoth ?_ | refine wOnes ?_ | refine wCallkc rfl ?_ | refine wCalllc rfl rfl ?_ | refine wComp ?_ | refine wGenL rfl ?_ | refine wNeg ?_ | refine wInv ?_ | refine wBlen ?_)
    | (refine (?_ : Ev.XL _ _ _ _ _); first | refine wCons ?_ | refine wNil ?_)
    | (refine (?_ : Ev.XS _ _ _ _ _ _); first | refine yIf ?_ | refine yRet ?_ | refine yAsg ?_ | refine yNil ?_ | refine yPar ?_ | refine yTup ?_ | refine yExpr ?_ | refine yFor ?_ | refine yRetN ?_ | refine yAug rfl ?_ | refine yPass ?_ | refine yBrk ?_ | refine yCont ?_ | refine yWhile ?_)
    | (refine (?_ : Ev.PT _ _ _); first | refine tBl ?_ | refine tTup ?_ | refine tNon ?_)
    | (refine (?_ : Ev.PC _ _ _ _ _); first | refine pEqS ?_ | refine pEqN ?_ | refine pLt ?_ | refine pLe ?_ | refine pGt ?_ | refine pGe ?_ | refine pNeN ?_ | refine pNeS ?_ | refine pIsN ?_ | refine pIsNotN ?_ | refine zLt ?_ | refine zGt ?_ | refine zLe ?_ | refine zGe ?_ | refine pInT rfl ?_)
    | (refine (?_ : Ev.PI _ _ _ _); first | refine pTupI rfl ?_ | refine pLstI rfl ?_ | refine pRefI (by assumption) rfl ?_ | refine pTupZ rfl ?_)
    | (refine (?_ : Ev.PB _ _ _ _ _); first | refine pAdd ?_ | refine pCatT (Nat.le_of_ble_eq_true rfl) ?_ | refine zAnd32 ?_ | refine zAnd16 ?_ | refine zAnd16i ?_ | refine zAnd8 ?_ | refine zAnd5 ?_ | refine zAnd4 ?_ | refine pAnd ?_ | refine pOr ?_ | refine pXor ?_ | refine pShr ?_ | refine pSub (by omega) ?_ | refine pMod (by omega) ?_ | refine pDiv (by omega) (by omega) ?_ | refine pMul (by omega) ?_ | refine pShl (by omega) (by omega) ?_ | refine pPow (by omega) (by omega) ?_ | refine zAdd ?_ | refine zSub ?_ | refine zMul (by omega) ?_ | refine zMod (by omega) ?_ | refine zDiv (by omega) (by omega) ?_)
    | (refine (?_ : Ev.PF _ _ _ _); first | refine pLenT ?_ | refine pIntN ?_ | refine pIntB ?_ | refine pLenL ?_ | refine pMinN ?_ | refine pMaxN ?_ | refine pIsiNI ?_ | refine pIsiNB ?_ | refine pIsiTT ?_ | refine pIsiSS ?_ | refine pTupL ?_ | refine zInt ?_ | refine zAbs ?_ | refine zDm (by omega) (by omega) ?_ | refine pTupR (by assumption) ?_ | refine pLenR (by assumption) ?_ | refine pLenS ?_ | refine pAllT ?_)
    | (refine (?_ : Ev.RQ _ _ _ _); first | refine rqR ?_ | refine rqN ?_)
    | (refine (?_ : Ev.PL _ _ _ _ _); first | refine sFromT ?_ | refine sToT ?_ | refine sFromL ?_ | refine sToL ?_ | refine sToR ?_ | refine sMidT (by omega) (Nat.le_of_ble_eq_true rfl) ?_)
    | (refine (?_ : Ev.PR _ _ _ _); first | refine rT ?_ | refine rL ?_ | refine rN (by omega) ?_ | refine rN2 (by omega) (by omega) ?_ | refine rEn ?_ | refine rZip ?_)
    | (refine (?_ : Ev.LQ _ _ _ _ _ _ _); first | refine lqN ?_ | refine lqR ?_)
    | (refine (?_ : Ev.TQ _ _ _ _ _ _ _ _ _ _ _); first | refine tqN ?_ | refine tqC ?_ | refine tqB ?_ | refine tqR ?_)
    | (refine (?_ : Ev.WP _ _); refine WP.mk rfl ?_)
    | refine ifT rfl ?_
    | refine ifF rfl ?_
    | refine ifT' rfl ?_
    | refine ifF' rfl ?_
    | refine aLen (Nat.le_of_ble_eq_true rfl) ?_
    | refine Exists.intro _ (And.intro rfl ?_)
    | refine ifT (by decide +kernel) ?_
    | refine ifF (by decide +kernel) ?_
    | refine ifT' (by decide +kernel) ?_
    | refine ifF' (by decide +kernel) ?_)
local macro_rules
  | `(tactic| fail) => `(tactic| first
    | refine wGlobc rfl S1C.g_FIELDS ?_
    | refine wGlobc rfl S1C.g_BOUNDS ?_
    | refine wGlobc rfl S1C.g_WORDS ?_
    | refine wGlobc rfl S1C.g_CHANGES ?_
    | refine wGlobc rfl S1C.g_CONDITIONS ?_
    | refine wGlobc rfl S1C.g_HELPERS ?_
    | refine wGlobc rfl S1C.g_FAULTS ?_)
variable {L : Lw} [H : S1T L] [C : S1C L] {k : Nat} {S : Sto}
/-! rows -/
def conds : List Str := ["same", "other", "below", "from", "bit", "nobit"]
def helps : List Str := ["clock", "ones", "mix"]
def alus : List Str := ["add", "sub", "and", "or", "xor", "left", "right"]
def alns : List Str := ["addn", "andn", "orn", "xorn"]
def shns : List Str := ["leftn", "rightn"]
def mems : List Str := ["byte", "pair", "write"]
def tabs : List Str := ["cell", "fill", "find", "value", "change"]
inductive FV : Str → D → Prop
  | num (x : Str) (a b n : Nat) (hx : (x, a, b) ∈ [(("reg" : Str), 0, 7), ("word", 0, 65535), ("shift", 0, 15), ("slot", 0, 15), ("ahead", 0, 255), ("table", 0, 5), ("counter", 0, 3), ("times", 1, 100), ("place", 0, 119)]) (h1 : a ≤ n) (h2 : n ≤ b) : FV x (dn n)
  | cond (c : Str) (h : c ∈ conds) : FV "condition" (.str c)
  | help (c : Str) (h : c ∈ helps) : FV "helper" (.str c)
theorem cond_in : ∀ f ∈ conds, ((conds.map D.str).any fun y => flatEq y (.str f)) = true := by decide +kernel
theorem help_in : ∀ f ∈ helps, ((helps.map D.str).any fun y => flatEq y (.str f)) = true := by decide +kernel
theorem c_field {x : Str} {d : D} (h : FV x d) : Tells L (k + 3) "is_field" [.str x, d] S (.bl true) := by
  cases h with
  | num _ a b n hx h1 h2 =>
    have key : ∀ (x : Str) (a b : Nat), a ≤ n → n ≤ b → ixf S cBOUNDS (.str x) = some (.tup [dn a, dn b]) → x ≠ "condition" → x ≠ "helper" → Tells L (k + 3) "is_field" [.str x, dn n] S (.bl true) := by
      intro x a b h1 h2 hb g1 g2
      refine (wFnL H.f_is_field rfl ?_)
      show XS _ _ t_is_field [_, _, none, none] S _
      repeat fail
      refine ifF (decide_eq_false g1) ?_
      repeat fail
      refine ifF (decide_eq_false g2) ?_
      repeat fail
      refine pIxK hb ?_
      repeat fail
      refine (c_btw h1 h2).go ?_
      repeat fail
      exact ⟨rfl, rfl⟩
    simp only [List.mem_cons, List.not_mem_nil, or_false] at hx
    rcases hx with hx | hx | hx | hx | hx | hx | hx | hx | hx <;> cases hx <;> exact key _ _ _ h1 h2 (by kernel_rfl) (by decide +kernel) (by decide +kernel)
  | cond c h =>
    refine (wFnL H.f_is_field rfl ?_)
    show XS _ _ t_is_field [_, _, none, none] S _
    repeat fail
    refine (c_one_of (l := conds.map D.str) rfl (cond_in c h)).go ?_
    repeat fail
    exact ⟨rfl, rfl⟩
  | help c h =>
    refine (wFnL H.f_is_field rfl ?_)
    show XS _ _ t_is_field [_, _, none, none] S _
    repeat fail
    refine (c_one_of (l := helps.map D.str) rfl (help_in c h)).go ?_
    repeat fail
    exact ⟨rfl, rfl⟩
inductive Fits : List Str → List D → Prop
  | nil : Fits [] []
  | cons {x : Str} {v : D} {xs : List Str} {vs : List D} (h : FV x v) (r : Fits xs vs) : Fits (x :: xs) (v :: vs)
theorem Fits.len {xs : List Str} {vs : List D} (h : Fits xs vs) : xs.length = vs.length := by
  induction h with
  | nil => rfl
  | cons _ _ ih => simp [ih]
theorem gen_fields {G : Gb} (hG : G.cl = L.cl (k + 3)) : ∀ {xs : List Str} {vs : List D} {e0 e1 : Option D}, Fits xs vs → ∀ {Q : Bool → Sto → Prop}, Q true S →
    XG false (fun _ => true) [0, 1] false G (.call "is_field" [(.var 0), (.var 1)]) [e0, e1] (zipD (xs.map D.str) vs) S Q
  | _, _, e0, e1, .nil, Q, q => xgNil rfl q
  | _, _, e0, e1, .cons h r, Q, q => by
    refine xgCons rfl ?_
    refine WP.mk rfl ?_
    refine wCallc hG ?_
    repeat fail
    refine (c_field h).go ?_
    refine ⟨true, rfl, fun z => (nomatch z), fun _ => ?_⟩
    exact gen_fields hG r q
/-- a row by its name's fields -/
structure Form (x : Str) (ks : List Str) : Prop where
  ix : ∀ S, ixf S cFIELDS (.str x) = some (.tup (ks.map D.str))
  mem : ∀ S, cop S .In (.str x) cFIELDS = some true
inductive Row where
  | set (a w : Nat) | move (a b : Nat) | length (a : Nat) | take (a s : Nat) | keep (a s : Nat)
  | alu (o : Str) (a b : Nat) | aln (o : Str) (a w : Nat) | shn (o : Str) (a w : Nat)
  | mem (o : Str) (a b s : Nat) | tab (o : Str) (a t b : Nat) | count (t b : Nat) | ask (h : Str) (a b : Nat)
  | jump (p : Nat) | when (c : Str) (a b p : Nat) | whenn (c : Str) (a w p : Nat) | begin (c : Nat) | again (c m p : Nat) | answer (a : Nat)
def Row.d : Row → D
  | .set a w => .tup [.str "set", dn a, dn w]
  | .move a b => .tup [.str "move", dn a, dn b]
  | .length a => .tup [.str "length", dn a]
  | .take a s => .tup [.str "take", dn a, dn s]
  | .keep a s => .tup [.str "keep", dn a, dn s]
  | .alu o a b => .tup [.str o, dn a, dn b]
  | .aln o a b => .tup [.str o, dn a, dn b]
  | .shn o a b => .tup [.str o, dn a, dn b]
  | .mem o a b s => .tup [.str o, dn a, dn b, dn s]
  | .tab o a t b => .tup [.str o, dn a, dn t, dn b]
  | .count t b => .tup [.str "count", dn t, dn b]
  | .ask h a b => .tup [.str "ask", dn a, .str h, dn b]
  | .jump p => .tup [.str "jump", dn p]
  | .when c a b p => .tup [.str "when", .str c, dn a, dn b, dn p]
  | .whenn c a b p => .tup [.str "whenn", .str c, dn a, dn b, dn p]
  | .begin c => .tup [.str "begin", dn c]
  | .again c m p => .tup [.str "again", dn c, dn m, dn p]
  | .answer a => .tup [.str "answer", dn a]
def Row.Ok : Row → Prop
  | .set a w => a < 8 ∧ w < 65536
  | .move a b => a < 8 ∧ b < 8
  | .length a => a < 8
  | .take a s => a < 8 ∧ s < 16
  | .keep a s => a < 8 ∧ s < 16
  | .alu o a b => o ∈ alus ∧ a < 8 ∧ b < 8
  | .aln o a w => o ∈ alns ∧ a < 8 ∧ w < 65536
  | .shn o a w => o ∈ shns ∧ a < 8 ∧ w < 16
  | .mem o a b s => o ∈ mems ∧ a < 8 ∧ b < 8 ∧ s < 256
  | .tab o a t b => o ∈ tabs ∧ a < 8 ∧ t < 6 ∧ b < 8
  | .count t b => t < 6 ∧ b < 8
  | .ask h a b => h ∈ helps ∧ a < 8 ∧ b < 8
  | .jump p => p < 120
  | .when c a b p => c ∈ conds ∧ a < 8 ∧ b < 8 ∧ p < 120
  | .whenn c a w p => c ∈ conds ∧ a < 8 ∧ w < 65536 ∧ p < 120
  | .begin c => c < 4
  | .again c m p => c < 4 ∧ 1 ≤ m ∧ m ≤ 100 ∧ p < 120
  | .answer a => a < 8
theorem fReg {n : Nat} (h : n < 8) : FV "reg" (dn n) := .num _ 0 7 n (by simp) (by omega) (by omega)
theorem fWord {n : Nat} (h : n < 65536) : FV "word" (dn n) := .num _ 0 65535 n (by simp) (by omega) (by omega)
theorem fShift {n : Nat} (h : n < 16) : FV "shift" (dn n) := .num _ 0 15 n (by simp) (by omega) (by omega)
theorem fSlot {n : Nat} (h : n < 16) : FV "slot" (dn n) := .num _ 0 15 n (by simp) (by omega) (by omega)
theorem fAhead {n : Nat} (h : n < 256) : FV "ahead" (dn n) := .num _ 0 255 n (by simp) (by omega) (by omega)
theorem fTable {n : Nat} (h : n < 6) : FV "table" (dn n) := .num _ 0 5 n (by simp) (by omega) (by omega)
theorem fCounter {n : Nat} (h : n < 4) : FV "counter" (dn n) := .num _ 0 3 n (by simp) (by omega) (by omega)
theorem fTimes {n : Nat} (h1 : 1 ≤ n) (h : n ≤ 100) : FV "times" (dn n) := .num _ 1 100 n (by simp) (by omega) (by omega)
theorem fPlace {n : Nat} (h : n < 120) : FV "place" (dn n) := .num _ 0 119 n (by simp) (by omega) (by omega)
theorem form1 {x : Str} {ks : List Str} (h1 : ixf [] cFIELDS (.str x) = some (.tup (ks.map D.str))) (h2 : cop [] .In (.str x) cFIELDS = some true) : Form x ks := ⟨fun _ => h1, fun _ => h2⟩
theorem formB {ks : List Str} (h : ∀ o ∈ ks, (match ixf [] cFIELDS (.str o), cop [] .In (.str o) cFIELDS with | some d, some true => true | _, _ => false) = true) : True := trivial
/-- each row is one by its name's fields -/
theorem Row.form {r : Row} (h : r.Ok) : ∃ x ks vs, r.d = .tup (.str x :: vs) ∧ Form x ks ∧ Fits ks vs ∧ vs.length ≤ 4 := by
  cases r with
  | set a w => exact ⟨_, ["reg", "word"], _, rfl, form1 (by kernel_rfl) (by kernel_rfl), .cons (fReg h.1) (.cons (fWord h.2) .nil), by simp⟩
  | move a w => exact ⟨_, ["reg", "reg"], _, rfl, form1 (by kernel_rfl) (by kernel_rfl), .cons (fReg h.1) (.cons (fReg h.2) .nil), by simp⟩
  | length a => exact ⟨_, ["reg"], _, rfl, form1 (by kernel_rfl) (by kernel_rfl), .cons (fReg h) .nil, by simp⟩
  | take a w => exact ⟨_, ["reg", "slot"], _, rfl, form1 (by kernel_rfl) (by kernel_rfl), .cons (fReg h.1) (.cons (fSlot h.2) .nil), by simp⟩
  | keep a w => exact ⟨_, ["reg", "slot"], _, rfl, form1 (by kernel_rfl) (by kernel_rfl), .cons (fReg h.1) (.cons (fSlot h.2) .nil), by simp⟩
  | alu o a b =>
    have key : Form o ["reg", "reg"] := by
      have ho := h.1
      simp only [alus, List.mem_cons, List.not_mem_nil, or_false] at ho
      rcases ho with rfl | rfl | rfl | rfl | rfl | rfl | rfl <;> exact form1 (by kernel_rfl) (by kernel_rfl)
    exact ⟨_, ["reg", "reg"], _, rfl, key, .cons (fReg h.2.1) (.cons (fReg h.2.2) .nil), by simp⟩
  | aln o a b =>
    have key : Form o ["reg", "word"] := by
      have ho := h.1
      simp only [alns, List.mem_cons, List.not_mem_nil, or_false] at ho
      rcases ho with rfl | rfl | rfl | rfl <;> exact form1 (by kernel_rfl) (by kernel_rfl)
    exact ⟨_, ["reg", "word"], _, rfl, key, .cons (fReg h.2.1) (.cons (fWord h.2.2) .nil), by simp⟩
  | shn o a b =>
    have key : Form o ["reg", "shift"] := by
      have ho := h.1
      simp only [shns, List.mem_cons, List.not_mem_nil, or_false] at ho
      rcases ho with rfl | rfl <;> exact form1 (by kernel_rfl) (by kernel_rfl)
    exact ⟨_, ["reg", "shift"], _, rfl, key, .cons (fReg h.2.1) (.cons (fShift h.2.2) .nil), by simp⟩
  | mem o a b s =>
    have key : Form o ["reg", "reg", "ahead"] := by
      have ho := h.1
      simp only [mems, List.mem_cons, List.not_mem_nil, or_false] at ho
      rcases ho with rfl | rfl | rfl <;> exact form1 (by kernel_rfl) (by kernel_rfl)
    exact ⟨_, ["reg", "reg", "ahead"], _, rfl, key, .cons (fReg h.2.1) (.cons (fReg h.2.2.1) (.cons (fAhead h.2.2.2) .nil)), by simp⟩
  | tab o a t b =>
    have key : Form o ["reg", "table", "reg"] := by
      have ho := h.1
      simp only [tabs, List.mem_cons, List.not_mem_nil, or_false] at ho
      rcases ho with rfl | rfl | rfl | rfl | rfl <;> exact form1 (by kernel_rfl) (by kernel_rfl)
    exact ⟨_, ["reg", "table", "reg"], _, rfl, key, .cons (fReg h.2.1) (.cons (fTable h.2.2.1) (.cons (fReg h.2.2.2) .nil)), by simp⟩
  | count t b => exact ⟨_, ["table", "reg"], _, rfl, form1 (by kernel_rfl) (by kernel_rfl), .cons (fTable h.1) (.cons (fReg h.2) .nil), by simp⟩
  | ask o a b => exact ⟨_, ["reg", "helper", "reg"], _, rfl, form1 (by kernel_rfl) (by kernel_rfl), .cons (fReg h.2.1) (.cons (.help o h.1) (.cons (fReg h.2.2) .nil)), by simp⟩
  | jump p => exact ⟨_, ["place"], _, rfl, form1 (by kernel_rfl) (by kernel_rfl), .cons (fPlace h) .nil, by simp⟩
  | when c a b p => exact ⟨_, ["condition", "reg", "reg", "place"], _, rfl, form1 (by kernel_rfl) (by kernel_rfl), .cons (.cond c h.1) (.cons (fReg h.2.1) (.cons (fReg h.2.2.1) (.cons (fPlace h.2.2.2) .nil))), by simp⟩
  | whenn c a b p => exact ⟨_, ["condition", "reg", "word", "place"], _, rfl, form1 (by kernel_rfl) (by kernel_rfl), .cons (.cond c h.1) (.cons (fReg h.2.1) (.cons (fWord h.2.2.1) (.cons (fPlace h.2.2.2) .nil))), by simp⟩
  | begin c => exact ⟨_, ["counter"], _, rfl, form1 (by kernel_rfl) (by kernel_rfl), .cons (fCounter h) .nil, by simp⟩
  | again c m p => exact ⟨_, ["counter", "times", "place"], _, rfl, form1 (by kernel_rfl) (by kernel_rfl), .cons (fCounter h.1) (.cons (fTimes h.2.1 h.2.2.1) (.cons (fPlace h.2.2.2) .nil)), by simp⟩
  | answer a => exact ⟨_, ["reg"], _, rfl, form1 (by kernel_rfl) (by kernel_rfl), .cons (fReg h) .nil, by simp⟩
theorem c_is_row {r : Row} (h : r.Ok) : Tells L (k + 6) "is_row" [r.d] S (.bl true) := by
  obtain ⟨x, ks, vs, e, F, fit, hl⟩ := Row.form h
  rw [e]
  have h1 : Tells L (k + 4) "has_fields" [.tup (.str x :: vs)] S (.bl true) := by
    refine (wFnL H.f_has_fields rfl ?_)
    show XS _ _ t_has_fields [_] S _
    repeat fail
    refine pInK (F.mem S) ?_
    repeat fail
    refine pIxK (F.ix S) ?_
    repeat fail
    refine ⟨?_, rfl⟩
    rw [decide_eq_true]
    simp [fit.len]
    omega
  refine (wFnL H.f_is_row rfl ?_)
  show XS _ _ t_is_row [_] S _
  repeat fail
  refine (wFnL H.f_is_row_form rfl ?_)
  show XS _ _ t_is_row_form [_] S _
  repeat fail
  refine h1.go ?_
  repeat fail
  refine pIxK (F.ix S) ?_
  repeat fail
  refine gen_fields rfl fit ?_
  repeat fail
  exact ⟨rfl, rfl⟩
theorem c_need_sieve {l : List Row} (h : ∀ r ∈ l, r.Ok) (h1 : 1 ≤ l.length) (h2 : l.length ≤ 120) : Tells L (k + 8) "need_sieve" [.tup (l.map Row.d)] S .non := by
  refine (wFnL H.f_need_sieve rfl ?_)
  show XS _ _ t_need_sieve [_, none] S _
  repeat fail
  refine (c_tupT (by rw [List.length_map]; exact h1) (by rw [List.length_map]; exact h2)).go ?_
  repeat fail
  refine (c_first_bad (p := fun _ => true) (fun d hd => ?_)).go ?_
  · obtain ⟨r, hr, rfl⟩ := List.mem_map.mp hd
    exact c_is_row (h r hr)
  rw [badAt_none fun _ _ => rfl]
  repeat fail
  exact ⟨rfl, rfl⟩
end S1

set_option maxHeartbeats 4000000
namespace S1
open PySem PySem.Spec PyProof.Rows L2 Ev
local macro_rules
  | `(tactic| fail) => `(tactic| first
    | (refine (?_ : Ev.XE _ _ _ _ _); first | refine wVar rfl ?_ | refine wCst ?_ | refine wCallc rfl ?_ | refine wIdx ?_ | refine wBin ?_ | refine wCmp ?_ | refine wTup ?_ | refine wBlt ?_ | refine wNot ?_ | refine wAndE ?_ | refine wOrE ?_ | refine wIfE ?_ | refine wChain ?_ | refine wLst ?_ | refine wNewl ?_ | refine wNewc ?_ | refine wSlTo ?_ | refine wSlFrom ?_ | refine wSlBoth ?_ | refine wOnes ?_ | refine wCallkc rfl ?_ | refine wCalllc rfl rfl ?_ | refine wComp ?_ | refine wGenL rfl ?_ | refine wNeg ?_ | refine wInv ?_ | refine wBlen ?_)
    | (refine (?_ : Ev.XL _ _ _ _ _); first | refine wCons ?_ | refine wNil ?_)
    | (refine (?_ : Ev.XS _ _ _ _ _ _); first | refine yIf ?_ | refine yRet ?_ | refine yAsg ?_ | refine yNil ?_ | refine yPar ?_ | refine yTup ?_ | refine yExpr ?_ | refine yFor ?_ | refine yRetN ?_ | refine yAug rfl ?_ | refine yPass ?_ | refine yBrk ?_ | refine yCont ?_ | refine yWhile ?_)
    | (refine (?_ : Ev.PT _ _ _); first | refine tBl ?_ | refine tTup ?_ | refine tNon ?_)
    | (refine (?_ : Ev.PC _ _ _ _ _); first | refine pEqS ?_ | refine pEqN ?_ | refine pLt ?_ | refine pLe ?_ | refine pGt ?_ | refine pGe ?_ | refine pNeN ?_ | refine pNeS ?_ | refine pIsN ?_ | refine pIsNotN ?_ | refine zLt ?_ | refine zGt ?_ | refine zLe ?_ | refine zGe ?_ | refine pInT rfl ?_)
    | (refine (?_ : Ev.PI _ _ _ _); first | refine pTupI rfl ?_ | refine pLstI rfl ?_ | refine pRefI (by assumption) rfl ?_ | refine pTupZ rfl ?_)
    | (refine (?_ : Ev.PB _ _ _ _ _); first | refine pAdd ?_ | refine pCatT (Nat.le_of_ble_eq_true rfl) ?_ | refine zAnd32 ?_ | refine zAnd16 ?_ | refine zAnd16i ?_ | refine zAnd8 ?_ | refine zAnd5 ?_ | refine zAnd4 ?_ | refine pAnd ?_ | refine pOr ?_ | refine pXor ?_ | refine pShr ?_ | refine pSub (by omega) ?_ | refine pMod (by omega) ?_ | refine pDiv (by omega) (by omega) ?_ | refine pMul (by omega) ?_ | refine pShl (by omega) (by omega) ?_ | refine pPow (by omega) (by omega) ?_ | refine zAdd ?_ | refine zSub ?_ | refine zMul (by omega) ?_ | refine zMod (by omega) ?_ | refine zDiv (by omega) (by omega) ?_)
    | (refine (?_ : Ev.PF _ _ _ _); first | refine pLenT ?_ | refine pIntN ?_ | refine pIntB ?_ | refine pLenL ?_ | refine pMinN ?_ | refine pMaxN ?_ | refine pIsiNI ?_ | refine pIsiNB ?_ | refine pIsiTT ?_ | refine pIsiSS ?_ | refine pTupL ?_ | refine zInt ?_ | refine zAbs ?_ | refine zDm (by omega) (by omega) ?_ | refine pTupR (by assumption) ?_ | refine pLenR (by assumption) ?_ | refine pLenS ?_ | refine pAllT ?_)
    | (refine (?_ : Ev.RQ _ _ _ _); first | refine rqR ?_ | refine rqN ?_)
    | (refine (?_ : Ev.PL _ _ _ _ _); first | refine sFromT ?_ | refine sToT ?_ | refine sFromL ?_ | refine sToL ?_ | refine sToR ?_ | refine sMidT (by omega) (Nat.le_of_ble_eq_true rfl) ?_)
    | (refine (?_ : Ev.PR _ _ _ _); first | refine rT ?_ | refine rL ?_ | refine rN (by omega) ?_ | refine rN2 (by omega) (by omega) ?_ | refine rEn ?_ | refine rZip ?_)
    | (refine (?_ : Ev.LQ _ _ _ _ _ _ _); first | refine lqN ?_ | refine lqR ?_)
    | (refine (?_ : Ev.TQ _ _ _ _ _ _ _ _ _ _ _); first | refine tqN ?_ | refine tqC ?_ | refine tqB ?_ | refine tqR ?_)
    | (refine (?_ : Ev.WP _ _); refine WP.mk rfl ?_)
    | refine ifT rfl ?_
    | refine ifF rfl ?_
    | refine ifT' rfl ?_
    | refine ifF' rfl ?_
    | refine aLen (Nat.le_of_ble_eq_true rfl) ?_
    | refine Exists.intro _ (And.intro rfl ?_)
    | refine ifT (by decide +kernel) ?_
    | refine ifF (by decide +kernel) ?_
    | refine ifT' (by decide +kernel) ?_
    | refine ifF' (by decide +kernel) ?_)
local macro_rules
  | `(tactic| fail) => `(tactic| first
    | refine wGlobc rfl S1C.g_FIELDS ?_
    | refine wGlobc rfl S1C.g_BOUNDS ?_
    | refine wGlobc rfl S1C.g_WORDS ?_
    | refine wGlobc rfl S1C.g_CHANGES ?_
    | refine wGlobc rfl S1C.g_CONDITIONS ?_
    | refine wGlobc rfl S1C.g_HELPERS ?_
    | refine wGlobc rfl S1C.g_FAULTS ?_)
local macro_rules
  | `(tactic| eq_refl) => `(tactic| first
    | fail
    | refine ifT (by assumption) ?_
    | refine ifF (by assumption) ?_
    | refine ifT' (by assumption) ?_
    | refine ifF' (by assumption) ?_
    | refine pTupI (by assumption) ?_
    | refine pTupZ (by assumption) ?_
    | refine ifT (decide_eq_true (by (try simp only [List.length_map]); omega)) ?_
    | refine ifF (decide_eq_false (by (try simp only [List.length_map]); omega)) ?_
    | refine ifT' (decide_eq_true (by (try simp only [List.length_map]); omega)) ?_
    | refine ifF' (decide_eq_false (by (try simp only [List.length_map]); omega)) ?_
    | refine ifT (by simp only [Bool.not_eq_true', decide_eq_false_iff_not, List.length_map]; omega) ?_
    | refine ifF (by simp only [Bool.not_eq_false', decide_eq_true_eq, List.length_map]; omega) ?_
    | refine ifT' (by simp only [Bool.not_eq_true', decide_eq_false_iff_not, List.length_map]; omega) ?_
    | refine ifF' (by simp only [Bool.not_eq_false', decide_eq_true_eq, List.length_map]; omega) ?_)
variable {L : Lw} [H : S1T L] [C : S1C L] {k : Nat} {S : Sto}
/-! faults -/
def optS : Option Str → D
  | none => .non
  | some s => .str s
def tabFault (wa chg hnd : Bool) (tb : List Tab) (t w : Nat) : Option Str := match tb[t]? with
  | none => some "table"
  | some (.arr may l) => if wa = true then (if chg = true ∧ may = 0 then some "table" else if l.length ≤ w then some "index" else none) else some "table"
  | some (.prs may l) => if wa = true then some "table" else if chg = true ∧ may = 0 then some "table" else if hnd = true ∧ ¬ (1 ≤ w ∧ w ≤ l.length) then some "handle" else none
def tabKinds : List (Str × Bool × Bool × Bool) := [("cell", true, false, false), ("fill", true, true, false), ("count", true, true, false), ("find", false, false, false), ("value", false, false, true), ("change", false, true, true)]
theorem tget {l : List Tab} {t : Nat} (h : t < l.length) : (l.map Tab.d)[t]? = some (l[t].d) := by rw [List.getElem?_map, List.getElem?_eq_getElem h]; rfl
theorem nget {l : List Nat} {i : Nat} (h : i < l.length) : (l.map dn)[i]? = some (dn l[i]) := by rw [List.getElem?_map, List.getElem?_eq_getElem h]; rfl
theorem gget {l : List Nat} {i : Nat} (h : i < l.length) : (l.map dn)[i]? = some (dn (l.getD i 0)) := by
  rw [nget h]
  simp [List.getD, h]
theorem c_table_fault {r : Run} {o : Str} {wa chg hnd : Bool} {row : List D} {t b : Nat} (ho : (o, wa, chg, hnd) ∈ tabKinds) (r0 : row[0]? = some (.str o)) (r2 : atI row (-2) = some (dn t)) (r1 : atI row (-1) = some (dn b)) (hb : b < r.rg.length) : Tells L (k + 1) "table_fault" [.tup row, r.d] S (optS (tabFault wa chg hnd r.tb t (r.rg.getD b 0))) := by
  have gb := gget hb
  have fin : ∀ w : Nat, w = r.rg.getD b 0 → Tells L (k + 1) "table_fault" [.tup row, r.d] S (optS (tabFault wa chg hnd r.tb t w)) := by
    intro w hw
    rw [← hw] at gb
    clear hw
    have run : ∀ (x : Option D) (q : Option Str), (r.tb.map Tab.d)[t]? = x → (x = none ∧ ¬ t < r.tb.length ∧ tabFault wa chg hnd r.tb t w = some "table" ∨ t < r.tb.length ∧ ((∃ may l, x = some (Tab.arr may l).d ∧ r.tb[t]? = some (.arr may l)) ∨ ∃ may l, x = some (Tab.prs may l).d ∧ r.tb[t]? = some (.prs may l))) → Tells L (k + 1) "table_fault" [.tup row, r.d] S (optS (tabFault wa chg hnd r.tb t w)) := by
      intro x q hx hc
      simp only [tabKinds, List.mem_cons, List.not_mem_nil, or_false] at ho
      rcases ho with ho | ho | ho | ho | ho | ho <;> cases ho <;>
      (rcases hc with ⟨rfl, ht, hq⟩ | ⟨ht, ⟨may, l, rfl, hg⟩ | ⟨may, l, rfl, hg⟩⟩) <;>
      (refine (wFnL H.f_table_fault rfl ?_); unfold Run.d; (try simp only [Tab.d] at hx); show XS _ _ t_table_fault [_, _, none, none, none, none, none, none] S _; repeat' (first | eq_refl | refine ifD (fun h => ?_) (fun h => ?_) | refine ifD' (fun h => ?_) (fun h => ?_) | refine ifN (fun h => ?_) (fun h => ?_) | refine ifN' (fun h => ?_) (fun h => ?_))) <;>
      (refine ⟨?_, rfl⟩; simp_all [tabFault, optS]; first | done | (rw [if_neg (by omega)]))
    by_cases ht : t < r.tb.length
    · have hT := tget ht
      have hg : r.tb[t]? = some r.tb[t] := List.getElem?_eq_getElem ht
      cases hq : r.tb[t] with
      | arr may l =>
        rw [hq] at hT hg
        exact run _ none hT (.inr ⟨ht, .inl ⟨may, l, rfl, hg⟩⟩)
      | prs may l =>
        rw [hq] at hT hg
        exact run _ none hT (.inr ⟨ht, .inr ⟨may, l, rfl, hg⟩⟩)
    · have hg : r.tb[t]? = none := List.getElem?_eq_none (by omega)
      exact run _ none (by rw [List.getElem?_map, hg]; rfl) (.inl ⟨rfl, ht, by simp [tabFault, hg]⟩)
  exact fin _ rfl
/-- the law's own look: the same -/
def TabOk (wa chg hnd : Bool) (r : Run) (t : Nat) (x : D) : Prop := (x = .non ∧ ∀ w, tabFault wa chg hnd r.tb t w = some ("table" : Str)) ∨ (∃ tb, r.tb[t]? = some tb ∧ x = tb.d ∧ (match tb with | .arr may l => wa = true ∧ ¬ (chg = true ∧ may = 0) | .prs may l => wa = false ∧ ¬ (chg = true ∧ may = 0)))
theorem c_law_table {r : Run} {o : Str} {wa chg hnd : Bool} {row : List D} {t : Nat} (ho : (o, wa, chg, hnd) ∈ tabKinds) (r0 : row[0]? = some (.str o)) (rt1 : o = "count" → row[1]? = some (dn t)) (rt2 : o ≠ "count" → row[2]? = some (dn t)) : XC L (k + 1) "_law_table" [r.d, .tup row] S fun x S' => S' = S ∧ TabOk wa chg hnd r t x := by
  have run : ∀ (x : Option D), (r.tb.map Tab.d)[t]? = x → (x = none ∧ ¬ t < r.tb.length ∧ r.tb[t]? = none ∨ t < r.tb.length ∧ ((∃ may l, x = some (Tab.arr may l).d ∧ r.tb[t]? = some (.arr may l)) ∨ ∃ may l, x = some (Tab.prs may l).d ∧ r.tb[t]? = some (.prs may l))) → XC L (k + 1) "_law_table" [r.d, .tup row] S fun x S' => S' = S ∧ TabOk wa chg hnd r t x := by
    intro x hx hc
    simp only [tabKinds, List.mem_cons, List.not_mem_nil, or_false] at ho
    rcases ho with ho | ho | ho | ho | ho | ho <;> cases ho <;>
    (first | (have rt := rt1 rfl) | (have rt := rt2 (by decide +kernel))) <;>
    clear rt1 rt2 <;>
    (rcases hc with ⟨rfl, ht, hg⟩ | ⟨ht, ⟨may, l, rfl, hg⟩ | ⟨may, l, rfl, hg⟩⟩) <;>
    (refine (wFnL H.f__law_table rfl ?_); unfold Run.d; (try simp only [Tab.d] at hx); show XS _ _ t__law_table [_, _, none, none, none] S _; repeat' (first | eq_refl | refine ifD (fun h => ?_) (fun h => ?_) | refine ifD' (fun h => ?_) (fun h => ?_) | refine ifN (fun h => ?_) (fun h => ?_) | refine ifN' (fun h => ?_) (fun h => ?_))) <;>
    (refine ⟨rfl, ?_⟩; first | exact .inl ⟨rfl, fun w => by simp_all [tabFault]⟩ | exact .inr ⟨_, hg, rfl, by simp_all⟩)
  by_cases ht : t < r.tb.length
  · have hT := tget ht
    have hg : r.tb[t]? = some r.tb[t] := List.getElem?_eq_getElem ht
    cases hq : r.tb[t] with
    | arr may l =>
      rw [hq] at hT hg
      exact run _ hT (.inr ⟨ht, .inl ⟨may, l, rfl, hg⟩⟩)
    | prs may l =>
      rw [hq] at hT hg
      exact run _ hT (.inr ⟨ht, .inr ⟨may, l, rfl, hg⟩⟩)
  · have hg : r.tb[t]? = none := List.getElem?_eq_none (by omega)
    exact run _ (by rw [List.getElem?_map, hg]; rfl) (.inl ⟨rfl, ht, hg⟩)
end S1

set_option maxHeartbeats 4000000
namespace S1
open PySem PySem.Spec PyProof.Rows L2 Ev
local macro_rules
  | `(tactic| fail) => `(tactic| first
    | (refine (?_ : Ev.XE _ _ _ _ _); first | refine wVar rfl ?_ | refine wCst ?_ | refine wCallc rfl ?_ | refine wIdx ?_ | refine wBin ?_ | refine wCmp ?_ | refine wTup ?_ | refine wBlt ?_ | refine wNot ?_ | refine wAndE ?_ | refine wOrE ?_ | refine wIfE ?_ | refine wChain ?_ | refine wLst ?_ | refine wNewl ?_ | refine wNewc ?_ | refine wSlTo ?_ | refine wSlFrom ?_ | refine wSlBoth ?_ | refine wOnes ?_ | refine wCallkc rfl ?_ | refine wCalllc rfl rfl ?_ | refine wComp ?_ | refine wGenL rfl ?_ | refine wNeg ?_ | refine wInv ?_ | refine wBlen ?_)
    | (refine (?_ : Ev.XL _ _ _ _ _); first | refine wCons ?_ | refine wNil ?_)
    | (refine (?_ : Ev.XS _ _ _ _ _ _); first | refine yIf ?_ | refine yRet ?_ | refine yAsg ?_ | refine yNil ?_ | refine yPar ?_ | refine yTup ?_ | refine yExpr ?_ | refine yFor ?_ | refine yRetN ?_ | refine yAug rfl ?_ | refine yPass ?_ | refine yBrk ?_ | refine yCont ?_ | refine yWhile ?_)
    | (refine (?_ : Ev.PT _ _ _); first | refine tBl ?_ | refine tTup ?_ | refine tNon ?_)
    | (refine (?_ : Ev.PC _ _ _ _ _); first | refine pEqS ?_ | refine pEqN ?_ | refine pLt ?_ | refine pLe ?_ | refine pGt ?_ | refine pGe ?_ | refine pNeN ?_ | refine pNeS ?_ | refine pIsN ?_ | refine pIsNotN ?_ | refine zLt ?_ | refine zGt ?_ | refine zLe ?_ | refine zGe ?_ | refine pInT rfl ?_)
    | (refine (?_ : Ev.PI _ _ _ _); first | refine pTupI rfl ?_ | refine pLstI rfl ?_ | refine pRefI (by assumption) rfl ?_ | refine pTupZ rfl ?_)
    | (refine (?_ : Ev.PB _ _ _ _ _); first | refine pAdd ?_ | refine pCatT (Nat.le_of_ble_eq_true rfl) ?_ | refine zAnd32 ?_ | refine zAnd16 ?_ | refine zAnd16i ?_ | refine zAnd8 ?_ | refine zAnd5 ?_ | refine zAnd4 ?_ | refine pAnd ?_ | refine pOr ?_ | refine pXor ?_ | refine pShr ?_ | refine pSub (by omega) ?_ | refine pMod (by omega) ?_ | refine pDiv (by omega) (by omega) ?_ | refine pMul (by omega) ?_ | refine pShl (by omega) (by omega) ?_ | refine pPow (by omega) (by omega) ?_ | refine zAdd ?_ | refine zSub ?_ | refine zMul (by omega) ?_ | refine zMod (by omega) ?_ | refine zDiv (by omega) (by omega) ?_)
    | (refine (?_ : Ev.PF _ _ _ _); first | refine pLenT ?_ | refine pIntN ?_ | refine pIntB ?_ | refine pLenL ?_ | refine pMinN ?_ | refine pMaxN ?_ | refine pIsiNI ?_ | refine pIsiNB ?_ | refine pIsiTT ?_ | refine pIsiSS ?_ | refine pTupL ?_ | refine zInt ?_ | refine zAbs ?_ | refine zDm (by omega) (by omega) ?_ | refine pTupR (by assumption) ?_ | refine pLenR (by assumption) ?_ | refine pLenS ?_ | refine pAllT ?_)
    | (refine (?_ : Ev.RQ _ _ _ _); first | refine rqR ?_ | refine rqN ?_)
    | (refine (?_ : Ev.PL _ _ _ _ _); first | refine sFromT ?_ | refine sToT ?_ | refine sFromL ?_ | refine sToL ?_ | refine sToR ?_ | refine sMidT (by omega) (Nat.le_of_ble_eq_true rfl) ?_)
    | (refine (?_ : Ev.PR _ _ _ _); first | refine rT ?_ | refine rL ?_ | refine rN (by omega) ?_ | refine rN2 (by omega) (by omega) ?_ | refine rEn ?_ | refine rZip ?_)
    | (refine (?_ : Ev.LQ _ _ _ _ _ _ _); first | refine lqN ?_ | refine lqR ?_)
    | (refine (?_ : Ev.TQ _ _ _ _ _ _ _ _ _ _ _); first | refine tqN ?_ | refine tqC ?_ | refine tqB ?_ | refine tqR ?_)
    | (refine (?_ : Ev.WP _ _); refine WP.mk rfl ?_)
    | refine ifT rfl ?_
    | refine ifF rfl ?_
    | refine ifT' rfl ?_
    | refine ifF' rfl ?_
    | refine aLen (Nat.le_of_ble_eq_true rfl) ?_
    | refine Exists.intro _ (And.intro rfl ?_)
    | refine ifT (by decide +kernel) ?_
    | refine ifF (by decide +kernel) ?_
    | refine ifT' (by decide +kernel) ?_
    | refine ifF' (by decide +kernel) ?_)
local macro_rules
  | `(tactic| fail) => `(tactic| first
    | refine wGlobc rfl S1C.g_FIELDS ?_
    | refine wGlobc rfl S1C.g_BOUNDS ?_
    | refine wGlobc rfl S1C.g_WORDS ?_
    | refine wGlobc rfl S1C.g_CHANGES ?_
    | refine wGlobc rfl S1C.g_CONDITIONS ?_
    | refine wGlobc rfl S1C.g_HELPERS ?_
    | refine wGlobc rfl S1C.g_FAULTS ?_)
local macro_rules
  | `(tactic| eq_refl) => `(tactic| first
    | fail
    | refine ifT (by assumption) ?_
    | refine ifF (by assumption) ?_
    | refine ifT' (by assumption) ?_
    | refine ifF' (by assumption) ?_
    | refine pTupI (by assumption) ?_
    | refine pTupZ (by assumption) ?_
    | refine ifT (decide_eq_true (by (try simp only [List.length_map]); omega)) ?_
    | refine ifF (decide_eq_false (by (try simp only [List.length_map]); omega)) ?_
    | refine ifT' (decide_eq_true (by (try simp only [List.length_map]); omega)) ?_
    | refine ifF' (decide_eq_false (by (try simp only [List.length_map]); omega)) ?_
    | refine ifT (by simp only [Bool.not_eq_true', decide_eq_false_iff_not, List.length_map]; omega) ?_
    | refine ifF (by simp only [Bool.not_eq_false', decide_eq_true_eq, List.length_map]; omega) ?_
    | refine ifT' (by simp only [Bool.not_eq_true', decide_eq_false_iff_not, List.length_map]; omega) ?_
    | refine ifF' (by simp only [Bool.not_eq_false', decide_eq_true_eq, List.length_map]; omega) ?_)
variable {L : Lw} [H : S1T L] [C : S1C L] {k : Nat} {S : Sto}
def Row.fault (r : Run) : Row → Option Str
  | .mem o a b s => if r.pk.length ≤ r.rg.getD b 0 + s + (if o = "pair" then 1 else 0) then some ("packet" : Str) else if o = "write" ∧ r.wr = 0 then some ("grant" : Str) else none
  | .tab o a t b => tabFault (decide (o = "cell" ∨ o = "fill")) (decide (o = "fill" ∨ o = "change")) (decide (o = "value" ∨ o = "change")) r.tb t (r.rg.getD b 0)
  | .count t b => tabFault true true false r.tb t (r.rg.getD b 0)
  | _ => none
def T6 : List D := [.str "cell", .str "fill", .str "count", .str "find", .str "value", .str "change"]
def T3 : List D := [.str "byte", .str "pair", .str "write"]
/-- what reaches nothing -/
def calm (x : Str) : Prop := (T6.any fun y => flatEq y (.str x)) = false ∧ (T3.any fun y => flatEq y (.str x)) = false
theorem calm_alu : ∀ o ∈ alus, calm o := by unfold calm; decide +kernel
theorem calm_aln : ∀ o ∈ alns, calm o := by unfold calm; decide +kernel
theorem calm_shn : ∀ o ∈ shns, calm o := by unfold calm; decide +kernel
theorem rget {l : List Row} {t : Nat} (h : t < l.length) : (l.map Row.d)[t]? = some (l[t].d) := by rw [List.getElem?_map, List.getElem?_eq_getElem h]; rfl
theorem calm_both {r : Run} {rows : List D} {x : Str} {vs : List D} (hp : rows[r.pl]? = some (.tup (.str x :: vs))) (hx : calm x) : Tells L (k + 2) "next_fault" [.tup rows, r.d] S .non ∧ Tells L (k + 2) "_law_fault" [.tup rows, r.d] S .non := by
  have hl : ¬ rows.length ≤ r.pl := by have := (List.getElem?_eq_some_iff.mp hp).1; omega
  obtain ⟨h6, h3⟩ := hx
  unfold T6 at h6
  unfold T3 at h3
  constructor
  · refine (wFnL H.f_next_fault rfl ?_)
    unfold Run.d
    show XS _ _ t_next_fault [_, _, none] S _
    repeat eq_refl
    exact ⟨rfl, rfl⟩
  · refine (wFnL H.f__law_fault rfl ?_)
    unfold Run.d
    show XS _ _ t__law_fault [_, _, none, none, none] S _
    repeat eq_refl
    exact ⟨rfl, rfl⟩
theorem nbp : (("byte" : Str) = "pair") = False := eq_false (by decide +kernel)
theorem nbw : (("byte" : Str) = "write") = False := eq_false (by decide +kernel)
theorem npw : (("pair" : Str) = "write") = False := eq_false (by decide +kernel)
theorem nwp : (("write" : Str) = "pair") = False := eq_false (by decide +kernel)
theorem mem_both {r : Run} {rows : List D} {o : Str} {a b s : Nat} (hp : rows[r.pl]? = some (Row.mem o a b s).d) (ho : o ∈ mems) (hb : b < r.rg.length) : Tells L (k + 2) "next_fault" [.tup rows, r.d] S (optS ((Row.mem o a b s).fault r)) ∧ Tells L (k + 2) "_law_fault" [.tup rows, r.d] S (optS ((Row.mem o a b s).fault r)) := by
  have hl : ¬ rows.length ≤ r.pl := by have := (List.getElem?_eq_some_iff.mp hp).1; omega
  have gb := gget hb
  generalize hw : r.rg.getD b 0 = w at gb
  simp only [Row.d] at hp
  simp only [mems, List.mem_cons, List.not_mem_nil, or_false] at ho
  constructor
  · rcases ho with rfl | rfl | rfl <;>
    (refine (wFnL H.f_next_fault rfl ?_); unfold Run.d; show XS _ _ t_next_fault [_, _, none] S _; (repeat eq_refl); refine (wFnL H.f_packet_fault rfl ?_); show XS _ _ t_packet_fault [_, _, none, none] S _; repeat' (first | eq_refl | refine ifD (fun h => ?_) (fun h => ?_) | refine ifD' (fun h => ?_) (fun h => ?_))) <;>
    (refine ⟨?_, rfl⟩; simp only [Row.fault, hw]; simp only [List.length_map, decide_eq_true_eq, nbp, nbw, npw, nwp, if_true, if_false, true_and, false_and, Nat.add_zero] at *; (repeat (first | rw [if_pos (by omega)] | rw [if_neg (by omega)])); rfl)
  · rcases ho with rfl | rfl | rfl <;>
    (refine (wFnL H.f__law_fault rfl ?_); unfold Run.d; show XS _ _ t__law_fault [_, _, none, none, none] S _; repeat' (first | eq_refl | refine ifD (fun h => ?_) (fun h => ?_) | refine ifD' (fun h => ?_) (fun h => ?_))) <;>
    (refine ⟨?_, rfl⟩; simp only [Row.fault, hw]; simp only [List.length_map, decide_eq_true_eq, nbp, nbw, npw, nwp, if_true, if_false, true_and, false_and, Nat.add_zero] at *; (repeat (first | rw [if_pos (by omega)] | rw [if_neg (by omega)])); rfl)
theorem t6_in : ∀ q ∈ tabKinds, (T6.any fun y => flatEq y (.str q.1)) = true := by decide +kernel
theorem tk_both {r : Run} {rows row : List D} {o : Str} {wa chg hnd : Bool} {t b : Nat} (hp : rows[r.pl]? = some (.tup row)) (ho : (o, wa, chg, hnd) ∈ tabKinds) (r0 : row[0]? = some (.str o)) (r2 : atI row (-2) = some (dn t)) (r1 : atI row (-1) = some (dn b)) (rl : row[row.length - 1]? = some (dn b))
    (rt1 : o = "count" → row[1]? = some (dn t)) (rt2 : o ≠ "count" → row[2]? = some (dn t)) (hb : b < r.rg.length) :
    Tells L (k + 2) "next_fault" [.tup rows, r.d] S (optS (tabFault wa chg hnd r.tb t (r.rg.getD b 0))) ∧ Tells L (k + 2) "_law_fault" [.tup rows, r.d] S (optS (tabFault wa chg hnd r.tb t (r.rg.getD b 0))) := by
  have hl : ¬ rows.length ≤ r.pl := by have := (List.getElem?_eq_some_iff.mp hp).1; omega
  have hlr : 1 ≤ row.length := by have := (List.getElem?_eq_some_iff.mp r0).1; omega
  have h6 := t6_in _ ho
  unfold T6 at h6
  have gb := gget hb
  constructor
  · refine (wFnL H.f_next_fault rfl ?_)
    have e : ∃ l, r.d = .tup l := ⟨_, rfl⟩
    show XS _ _ t_next_fault [_, some (.tup [.tup (r.rg.map dn), .tup (r.sl.map dn), .tup (r.ct.map dn), dn r.pl, .tup (r.pk.map dn), .tup (r.tb.map Tab.d), dn r.ck, dn r.st, r.en, dn r.wr]), none] S _
    repeat eq_refl
    refine (c_table_fault ho r0 r2 r1 hb).go ?_
    repeat eq_refl
    exact ⟨rfl, rfl⟩
  · refine (wFnL H.f__law_fault rfl ?_)
    show XS _ _ t__law_fault [_, some (.tup [.tup (r.rg.map dn), .tup (r.sl.map dn), .tup (r.ct.map dn), dn r.pl, .tup (r.pk.map dn), .tup (r.tb.map Tab.d), dn r.ck, dn r.st, r.en, dn r.wr]), none, none, none] S _
    repeat eq_refl
    refine (c_law_table (r := r) ho r0 rt1 rt2).mono ?_
    rintro x _ ⟨rfl, hx⟩
    generalize r.rg.getD b 0 = w at *
    rcases hx with ⟨rfl, hx⟩ | ⟨tb, hg, rfl, hc⟩
    · repeat eq_refl
      exact ⟨by rw [hx]; rfl, rfl⟩
    · simp only [tabKinds, List.mem_cons, List.not_mem_nil, or_false] at ho
      cases tb with
      | arr may l =>
        obtain ⟨rfl, hm⟩ := hc
        simp only [Tab.d]
        (rcases ho with ho | ho | ho | ho | ho | ho <;> cases ho) <;> (repeat' (first | eq_refl | refine ifD (fun h => ?_) (fun h => ?_) | refine ifD' (fun h => ?_) (fun h => ?_))) <;>
        (refine ⟨?_, rfl⟩; simp only [List.length_map] at *; simp_all [tabFault, optS]; first | done | (rw [if_neg (by omega)]))
      | prs may l =>
        obtain ⟨rfl, hm⟩ := hc
        simp only [Tab.d]
        (rcases ho with ho | ho | ho | ho | ho | ho <;> cases ho) <;> (repeat' (first | eq_refl | refine ifD (fun h => ?_) (fun h => ?_) | refine ifD' (fun h => ?_) (fun h => ?_) | refine ifN (fun h => ?_) (fun h => ?_) | refine ifN' (fun h => ?_) (fun h => ?_))) <;>
        (refine ⟨?_, rfl⟩; simp only [List.length_map] at *; simp_all [tabFault, optS]; first | done | (rw [if_neg (by omega)]) | (rw [if_pos (by omega)]))
end S1

set_option maxHeartbeats 4000000
namespace S1
open PySem PySem.Spec PyProof.Rows L2 Ev
local macro_rules
  | `(tactic| fail) => `(tactic| first
    | (refine (?_ : Ev.XE _ _ _ _ _); first | refine wVar rfl ?_ | refine wCst ?_ | refine wCallc rfl ?_ | refine wIdx ?_ | refine wBin ?_ | refine wCmp ?_ | refine wTup ?_ | refine wBlt ?_ | refine wNot ?_ | refine wAndE ?_ | refine wOrE ?_ | refine wIfE ?_ | refine wChain ?_ | refine wLst ?_ | refine wNewl ?_ | refine wNewc ?_ | refine wSlTo ?_ | refine wSlFrom ?_ | refine wSlBoth ?_ | refine wOnes ?_ | refine wCallkc rfl ?_ | refine wCalllc rfl rfl ?_ | refine wComp ?_ | refine wGenL rfl ?_ | refine wNeg ?_ | refine wInv ?_ | refine wBlen ?_)
    | (refine (?_ : Ev.XL _ _ _ _ _); first | refine wCons ?_ | refine wNil ?_)
    | (refine (?_ : Ev.XS _ _ _ _ _ _); first | refine yIf ?_ | refine yRet ?_ | refine yAsg ?_ | refine yNil ?_ | refine yPar ?_ | refine yTup ?_ | refine yExpr ?_ | refine yFor ?_ | refine yRetN ?_ | refine yAug rfl ?_ | refine yPass ?_ | refine yBrk ?_ | refine yCont ?_ | refine yWhile ?_)
    | (refine (?_ : Ev.PT _ _ _); first | refine tBl ?_ | refine tTup ?_ | refine tNon ?_)
    | (refine (?_ : Ev.PC _ _ _ _ _); first | refine pEqS ?_ | refine pEqN ?_ | refine pLt ?_ | refine pLe ?_ | refine pGt ?_ | refine pGe ?_ | refine pNeN ?_ | refine pNeS ?_ | refine pIsN ?_ | refine pIsNotN ?_ | refine zLt ?_ | refine zGt ?_ | refine zLe ?_ | refine zGe ?_ | refine pInT rfl ?_)
    | (refine (?_ : Ev.PI _ _ _ _); first | refine pTupI rfl ?_ | refine pLstI rfl ?_ | refine pRefI (by assumption) rfl ?_ | refine pTupZ rfl ?_)
    | (refine (?_ : Ev.PB _ _ _ _ _); first | refine pAdd ?_ | refine pCatT (Nat.le_of_ble_eq_true rfl) ?_ | refine zAnd32 ?_ | refine zAnd16 ?_ | refine zAnd16i ?_ | refine zAnd8 ?_ | refine zAnd5 ?_ | refine zAnd4 ?_ | refine pAnd ?_ | refine pOr ?_ | refine pXor ?_ | refine pShr ?_ | refine pSub (by omega) ?_ | refine pMod (by omega) ?_ | refine pDiv (by omega) (by omega) ?_ | refine pMul (by omega) ?_ | refine pShl (by omega) (by omega) ?_ | refine pPow (by omega) (by omega) ?_ | refine zAdd ?_ | refine zSub ?_ | refine zMul (by omega) ?_ | refine zMod (by omega) ?_ | refine zDiv (by omega) (by omega) ?_)
    | (refine (?_ : Ev.PF _ _ _ _); first | refine pLenT ?_ | refine pIntN ?_ | refine pIntB ?_ | refine pLenL ?_ | refine pMinN ?_ | refine pMaxN ?_ | refine pIsiNI ?_ | refine pIsiNB ?_ | refine pIsiTT ?_ | refine pIsiSS ?_ | refine pTupL ?_ | refine zInt ?_ | refine zAbs ?_ | refine zDm (by omega) (by omega) ?_ | refine pTupR (by assumption) ?_ | refine pLenR (by assumption) ?_ | refine pLenS ?_ | refine pAllT ?_)
    | (refine (?_ : Ev.RQ _ _ _ _); first | refine rqR ?_ | refine rqN ?_)
    | (refine (?_ : Ev.PL _ _ _ _ _); first | refine sFromT ?_ | refine sToT ?_ | refine sFromL ?_ | refine sToL ?_ | refine sToR ?_ | refine sMidT (by omega) (Nat.le_of_ble_eq_true rfl) ?_)
    | (refine (?_ : Ev.PR _ _ _ _); first | refine rT ?_ | refine rL ?_ | refine rN (by omega) ?_ | refine rN2 (by omega) (by omega) ?_ | refine rEn ?_ | refine rZip ?_)
    | (refine (?_ : Ev.LQ _ _ _ _ _ _ _); first | refine lqN ?_ | refine lqR ?_)
    | (refine (?_ : Ev.TQ _ _ _ _ _ _ _ _ _ _ _); first | refine tqN ?_ | refine tqC ?_ | refine tqB ?_ | refine tqR ?_)
    | (refine (?_ : Ev.WP _ _); refine WP.mk rfl ?_)
    | refine ifT rfl ?_
    | refine ifF rfl ?_
    | refine ifT' rfl ?_
    | refine ifF' rfl ?_
    | refine aLen (Nat.le_of_ble_eq_true rfl) ?_
    | refine Exists.intro _ (And.intro rfl ?_)
    | refine ifT (by decide +kernel) ?_
    | refine ifF (by decide +kernel) ?_
    | refine ifT' (by decide +kernel) ?_
    | refine ifF' (by decide +kernel) ?_)
local macro_rules
  | `(tactic| fail) => `(tactic| first
    | refine wGlobc rfl S1C.g_FIELDS ?_
    | refine wGlobc rfl S1C.g_BOUNDS ?_
    | refine wGlobc rfl S1C.g_WORDS ?_
    | refine wGlobc rfl S1C.g_CHANGES ?_
    | refine wGlobc rfl S1C.g_CONDITIONS ?_
    | refine wGlobc rfl S1C.g_HELPERS ?_
    | refine wGlobc rfl S1C.g_FAULTS ?_)
local macro_rules
  | `(tactic| eq_refl) => `(tactic| first
    | fail
    | refine ifT (by assumption) ?_
    | refine ifF (by assumption) ?_
    | refine ifT' (by assumption) ?_
    | refine ifF' (by assumption) ?_
    | refine pTupI (by assumption) ?_
    | refine pTupZ (by assumption) ?_
    | refine ifT (decide_eq_true (by (try simp only [List.length_map]); omega)) ?_
    | refine ifF (decide_eq_false (by (try simp only [List.length_map]); omega)) ?_
    | refine ifT' (decide_eq_true (by (try simp only [List.length_map]); omega)) ?_
    | refine ifF' (decide_eq_false (by (try simp only [List.length_map]); omega)) ?_
    | refine ifT (by simp only [Bool.not_eq_true', decide_eq_false_iff_not, List.length_map]; omega) ?_
    | refine ifF (by simp only [Bool.not_eq_false', decide_eq_true_eq, List.length_map]; omega) ?_
    | refine ifT' (by simp only [Bool.not_eq_true', decide_eq_false_iff_not, List.length_map]; omega) ?_
    | refine ifF' (by simp only [Bool.not_eq_false', decide_eq_true_eq, List.length_map]; omega) ?_)
variable {L : Lw} [H : S1T L] [C : S1C L] {k : Nat} {S : Sto}
/-! words reckoned -/
def wop (o : Str) (a b : Nat) : Nat :=
  if o = "add" then (a + b) % 65536 else if o = "sub" then (((a : Int) - (b : Int)) % 65536).toNat else if o = "and" then a &&& b else if o = "or" then a ||| b else if o = "xor" then a ^^^ b
  else if o = "left" then (a <<< (b % 16)) % 65536 else a >>> (b % 16)
theorem subI (a b : Nat) : ((a : Int) - (b : Int)) % 65536 = ((((a : Int) - (b : Int)) % 65536).toNat : Nat) := by omega
theorem c_combined {o : Str} {a b : Nat} (ho : o ∈ alus) (ha : a < 65536) (hb : b < 65536) : Tells L (k + 1) "combined" [.str o, dn a, dn b] S (dn (wop o a b)) := by
  have h5 : b % 16 < 16 := Nat.mod_lt _ (by decide)
  simp only [alus, List.mem_cons, List.not_mem_nil, or_false] at ho
  rcases ho with rfl | rfl | rfl | rfl | rfl | rfl | rfl <;> (refine (wFnL H.f_combined rfl ?_); show XS _ _ t_combined [_, some (dn a), some (dn b)] S _; repeat fail)
  · exact ⟨rfl, rfl⟩
  · refine ⟨?_, rfl⟩
    rw [show wop "sub" a b = (((a : Int) - (b : Int)) % 65536).toNat from rfl]
    simp only [dn]
    congr 1
    omega
  · exact ⟨rfl, rfl⟩
  · exact ⟨rfl, rfl⟩
  · exact ⟨rfl, rfl⟩
  · exact ⟨rfl, rfl⟩
  · exact ⟨rfl, rfl⟩
theorem c_reckon {o : Str} {a b : Nat} (ho : o ∈ alus) (ha : a < 65536) (hb : b < 65536) : Tells L (k + 1) "_law_reckon" [.str o, dn a, dn b] S (dn (wop o a b)) := by
  have h5 : b % 16 < 16 := Nat.mod_lt _ (by decide)
  simp only [alus, List.mem_cons, List.not_mem_nil, or_false] at ho
  rcases ho with rfl | rfl | rfl | rfl | rfl | rfl | rfl <;> (refine (wFnL H.f__law_reckon rfl ?_); show XS _ _ t__law_reckon [_, some (dn a), some (dn b), none] S _; repeat fail)
  · exact ⟨rfl, rfl⟩
  · refine ⟨?_, rfl⟩
    rw [show wop "sub" a b = (((a : Int) - (b : Int)) % 65536).toNat from rfl]
    simp only [dn]
    congr 1
    omega
  · exact ⟨rfl, rfl⟩
  · exact ⟨rfl, rfl⟩
  · exact ⟨rfl, rfl⟩
  · exact ⟨rfl, rfl⟩
  · exact ⟨rfl, rfl⟩
theorem wop_lt {o : Str} {a b : Nat} (ho : o ∈ alus) (ha : a < 65536) (hb : b < 65536) : wop o a b < 65536 := by
  simp only [alus, List.mem_cons, List.not_mem_nil, or_false] at ho
  rcases ho with rfl | rfl | rfl | rfl | rfl | rfl | rfl
  · exact Nat.mod_lt _ (by decide)
  · show (((a : Int) - (b : Int)) % 65536).toNat < _
    omega
  · exact Nat.lt_of_le_of_lt Nat.and_le_left ha
  · exact Nat.or_lt_two_pow (n := 16) ha hb
  · exact Nat.xor_lt_two_pow (n := 16) ha hb
  · exact Nat.mod_lt _ (by decide)
  · show a >>> (b % 16) < _
    exact Nat.lt_of_le_of_lt (Nat.shiftRight_le _ _) ha
/-! conditions -/
def rel (c : Str) (a b : Nat) : Bool :=
  if c = "same" then decide (a = b) else if c = "other" then !decide (a = b) else if c = "below" then decide (a < b) else if c = "from" then decide (b ≤ a) else if c = "bit" then !decide (a &&& b = 0) else decide (a &&& b = 0)
theorem c_related {c : Str} {a b : Nat} (hc : c ∈ conds) : Tells L (k + 1) "related" [.str c, dn a, dn b] S (.bl (rel c a b)) := by
  simp only [conds, List.mem_cons, List.not_mem_nil, or_false] at hc
  rcases hc with rfl | rfl | rfl | rfl | rfl | rfl <;> (refine (wFnL H.f_related rfl ?_); show XS _ _ t_related [_, some (dn a), some (dn b)] S _; repeat fail) <;> exact ⟨rfl, rfl⟩
theorem set_app (S : Sto) (a b m : MO) : (S ++ [a] ++ [b]).set S.length m = S ++ [m, b] := by
  have : ∀ (S : List MO), (S ++ [a] ++ [b]).set S.length m = S ++ [m, b] := fun S => by simp
  exact this S
theorem c_holds {c : Str} {a b : Nat} (hc : c ∈ conds) : XC L (k + 1) "_law_holds" [.str c, dn a, dn b] S fun d S' => d = .bl (rel c a b) ∧ ∃ N, S' = S ++ N := by
  refine (wFnL H.f__law_holds rfl ?_)
  show XS _ _ t__law_holds [some (.str c), some (dn a), some (dn b), none, none] S _
  repeat fail
  refine wNewd ?_
  repeat fail
  refine ⟨rfl, ?_⟩
  repeat fail
  refine yUpd ?_
  repeat fail
  refine ⟨_, List.getElem?_concat_length, ?_⟩
  refine wNewd ?_
  repeat fail
  refine ⟨rfl, ?_⟩
  repeat fail
  refine ⟨_, _, (List.getElem?_append_left (by simp)).trans List.getElem?_concat_length, List.getElem?_concat_length, by simp, Nat.le_of_ble_eq_true (by kernel_rfl), ?_⟩
  repeat fail
  simp only [conds, List.mem_cons, List.not_mem_nil, or_false] at hc
  rcases hc with rfl | rfl | rfl | rfl | rfl | rfl <;>
  (refine pDctI (List.getElem?_set_self (by simp)) (by rfl) ?_; (repeat fail); refine ⟨rfl, ?_⟩; exact ⟨_, set_app S _ _ _⟩)
/-! asked -/
def askW (h : Str) (ck w : Nat) : Nat := if h = "clock" then ck else if h = "ones" then onesN w else (w * 40503 + 1) % 65536
theorem filt_ones : ∀ (m n i : Nat), ((List.range' i m).filter fun q => decide ((n >>> q) &&& 1 = 1)).length = onesF m (n >>> i)
  | 0, n, i => rfl
  | m + 1, n, i => by
    rw [List.range'_succ]
    have ih := filt_ones m n (i + 1)
    have e : (n >>> i) / 2 = n >>> (i + 1) := by rw [Nat.shiftRight_succ]
    have e2 : (n >>> i) &&& 1 = (n >>> i) % 2 := Nat.and_one_is_mod _
    show _ = (n >>> i) % 2 + onesF m ((n >>> i) / 2)
    rw [e, ← ih]
    rcases Nat.mod_two_eq_zero_or_one (n >>> i) with h | h
    · rw [List.filter_cons_of_neg (by rw [e2, h]; decide), h, Nat.zero_add]
    · rw [List.filter_cons_of_pos (by rw [e2, h]; decide), h, List.length_cons]
      omega
theorem onesF_more : ∀ (m k n : Nat), n < 2 ^ m → onesF (m + k) n = onesF m n
  | 0, k, n, h => by
    have : n = 0 := by simpa using h
    subst this
    rw [onesF_zero]
    rfl
  | m + 1, k, n, h => by
    rw [show m + 1 + k = (m + k) + 1 by omega]
    show n % 2 + onesF (m + k) (n / 2) = n % 2 + onesF m (n / 2)
    rw [onesF_more m k (n / 2) (by rw [Nat.pow_succ] at h; omega)]
theorem ones16 {w : Nat} (h : w < 65536) : ((List.range' 0 16).filter fun q => decide ((w >>> q) &&& 1 = 1)).length = onesN w := by
  rw [filt_ones]
  show onesF 16 (w >>> 0) = onesF (16 + 48) w
  rw [onesF_more 16 48 w h, Nat.shiftRight_zero]
theorem ones_comp {G : Gb} {e0 e1 : Option D} {w : Nat} : ∀ (n i : Nat) (acc : List D) (Q : List D → Sto → Prop), acc.length + n ≤ 900 → (∀ l, l.length = acc.length + ((List.range' i n).filter fun q => decide ((w >>> q) &&& 1 = 1)).length → Q l S) →
    XP (fun _ => true) [3] true G true (.cmp .Eq (.bin .BitAnd (.bin .RShift (.var 2) (.var 3)) (.cst (dn 1))) (.cst (dn 1))) (.var 3) [e0, e1, some (dn w), none] (nums i n) S acc Q
  | 0, i, acc, Q, _, q => xpNil rfl (q acc (by simp))
  | n + 1, i, acc, Q, hl, q => by
    refine xpConsIf rfl (by omega) ?_
    repeat fail
    refine ifD (fun h => ?_) (fun h => ?_)
    · repeat fail
      refine ones_comp n (i + 1) _ Q (by rw [List.length_append, List.length_singleton]; omega) fun l hl => q l ?_
      rw [hl, List.range'_succ, List.filter_cons, if_pos (decide_eq_true h), List.length_append, List.length_singleton, List.length_cons]
      omega
    · refine ones_comp n (i + 1) _ Q (by omega) fun l hl => q l ?_
      rw [hl, List.range'_succ, List.filter_cons, if_neg (by rw [decide_eq_false h]; decide)]
theorem askW_lt {h : Str} {ck w : Nat} (hc : ck < 65536) : askW h ck w < 65536 := by
  unfold askW
  split
  · exact hc
  · split
    · have key : ∀ k n, onesF k n ≤ k := by
        intro k
        induction k with
        | zero => intro n; exact Nat.le_refl _
        | succ k ih =>
          intro n
          have := ih (n / 2)
          show n % 2 + onesF k (n / 2) ≤ _
          omega
      have := key 64 w
      show onesF 64 w < _
      omega
    · exact Nat.mod_lt _ (by decide)
end S1

set_option maxHeartbeats 4000000
namespace S1
open PySem PySem.Spec PyProof.Rows L2 Ev
local macro_rules
  | `(tactic| fail) => `(tactic| first
    | (refine (?_ : Ev.XE _ _ _ _ _); first | refine wVar rfl ?_ | refine wCst ?_ | refine wCallc rfl ?_ | refine wIdx ?_ | refine wBin ?_ | refine wCmp ?_ | refine wTup ?_ | refine wBlt ?_ | refine wNot ?_ | refine wAndE ?_ | refine wOrE ?_ | refine wIfE ?_ | refine wChain ?_ | refine wLst ?_ | refine wNewl ?_ | refine wNewc ?_ | refine wSlTo ?_ | refine wSlFrom ?_ | refine wSlBoth ?_ | refine wOnes ?_ | refine wCallkc rfl ?_ | refine wCalllc rfl rfl ?_ | refine wComp ?_ | refine wGenL rfl ?_ | refine wNeg ?_ | refine wInv ?_ | refine wBlen ?_)
    | (refine (?_ : Ev.XL _ _ _ _ _); first | refine wCons ?_ | refine wNil ?_)
    | (refine (?_ : Ev.XS _ _ _ _ _ _); first | refine yIf ?_ | refine yRet ?_ | refine yAsg ?_ | refine yNil ?_ | refine yPar ?_ | refine yTup ?_ | refine yExpr ?_ | refine yFor ?_ | refine yRetN ?_ | refine yAug rfl ?_ | refine yPass ?_ | refine yBrk ?_ | refine yCont ?_ | refine yWhile ?_)
    | (refine (?_ : Ev.PT _ _ _); first | refine tBl ?_ | refine tTup ?_ | refine tNon ?_)
    | (refine (?_ : Ev.PC _ _ _ _ _); first | refine pEqS ?_ | refine pEqN ?_ | refine pLt ?_ | refine pLe ?_ | refine pGt ?_ | refine pGe ?_ | refine pNeN ?_ | refine pNeS ?_ | refine pIsN ?_ | refine pIsNotN ?_ | refine zLt ?_ | refine zGt ?_ | refine zLe ?_ | refine zGe ?_ | refine pInT rfl ?_)
    | (refine (?_ : Ev.PI _ _ _ _); first | refine pTupI rfl ?_ | refine pLstI rfl ?_ | refine pRefI (by assumption) rfl ?_ | refine pTupZ rfl ?_)
    | (refine (?_ : Ev.PB _ _ _ _ _); first | refine pAdd ?_ | refine pCatT (Nat.le_of_ble_eq_true rfl) ?_ | refine zAnd32 ?_ | refine zAnd16 ?_ | refine zAnd16i ?_ | refine zAnd8 ?_ | refine zAnd5 ?_ | refine zAnd4 ?_ | refine pAnd ?_ | refine pOr ?_ | refine pXor ?_ | refine pShr ?_ | refine pSub (by omega) ?_ | refine pMod (by omega) ?_ | refine pDiv (by omega) (by omega) ?_ | refine pMul (by omega) ?_ | refine pShl (by omega) (by omega) ?_ | refine pPow (by omega) (by omega) ?_ | refine zAdd ?_ | refine zSub ?_ | refine zMul (by omega) ?_ | refine zMod (by omega) ?_ | refine zDiv (by omega) (by omega) ?_)
    | (refine (?_ : Ev.PF _ _ _ _); first | refine pLenT ?_ | refine pIntN ?_ | refine pIntB ?_ | refine pLenL ?_ | refine pMinN ?_ | refine pMaxN ?_ | refine pIsiNI ?_ | refine pIsiNB ?_ | refine pIsiTT ?_ | refine pIsiSS ?_ | refine pTupL ?_ | refine zInt ?_ | refine zAbs ?_ | refine zDm (by omega) (by omega) ?_ | refine pTupR (by assumption) ?_ | refine pLenR (by assumption) ?_ | refine pLenS ?_ | refine pAllT ?_)
    | (refine (?_ : Ev.RQ _ _ _ _); first | refine rqR ?_ | refine rqN ?_)
    | (refine (?_ : Ev.PL _ _ _ _ _); first | refine sFromT ?_ | refine sToT ?_ | refine sFromL ?_ | refine sToL ?_ | refine sToR ?_ | refine sMidT (by omega) (Nat.le_of_ble_eq_true rfl) ?_)
    | (refine (?_ : Ev.PR _ _ _ _); first | refine rT ?_ | refine rL ?_ | refine rN (by omega) ?_ | refine rN2 (by omega) (by omega) ?_ | refine rEn ?_ | refine rZip ?_)
    | (refine (?_ : Ev.LQ _ _ _ _ _ _ _); first | refine lqN ?_ | refine lqR ?_)
    | (refine (?_ : Ev.TQ _ _ _ _ _ _ _ _ _ _ _); first | refine tqN ?_ | refine tqC ?_ | refine tqB ?_ | refine tqR ?_)
    | (refine (?_ : Ev.WP _ _); refine WP.mk rfl ?_)
    | refine ifT rfl ?_
    | refine ifF rfl ?_
    | refine ifT' rfl ?_
    | refine ifF' rfl ?_
    | refine aLen (Nat.le_of_ble_eq_true rfl) ?_
    | refine Exists.intro _ (And.intro rfl ?_)
    | refine ifT (by decide +kernel) ?_
    | refine ifF (by decide +kernel) ?_
    | refine ifT' (by decide +kernel) ?_
    | refine ifF' (by decide +kernel) ?_)
local macro_rules
  | `(tactic| fail) => `(tactic| first
    | refine wGlobc rfl S1C.g_FIELDS ?_
    | refine wGlobc rfl S1C.g_BOUNDS ?_
    | refine wGlobc rfl S1C.g_WORDS ?_
    | refine wGlobc rfl S1C.g_CHANGES ?_
    | refine wGlobc rfl S1C.g_CONDITIONS ?_
    | refine wGlobc rfl S1C.g_HELPERS ?_
    | refine wGlobc rfl S1C.g_FAULTS ?_)
local macro_rules
  | `(tactic| eq_refl) => `(tactic| first
    | fail
    | refine ifT (by assumption) ?_
    | refine ifF (by assumption) ?_
    | refine ifT' (by assumption) ?_
    | refine ifF' (by assumption) ?_
    | refine pTupI (by assumption) ?_
    | refine pTupZ (by assumption) ?_
    | refine ifT (decide_eq_true (by (try simp only [List.length_map]); omega)) ?_
    | refine ifF (decide_eq_false (by (try simp only [List.length_map]); omega)) ?_
    | refine ifT' (decide_eq_true (by (try simp only [List.length_map]); omega)) ?_
    | refine ifF' (decide_eq_false (by (try simp only [List.length_map]); omega)) ?_
    | refine ifT (by simp only [Bool.not_eq_true', decide_eq_false_iff_not, List.length_map]; omega) ?_
    | refine ifF (by simp only [Bool.not_eq_false', decide_eq_true_eq, List.length_map]; omega) ?_
    | refine ifT' (by simp only [Bool.not_eq_true', decide_eq_false_iff_not, List.length_map]; omega) ?_
    | refine ifF' (by simp only [Bool.not_eq_false', decide_eq_true_eq, List.length_map]; omega) ?_)
variable {L : Lw} [H : S1T L] [C : S1C L] {k : Nat} {S : Sto}
theorem c_exch {l : List D} {i : Nat} {v : D} (h : i < l.length) (hl : l.length < 1000) : Tells L (k + 1) "exchanged" [.tup l, dn i, v] S (.tup (l.set i v)) := by
  refine (wFnL H.f_exchanged rfl ?_)
  show XS _ _ t_exchanged [_, _, _] S _
  repeat fail
  refine pCatT (by simp; omega) ?_
  repeat fail
  refine pCatT (by simp; omega) ?_
  repeat fail
  exact ⟨by rw [set_split h], rfl⟩
theorem c_put {l : List D} {i : Nat} {v : D} (h : i < l.length) (hl : l.length < 1000) : Tells L (k + 1) "_law_put" [.tup l, dn i, v] S (.tup (l.set i v)) := by
  refine (wFnL H.f__law_put rfl ?_)
  show XS _ _ t__law_put [_, _, _] S _
  repeat fail
  refine pCatT (by simp; omega) ?_
  repeat fail
  refine pCatT (by simp; omega) ?_
  repeat fail
  exact ⟨by rw [set_split h], rfl⟩
theorem mapSet {l : List Nat} {i v : Nat} : (l.map dn).set i (dn v) = (l.set i v).map dn := by rw [List.map_set]
theorem c_set {r : Run} {a v : Nat} (h : a < r.rg.length) (hl : r.rg.length < 1000) : Tells L (k + 2) "_law_set" [r.d, dn a, dn v] S ({ r with rg := r.rg.set a v } : Run).d := by
  refine (wFnL H.f__law_set rfl ?_)
  unfold Run.d
  show XS _ _ t__law_set [_, _, _] S _
  repeat fail
  refine (c_put (by rw [List.length_map]; exact h) (by rw [List.length_map]; exact hl)).go ?_
  rw [mapSet]
  repeat fail
  exact ⟨rfl, rfl⟩
/-! a row that sets a register -/
theorem done_word {row : List D} {r : Run} {x g : Str} {a v : Nat} (r0 : row[0]? = some (.str x)) (r1 : row[1]? = some (dn a)) (hin : cop [] .In (.str x) cWORDS = some true) (hix : ixf [] cWORDS (.str x) = some (.fn g)) (hg : Tells L (k + 2) g [.tup row, r.d] S (dn v)) (ha : a < r.rg.length) (hl : r.rg.length < 1000) :
    Tells L (k + 3) "done" [.tup row, r.d] S ({ r with rg := r.rg.set a v, pl := r.pl + 1 } : Run).d := by
  have hin : cop S .In (.str x) cWORDS = some true := hin
  have hix : ixf S cWORDS (.str x) = some (.fn g) := hix
  refine (wFnL H.f_done rfl ?_)
  show XS _ _ t_done [_, some (.tup [.tup (r.rg.map dn), .tup (r.sl.map dn), .tup (r.ct.map dn), dn r.pl, .tup (r.pk.map dn), .tup (r.tb.map Tab.d), dn r.ck, dn r.st, r.en, dn r.wr]), none, none, none, none] S _
  repeat eq_refl
  refine pInK hin ?_
  repeat eq_refl
  refine pIxK hix ?_
  repeat eq_refl
  refine hg.go ?_
  repeat eq_refl
  refine (c_exch (by rw [List.length_map]; exact ha) (by rw [List.length_map]; exact hl)).go ?_
  rw [mapSet]
  repeat eq_refl
  exact ⟨rfl, rfl⟩
theorem done_change {row : List D} {r r1 : Run} {x g : Str} (r0 : row[0]? = some (.str x)) (hin : cop [] .In (.str x) cWORDS = some false) (hin2 : cop [] .In (.str x) cCHANGES = some true) (hix : ixf [] cCHANGES (.str x) = some (.fn g)) (hg : Tells L (k + 3) g [.tup row, r.d] S r1.d) :
    Tells L (k + 4) "done" [.tup row, r.d] S ({ r1 with pl := r.pl + 1 } : Run).d := by
  have hin : cop S .In (.str x) cWORDS = some false := hin
  have hin2 : cop S .In (.str x) cCHANGES = some true := hin2
  have hix : ixf S cCHANGES (.str x) = some (.fn g) := hix
  refine (wFnL H.f_done rfl ?_)
  show XS _ _ t_done [_, some (.tup [.tup (r.rg.map dn), .tup (r.sl.map dn), .tup (r.ct.map dn), dn r.pl, .tup (r.pk.map dn), .tup (r.tb.map Tab.d), dn r.ck, dn r.st, r.en, dn r.wr]), none, none, none, none] S _
  repeat eq_refl
  refine pInK hin ?_
  repeat eq_refl
  refine pInK hin2 ?_
  repeat eq_refl
  refine pIxK hix ?_
  repeat eq_refl
  refine hg.go ?_
  repeat eq_refl
  refine (c_exch (l := [_, _, _, _, _, _, _, _, _, _]) (by simp) (by simp)).go ?_
  repeat eq_refl
  exact ⟨rfl, rfl⟩
/-! a step -/
theorem step_prog {rows : List D} {r r1 : Run} {row : D} (he : r.en = .non) (hf : Tells L (k + 4) "next_fault" [.tup rows, r.d] S .non) (hp : rows[r.pl]? = some row) (hd : Tells L (k + 4) "done" [row, r.d] S r1.d) (hst : r1.st = r.st) : Tells L (k + 5) "stepped" [.tup rows, r.d] S ({ r1 with st := r.st + 1 } : Run).d := by
  have i8 : ∃ l : List D, r.d = .tup l := ⟨_, rfl⟩
  refine (wFnL H.f_stepped rfl ?_)
  show XS _ _ t_stepped [_, some (.tup [.tup (r.rg.map dn), .tup (r.sl.map dn), .tup (r.ct.map dn), dn r.pl, .tup (r.pk.map dn), .tup (r.tb.map Tab.d), dn r.ck, dn r.st, r.en, dn r.wr]), none] S _
  rw [he]
  repeat eq_refl
  have hf := hf
  unfold Run.d at hf hd
  rw [he] at hf hd
  refine hf.go ?_
  repeat eq_refl
  refine hd.go ?_
  repeat eq_refl
  refine (c_exch (l := [_, _, _, _, _, _, _, _, _, _]) (by simp) (by simp)).go ?_
  repeat eq_refl
  rw [hst]
  exact ⟨rfl, rfl⟩
def T5 : List D := [.str "jump", .str "when", .str "whenn", .str "again", .str "answer"]
/-- the law's step of a row that goes on to the next place -/
theorem step_law {rows row : List D} {r r1 : Run} {x : Str} (he : r.en = .non) (hf : Tells L (k + 5) "_law_fault" [.tup rows, r.d] S .non) (hp : rows[r.pl]? = some (.tup row)) (r0 : row[0]? = some (.str x)) (h5 : (T5.any fun y => flatEq y (.str x)) = false)
    (hd : Tells L (k + 5) "_law_plain" [r.d, .tup row] S r1.d ∨ (Tells L (k + 5) "_law_plain" [r.d, .tup row] S .non ∧ Tells L (k + 5) "_law_reach" [r.d, .tup row] S r1.d)) : Tells L (k + 6) "_law_step" [.tup rows, r.d] S ({ r1 with pl := r.pl + 1, st := r.st + 1 } : Run).d := by
  unfold T5 at h5
  refine (wFnL H.f__law_step rfl ?_)
  show XS _ _ t__law_step [_, some (.tup [.tup (r.rg.map dn), .tup (r.sl.map dn), .tup (r.ct.map dn), dn r.pl, .tup (r.pk.map dn), .tup (r.tb.map Tab.d), dn r.ck, dn r.st, r.en, dn r.wr]), none, none, none, none] S _
  unfold Run.d at hf hd
  rw [he] at hf hd ⊢
  repeat eq_refl
  refine hf.go ?_
  repeat eq_refl
  rcases hd with hd | ⟨hd, hd2⟩
  · refine hd.go ?_
    repeat eq_refl
    exact ⟨rfl, rfl⟩
  · refine hd.go ?_
    repeat eq_refl
    refine hd2.go ?_
    repeat eq_refl
    exact ⟨rfl, rfl⟩
end S1

set_option maxHeartbeats 4000000
namespace S1
open PySem PySem.Spec PyProof.Rows L2 Ev
local macro_rules
  | `(tactic| fail) => `(tactic| first
    | (refine (?_ : Ev.XE _ _ _ _ _); first | refine wVar rfl ?_ | refine wCst ?_ | refine wCallc rfl ?_ | refine wIdx ?_ | refine wBin ?_ | refine wCmp ?_ | refine wTup ?_ | refine wBlt ?_ | refine wNot ?_ | refine wAndE ?_ | refine wOrE ?_ | refine wIfE ?_ | refine wChain ?_ | refine wLst ?_ | refine wNewl ?_ | refine wNewc ?_ | refine wSlTo ?_ | refine wSlFrom ?_ | refine wSlBoth ?_ | refine wOnes ?_ | refine wCallkc rfl ?_ | refine wCalllc rfl rfl ?_ | refine wComp ?_ | refine wGenL rfl ?_ | refine wNeg ?_ | refine wInv ?_ | refine wBlen ?_)
    | (refine (?_ : Ev.XL _ _ _ _ _); first | refine wCons ?_ | refine wNil ?_)
    | (refine (?_ : Ev.XS _ _ _ _ _ _); first | refine yIf ?_ | refine yRet ?_ | refine yAsg ?_ | refine yNil ?_ | refine yPar ?_ | refine yTup ?_ | refine yExpr ?_ | refine yFor ?_ | refine yRetN ?_ | refine yAug rfl ?_ | refine yPass ?_ | refine yBrk ?_ | refine yCont ?_ | refine yWhile ?_)
    | (refine (?_ : Ev.PT _ _ _); first | refine tBl ?_ | refine tTup ?_ | refine tNon ?_)
    | (refine (?_ : Ev.PC _ _ _ _ _); first | refine pEqS ?_ | refine pEqN ?_ | refine pLt ?_ | refine pLe ?_ | refine pGt ?_ | refine pGe ?_ | refine pNeN ?_ | refine pNeS ?_ | refine pIsN ?_ | refine pIsNotN ?_ | refine zLt ?_ | refine zGt ?_ | refine zLe ?_ | refine zGe ?_ | refine pInT rfl ?_)
    | (refine (?_ : Ev.PI _ _ _ _); first | refine pTupI rfl ?_ | refine pLstI rfl ?_ | refine pRefI (by assumption) rfl ?_ | refine pTupZ rfl ?_)
    | (refine (?_ : Ev.PB _ _ _ _ _); first | refine pAdd ?_ | refine pCatT (Nat.le_of_ble_eq_true rfl) ?_ | refine zAnd32 ?_ | refine zAnd16 ?_ | refine zAnd16i ?_ | refine zAnd8 ?_ | refine zAnd5 ?_ | refine zAnd4 ?_ | refine pAnd ?_ | refine pOr ?_ | refine pXor ?_ | refine pShr ?_ | refine pSub (by omega) ?_ | refine pMod (by omega) ?_ | refine pDiv (by omega) (by omega) ?_ | refine pMul (by omega) ?_ | refine pShl (by omega) (by omega) ?_ | refine pPow (by omega) (by omega) ?_ | refine zAdd ?_ | refine zSub ?_ | refine zMul (by omega) ?_ | refine zMod (by omega) ?_ | refine zDiv (by omega) (by omega) ?_)
    | (refine (?_ : Ev.PF _ _ _ _); first | refine pLenT ?_ | refine pIntN ?_ | refine pIntB ?_ | refine pLenL ?_ | refine pMinN ?_ | refine pMaxN ?_ | refine pIsiNI ?_ | refine pIsiNB ?_ | refine pIsiTT ?_ | refine pIsiSS ?_ | refine pTupL ?_ | refine zInt ?_ | refine zAbs ?_ | refine zDm (by omega) (by omega) ?_ | refine pTupR (by assumption) ?_ | refine pLenR (by assumption) ?_ | refine pLenS ?_ | refine pAllT ?_)
    | (refine (?_ : Ev.RQ _ _ _ _); first | refine rqR ?_ | refine rqN ?_)
    | (refine (?_ : Ev.PL _ _ _ _ _); first | refine sFromT ?_ | refine sToT ?_ | refine sFromL ?_ | refine sToL ?_ | refine sToR ?_ | refine sMidT (by omega) (Nat.le_of_ble_eq_true rfl) ?_)
    | (refine (?_ : Ev.PR _ _ _ _); first | refine rT ?_ | refine rL ?_ | refine rN (by omega) ?_ | refine rN2 (by omega) (by omega) ?_ | refine rEn ?_ | refine rZip ?_)
    | (refine (?_ : Ev.LQ _ _ _ _ _ _ _); first | refine lqN ?_ | refine lqR ?_)
    | (refine (?_ : Ev.TQ _ _ _ _ _ _ _ _ _ _ _); first | refine tqN ?_ | refine tqC ?_ | refine tqB ?_ | refine tqR ?_)
    | (refine (?_ : Ev.WP _ _); refine WP.mk rfl ?_)
    | refine ifT rfl ?_
    | refine ifF rfl ?_
    | refine ifT' rfl ?_
    | refine ifF' rfl ?_
    | refine aLen (Nat.le_of_ble_eq_true rfl) ?_
    | refine Exists.intro _ (And.intro rfl ?_)
    | refine ifT (by decide +kernel) ?_
    | refine ifF (by decide +kernel) ?_
    | refine ifT' (by decide +kernel) ?_
    | refine ifF' (by decide +kernel) ?_)
local macro_rules
  | `(tactic| fail) => `(tactic| first
    | refine wGlobc rfl S1C.g_FIELDS ?_
    | refine wGlobc rfl S1C.g_BOUNDS ?_
    | refine wGlobc rfl S1C.g_WORDS ?_
    | refine wGlobc rfl S1C.g_CHANGES ?_
    | refine wGlobc rfl S1C.g_CONDITIONS ?_
    | refine wGlobc rfl S1C.g_HELPERS ?_
    | refine wGlobc rfl S1C.g_FAULTS ?_)
local macro_rules
  | `(tactic| eq_refl) => `(tactic| first
    | fail
    | refine ifT (by assumption) ?_
    | refine ifF (by assumption) ?_
    | refine ifT' (by assumption) ?_
    | refine ifF' (by assumption) ?_
    | refine pTupI (by assumption) ?_
    | refine pTupZ (by assumption) ?_
    | refine ifT (decide_eq_true (by (try simp only [List.length_map]); omega)) ?_
    | refine ifF (decide_eq_false (by (try simp only [List.length_map]); omega)) ?_
    | refine ifT' (decide_eq_true (by (try simp only [List.length_map]); omega)) ?_
    | refine ifF' (decide_eq_false (by (try simp only [List.length_map]); omega)) ?_
    | refine ifT (by simp only [Bool.not_eq_true', decide_eq_false_iff_not, List.length_map]; omega) ?_
    | refine ifF (by simp only [Bool.not_eq_false', decide_eq_true_eq, List.length_map]; omega) ?_
    | refine ifT' (by simp only [Bool.not_eq_true', decide_eq_false_iff_not, List.length_map]; omega) ?_
    | refine ifF' (by simp only [Bool.not_eq_false', decide_eq_true_eq, List.length_map]; omega) ?_)
variable {L : Lw} [H : S1T L] [C : S1C L] {k : Nat} {S : Sto}
/-- what both tell of one step -/
def Steps (L : Lw) (rows : List Row) (r r' : Run) : Prop := (∀ k S, Tells L (k + 5) "stepped" [.tup (rows.map Row.d), r.d] S r'.d) ∧ (∀ k S, XC L (k + 8) "_law_step" [.tup (rows.map Row.d), r.d] S fun d S' => d = r'.d ∧ ∃ N, S' = S ++ N) ∧ r'.st ≤ r.st + 1
structure At (rows : List Row) (r : Run) (x : Row) : Prop where
  ok : r.Ok
  en : r.en = .non
  row : x.Ok
  at_ : rows[r.pl]? = some x
  ln : rows.length ≤ 120
  no : x.fault r = none
section
variable {rows : List Row} {r : Run} {x : Row}
theorem At.pl (h : At rows r x) : r.pl < rows.length := (List.getElem?_eq_some_iff.mp h.at_).1
theorem At.get (h : At rows r x) : (rows.map Row.d)[r.pl]? = some x.d := by rw [List.getElem?_map, h.at_]; rfl
theorem ms {l : List Nat} {b i v : Nat} (h : ∀ n ∈ l, n < b) (hv : v < b) : ∀ n ∈ l.set i v, n < b := fun n hn => by
  rcases List.mem_or_eq_of_mem_set hn with h2 | h2
  · exact h n h2
  · omega
/-- a row that sets a register -/
theorem word_steps {x : Row} {row : List D} {nm g : Str} {a v : Nat} (h : At rows r x) (hx : x.d = .tup row) (r0 : row[0]? = some (.str nm)) (r1 : row[1]? = some (dn a)) (ha : a < 8) (hv : v < 65536)
    (hin : cop [] .In (.str nm) cWORDS = some true) (hix : ixf [] cWORDS (.str nm) = some (.fn g)) (h5 : (T5.any fun y => flatEq y (.str nm)) = false)
    (hf : ∀ k S, Tells L (k + 4) "next_fault" [.tup (rows.map Row.d), r.d] S .non ∧ Tells L (k + 5) "_law_fault" [.tup (rows.map Row.d), r.d] S .non)
    (hg : ∀ k S, Tells L (k + 2) g [.tup row, r.d] S (dn v))
    (hd : ∀ k S, Tells L (k + 5) "_law_plain" [r.d, .tup row] S ({ r with rg := r.rg.set a v } : Run).d ∨ (Tells L (k + 5) "_law_plain" [r.d, .tup row] S .non ∧ Tells L (k + 5) "_law_reach" [r.d, .tup row] S ({ r with rg := r.rg.set a v } : Run).d)) :
    ∃ r' : Run, r'.Ok ∧ Steps L rows r r' := by
  have hr := h.ok
  have hp := h.pl
  have hl := h.ln
  refine ⟨{ r with rg := r.rg.set a v, pl := r.pl + 1, st := r.st + 1 }, ⟨⟨by rw [List.length_set]; exact hr.rg.1, ms hr.rg.2 hv⟩, hr.sl, hr.ct, by show r.pl + 1 ≤ 120; omega, hr.pk, hr.tb, hr.ck, hr.en, hr.wr⟩, fun k S => ?_, fun k S => ?_, Nat.le_refl _⟩
  · exact step_prog (r1 := { r with rg := r.rg.set a v, pl := r.pl + 1 }) h.en (hf k S).1 h.get (by rw [hx]; exact done_word r0 r1 hin hix (hg _ _) (by rw [hr.rg.1]; exact ha) (by rw [hr.rg.1]; decide)) rfl
  · obtain ⟨d, S', e, rfl, rfl⟩ := step_law (L := L) (k := k + 2) (S := S) (r1 := { r with rg := r.rg.set a v }) h.en (hf (k + 2) S).2 (by rw [h.get, hx]) r0 h5 (hd _ _)
    exact ⟨_, _, e, rfl, [], by simp⟩
theorem calm_f {nm : Str} {vs : List D} (h : At rows r x) (hx : x.d = .tup (.str nm :: vs)) (hc : calm nm) : ∀ k S, Tells L (k + 4) "next_fault" [.tup (rows.map Row.d), r.d] S .non ∧ Tells L (k + 5) "_law_fault" [.tup (rows.map Row.d), r.d] S .non := fun k S =>
  ⟨(calm_both (k := k + 2) (by rw [h.get, hx]) hc).1, (calm_both (k := k + 3) (by rw [h.get, hx]) hc).2⟩
theorem gg {l : List Nat} {b i n : Nat} (hl : l.length = n) (h : i < n) (hm : ∀ m ∈ l, m < b) : (l.map dn)[i]? = some (dn (l.getD i 0)) ∧ l.getD i 0 < b := by
  have hi : i < l.length := by omega
  refine ⟨gget hi, ?_⟩
  have : l.getD i 0 = l[i] := by simp [List.getD, hi]
  rw [this]
  exact hm _ (List.getElem_mem _)
theorem s_set {a w : Nat} (h : At rows r (.set a w)) : ∃ r' : Run, r'.Ok ∧ Steps L rows r r' := by
  obtain ⟨ha, hw⟩ := h.row
  refine word_steps (L := L) (g := "set_word") (v := w) h rfl rfl rfl ha hw (by kernel_rfl) (by kernel_rfl) (by decide +kernel) (calm_f h rfl (by unfold calm; decide +kernel)) (fun k S => ?_) (fun k S => .inl ?_)
  · refine (wFnL H.f_set_word rfl ?_)
    show XS _ _ t_set_word [_, _] S _
    repeat eq_refl
    exact ⟨rfl, rfl⟩
  · refine (wFnL H.f__law_plain rfl ?_)
    unfold Run.d
    show XS _ _ t__law_plain [_, _, none, none] S _
    repeat eq_refl
    refine (c_set (r := r) (by rw [h.ok.rg.1]; exact ha) (by rw [h.ok.rg.1]; decide)).go ?_
    repeat eq_refl
    exact ⟨rfl, rfl⟩
theorem s_move {a b : Nat} (h : At rows r (.move a b)) : ∃ r' : Run, r'.Ok ∧ Steps L rows r r' := by
  obtain ⟨ha, hb⟩ := h.row
  obtain ⟨g1, g2⟩ := gg h.ok.rg.1 hb h.ok.rg.2
  refine word_steps (L := L) (g := "moved_word") (v := r.rg.getD b 0) h rfl rfl rfl ha g2 (by kernel_rfl) (by kernel_rfl) (by decide +kernel) (calm_f h rfl (by unfold calm; decide +kernel)) (fun k S => ?_) (fun k S => .inl ?_)
  · refine (wFnL H.f_moved_word rfl ?_)
    unfold Run.d
    show XS _ _ t_moved_word [_, _] S _
    repeat eq_refl
    exact ⟨rfl, rfl⟩
  · refine (wFnL H.f__law_plain rfl ?_)
    unfold Run.d
    show XS _ _ t__law_plain [_, _, none, none] S _
    repeat eq_refl
    refine (c_set (r := r) (by rw [h.ok.rg.1]; exact ha) (by rw [h.ok.rg.1]; decide)).go ?_
    repeat eq_refl
    exact ⟨rfl, rfl⟩
theorem s_length {a : Nat} (h : At rows r (.length a)) : ∃ r' : Run, r'.Ok ∧ Steps L rows r r' := by
  have ha : a < 8 := h.row
  have hk := h.ok.pk.1
  refine word_steps (L := L) (g := "length_word") (v := r.pk.length) h rfl rfl rfl ha (by omega) (by kernel_rfl) (by kernel_rfl) (by decide +kernel) (calm_f h rfl (by unfold calm; decide +kernel)) (fun k S => ?_) (fun k S => .inl ?_)
  · refine (wFnL H.f_length_word rfl ?_)
    unfold Run.d
    show XS _ _ t_length_word [_, _] S _
    repeat eq_refl
    exact ⟨by rw [List.length_map], rfl⟩
  · refine (wFnL H.f__law_plain rfl ?_)
    unfold Run.d
    show XS _ _ t__law_plain [_, _, none, none] S _
    repeat eq_refl
    rw [List.length_map]
    refine (c_set (r := r) (by rw [h.ok.rg.1]; exact ha) (by rw [h.ok.rg.1]; decide)).go ?_
    repeat eq_refl
    exact ⟨rfl, rfl⟩
theorem s_take {a s : Nat} (h : At rows r (.take a s)) : ∃ r' : Run, r'.Ok ∧ Steps L rows r r' := by
  obtain ⟨ha, hb⟩ := h.row
  obtain ⟨g1, g2⟩ := gg h.ok.sl.1 hb h.ok.sl.2
  refine word_steps (L := L) (g := "taken_word") (v := r.sl.getD s 0) h rfl rfl rfl ha g2 (by kernel_rfl) (by kernel_rfl) (by decide +kernel) (calm_f h rfl (by unfold calm; decide +kernel)) (fun k S => ?_) (fun k S => .inl ?_)
  · refine (wFnL H.f_taken_word rfl ?_)
    unfold Run.d
    show XS _ _ t_taken_word [_, _] S _
    repeat eq_refl
    exact ⟨rfl, rfl⟩
  · refine (wFnL H.f__law_plain rfl ?_)
    unfold Run.d
    show XS _ _ t__law_plain [_, _, none, none] S _
    repeat eq_refl
    refine (c_set (r := r) (by rw [h.ok.rg.1]; exact ha) (by rw [h.ok.rg.1]; decide)).go ?_
    repeat eq_refl
    exact ⟨rfl, rfl⟩
end
end S1

set_option maxHeartbeats 4000000
namespace S1
open PySem PySem.Spec PyProof.Rows L2 Ev
local macro_rules
  | `(tactic| fail) => `(tactic| first
    | (refine (?_ : Ev.XE _ _ _ _ _); first | refine wVar rfl ?_ | refine wCst ?_ | refine wCallc rfl ?_ | refine wIdx ?_ | refine wBin ?_ | refine wCmp ?_ | refine wTup ?_ | refine wBlt ?_ | refine wNot ?_ | refine wAndE ?_ | refine wOrE ?_ | refine wIfE ?_ | refine wChain ?_ | refine wLst ?_ | refine wNewl ?_ | refine wNewc ?_ | refine wSlTo ?_ | refine wSlFrom ?_ | refine wSlBoth ?_ | refine wOnes ?_ | refine wCallkc rfl ?_ | refine wCalllc rfl rfl ?_ | refine wComp ?_ | refine wGenL rfl ?_ | refine wNeg ?_ | refine wInv ?_ | refine wBlen ?_)
    | (refine (?_ : Ev.XL _ _ _ _ _); first | refine wCons ?_ | refine wNil ?_)
    | (refine (?_ : Ev.XS _ _ _ _ _ _); first | refine yIf ?_ | refine yRet ?_ | refine yAsg ?_ | refine yNil ?_ | refine yPar ?_ | refine yTup ?_ | refine yExpr ?_ | refine yFor ?_ | refine yRetN ?_ | refine yAug rfl ?_ | refine yPass ?_ | refine yBrk ?_ | refine yCont ?_ | refine yWhile ?_)
    | (refine (?_ : Ev.PT _ _ _); first | refine tBl ?_ | refine tTup ?_ | refine tNon ?_)
    | (refine (?_ : Ev.PC _ _ _ _ _); first | refine pEqS ?_ | refine pEqN ?_ | refine pLt ?_ | refine pLe ?_ | refine pGt ?_ | refine pGe ?_ | refine pNeN ?_ | refine pNeS ?_ | refine pIsN ?_ | refine pIsNotN ?_ | refine zLt ?_ | refine zGt ?_ | refine zLe ?_ | refine zGe ?_ | refine pInT rfl ?_)
    | (refine (?_ : Ev.PI _ _ _ _); first | refine pTupI rfl ?_ | refine pLstI rfl ?_ | refine pRefI (by assumption) rfl ?_ | refine pTupZ rfl ?_)
    | (refine (?_ : Ev.PB _ _ _ _ _); first | refine pAdd ?_ | refine pCatT (Nat.le_of_ble_eq_true rfl) ?_ | refine zAnd32 ?_ | refine zAnd16 ?_ | refine zAnd16i ?_ | refine zAnd8 ?_ | refine zAnd5 ?_ | refine zAnd4 ?_ | refine pAnd ?_ | refine pOr ?_ | refine pXor ?_ | refine pShr ?_ | refine pSub (by omega) ?_ | refine pMod (by omega) ?_ | refine pDiv (by omega) (by omega) ?_ | refine pMul (by omega) ?_ | refine pShl (by omega) (by omega) ?_ | refine pPow (by omega) (by omega) ?_ | refine zAdd ?_ | refine zSub ?_ | refine zMul (by omega) ?_ | refine zMod (by omega) ?_ | refine zDiv (by omega) (by omega) ?_)
    | (refine (?_ : Ev.PF _ _ _ _); first | refine pLenT ?_ | refine pIntN ?_ | refine pIntB ?_ | refine pLenL ?_ | refine pMinN ?_ | refine pMaxN ?_ | refine pIsiNI ?_ | refine pIsiNB ?_ | refine pIsiTT ?_ | refine pIsiSS ?_ | refine pTupL ?_ | refine zInt ?_ | refine zAbs ?_ | refine zDm (by omega) (by omega) ?_ | refine pTupR (by assumption) ?_ | refine pLenR (by assumption) ?_ | refine pLenS ?_ | refine pAllT ?_)
    | (refine (?_ : Ev.RQ _ _ _ _); first | refine rqR ?_ | refine rqN ?_)
    | (refine (?_ : Ev.PL _ _ _ _ _); first | refine sFromT ?_ | refine sToT ?_ | refine sFromL ?_ | refine sToL ?_ | refine sToR ?_ | refine sMidT (by omega) (Nat.le_of_ble_eq_true rfl) ?_)
    | (refine (?_ : Ev.PR _ _ _ _); first | refine rT ?_ | refine rL ?_ | refine rN (by omega) ?_ | refine rN2 (by omega) (by omega) ?_ | refine rEn ?_ | refine rZip ?_)
    | (refine (?_ : Ev.LQ _ _ _ _ _ _ _); first | refine lqN ?_ | refine lqR ?_)
    | (refine (?_ : Ev.TQ _ _ _ _ _ _ _ _ _ _ _); first | refine tqN ?_ | refine tqC ?_ | refine tqB ?_ | refine tqR ?_)
    | (refine (?_ : Ev.WP _ _); refine WP.mk rfl ?_)
    | refine ifT rfl ?_
    | refine ifF rfl ?_
    | refine ifT' rfl ?_
    | refine ifF' rfl ?_
    | refine aLen (Nat.le_of_ble_eq_true rfl) ?_
    | refine Exists.intro _ (And.intro rfl ?_)
    | refine ifT (by decide +kernel) ?_
    | refine ifF (by decide +kernel) ?_
    | refine ifT' (by decide +kernel) ?_
    | refine ifF' (by decide +kernel) ?_)
local macro_rules
  | `(tactic| fail) => `(tactic| first
    | refine wGlobc rfl S1C.g_FIELDS ?_
    | refine wGlobc rfl S1C.g_BOUNDS ?_
    | refine wGlobc rfl S1C.g_WORDS ?_
    | refine wGlobc rfl S1C.g_CHANGES ?_
    | refine wGlobc rfl S1C.g_CONDITIONS ?_
    | refine wGlobc rfl S1C.g_HELPERS ?_
    | refine wGlobc rfl S1C.g_FAULTS ?_)
local macro_rules
  | `(tactic| eq_refl) => `(tactic| first
    | fail
    | refine ifT (by assumption) ?_
    | refine ifF (by assumption) ?_
    | refine ifT' (by assumption) ?_
    | refine ifF' (by assumption) ?_
    | refine pTupI (by assumption) ?_
    | refine pTupZ (by assumption) ?_
    | refine ifT (decide_eq_true (by (try simp only [List.length_map]); omega)) ?_
    | refine ifF (decide_eq_false (by (try simp only [List.length_map]); omega)) ?_
    | refine ifT' (decide_eq_true (by (try simp only [List.length_map]); omega)) ?_
    | refine ifF' (decide_eq_false (by (try simp only [List.length_map]); omega)) ?_
    | refine ifT (by simp only [Bool.not_eq_true', decide_eq_false_iff_not, List.length_map]; omega) ?_
    | refine ifF (by simp only [Bool.not_eq_false', decide_eq_true_eq, List.length_map]; omega) ?_
    | refine ifT' (by simp only [Bool.not_eq_true', decide_eq_false_iff_not, List.length_map]; omega) ?_
    | refine ifF' (by simp only [Bool.not_eq_false', decide_eq_true_eq, List.length_map]; omega) ?_)
variable {L : Lw} [H : S1T L] [C : S1C L] {k : Nat} {S : Sto}
section
variable {rows : List Row} {r : Run} {x : Row}
theorem w_alu : ∀ o ∈ alus, cop [] .In (.str o) cWORDS = some true ∧ (T5.any fun y => flatEq y (.str o)) = false := by decide +kernel
theorem i_alu {o : Str} (ho : o ∈ alus) : ixf [] cWORDS (.str o) = some (.fn "combined_word") := by
  simp only [alus, List.mem_cons, List.not_mem_nil, or_false] at ho
  rcases ho with rfl | rfl | rfl | rfl | rfl | rfl | rfl <;> kernel_rfl
theorem p_alu : ∀ o ∈ alus, (([.str "set", .str "length"] : List D).any fun y => flatEq y (.str o)) = false ∧ (([.str "move", .str "take"] : List D).any fun y => flatEq y (.str o)) = false ∧ decide (o = ("keep" : Str)) = false ∧ decide (o = ("begin" : Str)) = false ∧ decide (o = ("ask" : Str)) = false ∧ (([.str "add", .str "sub", .str "and", .str "or", .str "xor", .str "left", .str "right"] : List D).any fun y => flatEq y (.str o)) = true := by decide +kernel
theorem s_alu {o : Str} {a b : Nat} (h : At rows r (.alu o a b)) : ∃ r' : Run, r'.Ok ∧ Steps L rows r r' := by
  obtain ⟨ho, ha, hb⟩ := h.row
  obtain ⟨g1, g2⟩ := gg h.ok.rg.1 ha h.ok.rg.2
  obtain ⟨g3, g4⟩ := gg h.ok.rg.1 hb h.ok.rg.2
  obtain ⟨q1, q2⟩ := w_alu o ho
  obtain ⟨p1, p2, p3, p4, p5, p6⟩ := p_alu o ho
  refine word_steps (L := L) (g := "combined_word") (v := wop o (r.rg.getD a 0) (r.rg.getD b 0)) h rfl rfl rfl ha (wop_lt ho g2 g4) q1 (i_alu ho) q2 (calm_f h rfl (calm_alu o ho)) (fun k S => ?_) (fun k S => .inl ?_)
  · refine (wFnL H.f_combined_word rfl ?_)
    unfold Run.d
    show XS _ _ t_combined_word [_, _] S _
    repeat eq_refl
    refine (c_combined ho g2 g4).go ?_
    repeat eq_refl
    exact ⟨rfl, rfl⟩
  · refine (wFnL H.f__law_plain rfl ?_)
    unfold Run.d
    show XS _ _ t__law_plain [_, _, none, none] S _
    repeat eq_refl
    refine (c_reckon ho g2 g4).go ?_
    repeat eq_refl
    refine (c_set (r := r) (by rw [h.ok.rg.1]; exact ha) (by rw [h.ok.rg.1]; decide)).go ?_
    repeat eq_refl
    exact ⟨rfl, rfl⟩
/-- the op of a row that reckons with a number -/
def opn : List (Str × Str) := [("addn", "add"), ("andn", "and"), ("orn", "or"), ("xorn", "xor"), ("leftn", "left"), ("rightn", "right")]
theorem s_num {x : Row} {q o : Str} {a w : Nat} (h : At rows r x) (hx : x.d = .tup [.str q, dn a, dn w]) (ho : (q, o) ∈ opn) (ha : a < 8) (hw : w < 65536) : ∃ r' : Run, r'.Ok ∧ Steps L rows r r' := by
  obtain ⟨g1, g2⟩ := gg h.ok.rg.1 ha h.ok.rg.2
  have hal : o ∈ alus := by
    simp only [opn, List.mem_cons, List.not_mem_nil, or_false] at ho
    rcases ho with ho | ho | ho | ho | ho | ho <;> cases ho <;> simp [alus]
  have hw' := wop_lt hal g2 hw
  have cq : cop [] .In (.str q) cWORDS = some true ∧ ixf [] cWORDS (.str q) = some (.fn "combined_number") ∧ (T5.any fun y => flatEq y (.str q)) = false ∧ calm q := by
    unfold calm
    simp only [opn, List.mem_cons, List.not_mem_nil, or_false] at ho
    rcases ho with ho | ho | ho | ho | ho | ho <;> cases ho <;> exact ⟨by kernel_rfl, by kernel_rfl, by decide +kernel, by decide +kernel⟩
  refine word_steps (L := L) (g := "combined_number") (v := wop o (r.rg.getD a 0) w) h hx rfl rfl ha hw' cq.1 cq.2.1 cq.2.2.1 (calm_f h hx cq.2.2.2) (fun k S => ?_) (fun k S => .inl ?_)
  · have sl : slf S (.str q) none (some (-((1 : Nat) : Int))) = some (.str o) := by
      simp only [opn, List.mem_cons, List.not_mem_nil, or_false] at ho
      rcases ho with ho | ho | ho | ho | ho | ho <;> cases ho <;> kernel_rfl
    refine (wFnL H.f_combined_number rfl ?_)
    unfold Run.d
    show XS _ _ t_combined_number [_, _] S _
    repeat eq_refl
    refine ⟨_, sl, ?_⟩
    repeat eq_refl
    refine (c_combined hal g2 hw).go ?_
    repeat eq_refl
    exact ⟨rfl, rfl⟩
  · have sl : ∃ n : Nat, 1 ≤ n ∧ bfun S .len [.str q] = some (dn n) ∧ slf S (.str q) none (some ((n - 1 : Nat) : Int)) = some (.str o) := by
      simp only [opn, List.mem_cons, List.not_mem_nil, or_false] at ho
      rcases ho with ho | ho | ho | ho | ho | ho <;> cases ho
      · exact ⟨4, by decide, by kernel_rfl, by kernel_rfl⟩
      · exact ⟨4, by decide, by kernel_rfl, by kernel_rfl⟩
      · exact ⟨3, by decide, by kernel_rfl, by kernel_rfl⟩
      · exact ⟨4, by decide, by kernel_rfl, by kernel_rfl⟩
      · exact ⟨5, by decide, by kernel_rfl, by kernel_rfl⟩
      · exact ⟨6, by decide, by kernel_rfl, by kernel_rfl⟩
    obtain ⟨n, hn, l1, l2⟩ := sl
    have pp : (([.str "set", .str "length"] : List D).any fun y => flatEq y (.str q)) = false ∧ (([.str "move", .str "take"] : List D).any fun y => flatEq y (.str q)) = false ∧ decide (q = ("keep" : Str)) = false ∧ decide (q = ("begin" : Str)) = false ∧ decide (q = ("ask" : Str)) = false ∧ (([.str "add", .str "sub", .str "and", .str "or", .str "xor", .str "left", .str "right"] : List D).any fun y => flatEq y (.str q)) = false ∧ (([.str "addn", .str "andn", .str "orn", .str "xorn", .str "leftn", .str "rightn"] : List D).any fun y => flatEq y (.str q)) = true := by
      simp only [opn, List.mem_cons, List.not_mem_nil, or_false] at ho
      rcases ho with ho | ho | ho | ho | ho | ho <;> cases ho <;> decide +kernel
    obtain ⟨p1, p2, p3, p4, p5, p6, p7⟩ := pp
    refine (wFnL H.f__law_plain rfl ?_)
    unfold Run.d
    show XS _ _ t__law_plain [_, _, none, none] S _
    repeat eq_refl
    refine ⟨_, l1, ?_⟩
    repeat eq_refl
    refine ⟨_, l2, ?_⟩
    repeat eq_refl
    refine (c_reckon hal g2 hw).go ?_
    repeat eq_refl
    refine (c_set (r := r) (by rw [h.ok.rg.1]; exact ha) (by rw [h.ok.rg.1]; decide)).go ?_
    repeat eq_refl
    exact ⟨rfl, rfl⟩
theorem s_aln {o : Str} {a w : Nat} (h : At rows r (.aln o a w)) : ∃ r' : Run, r'.Ok ∧ Steps L rows r r' := by
  obtain ⟨ho, ha, hw⟩ := h.row
  simp only [alns, List.mem_cons, List.not_mem_nil, or_false] at ho
  rcases ho with rfl | rfl | rfl | rfl
  · exact s_num (o := "add") h rfl (by simp [opn]) ha hw
  · exact s_num (o := "and") h rfl (by simp [opn]) ha hw
  · exact s_num (o := "or") h rfl (by simp [opn]) ha hw
  · exact s_num (o := "xor") h rfl (by simp [opn]) ha hw
theorem s_shn {o : Str} {a w : Nat} (h : At rows r (.shn o a w)) : ∃ r' : Run, r'.Ok ∧ Steps L rows r r' := by
  obtain ⟨ho, ha, hw⟩ := h.row
  simp only [shns, List.mem_cons, List.not_mem_nil, or_false] at ho
  rcases ho with rfl | rfl
  · exact s_num (o := "left") h rfl (by simp [opn]) ha (by omega)
  · exact s_num (o := "right") h rfl (by simp [opn]) ha (by omega)
theorem s_ask {q : Str} {a b : Nat} (h : At rows r (.ask q a b)) : ∃ r' : Run, r'.Ok ∧ Steps L rows r r' := by
  obtain ⟨hq, ha, hb⟩ := h.row
  obtain ⟨g1, g2⟩ := gg h.ok.rg.1 hb h.ok.rg.2
  have hv := askW_lt (h := q) (w := r.rg.getD b 0) h.ok.ck
  refine word_steps (L := L) (g := "asked_word") (v := askW q r.ck (r.rg.getD b 0)) h rfl rfl rfl ha hv (by kernel_rfl) (by kernel_rfl) (by decide +kernel) (calm_f h rfl (by unfold calm; decide +kernel)) (fun k S => ?_) (fun k S => .inl ?_)
  · simp only [helps, List.mem_cons, List.not_mem_nil, or_false] at hq
    refine (wFnL H.f_asked_word rfl ?_)
    unfold Run.d
    rcases hq with rfl | rfl | rfl
    · show XS _ _ t_asked_word [_, _, none] S _
      repeat eq_refl
      exact ⟨rfl, rfl⟩
    · show XS _ _ t_asked_word [_, _, none] S _
      repeat eq_refl
      refine (wFnL H.f_ones_in rfl ?_)
      show XS _ _ t_ones_in [_] S _
      repeat eq_refl
      refine ⟨by omega, ?_⟩
      repeat eq_refl
      exact ⟨rfl, rfl⟩
    · show XS _ _ t_asked_word [_, _, none] S _
      repeat eq_refl
      refine (wFnL H.f_mixed rfl ?_)
      show XS _ _ t_mixed [_] S _
      repeat eq_refl
      exact ⟨rfl, rfl⟩
  · have own : ∀ k, Tells L (k + 2) "_law_asked" [r.d, .str q, dn (r.rg.getD b 0)] S (dn (askW q r.ck (r.rg.getD b 0))) := fun k => by
      simp only [helps, List.mem_cons, List.not_mem_nil, or_false] at hq
      refine (wFnL H.f__law_asked rfl ?_)
      unfold Run.d
      rcases hq with rfl | rfl | rfl
      · show XS _ _ t__law_asked [_, _, _, none] S _
        repeat eq_refl
        exact ⟨rfl, rfl⟩
      · show XS _ _ t__law_asked [_, _, _, none] S _
        repeat eq_refl
        refine ones_comp 16 0 [] _ (by simp) fun l hl => ?_
        rw [List.length_nil, Nat.zero_add, ones16 g2] at hl
        repeat eq_refl
        rw [hl]
        exact ⟨rfl, rfl⟩
      · show XS _ _ t__law_asked [_, _, _, none] S _
        repeat eq_refl
        exact ⟨rfl, rfl⟩
    refine (wFnL H.f__law_plain rfl ?_)
    unfold Run.d at own ⊢
    show XS _ _ t__law_plain [_, _, none, none] S _
    repeat eq_refl
    refine (own _).go ?_
    repeat eq_refl
    refine (c_set (r := r) (by rw [h.ok.rg.1]; exact ha) (by rw [h.ok.rg.1]; decide)).go ?_
    repeat eq_refl
    exact ⟨rfl, rfl⟩
end
end S1

set_option maxHeartbeats 4000000
namespace S1
open PySem PySem.Spec PyProof.Rows L2 Ev
local macro_rules
  | `(tactic| fail) => `(tactic| first
    | (refine (?_ : Ev.XE _ _ _ _ _); first | refine wVar rfl ?_ | refine wCst ?_ | refine wCallc rfl ?_ | refine wIdx ?_ | refine wBin ?_ | refine wCmp ?_ | refine wTup ?_ | refine wBlt ?_ | refine wNot ?_ | refine wAndE ?_ | refine wOrE ?_ | refine wIfE ?_ | refine wChain ?_ | refine wLst ?_ | refine wNewl ?_ | refine wNewc ?_ | refine wSlTo ?_ | refine wSlFrom ?_ | refine wSlBoth ?_ | refine wOnes ?_ | refine wCallkc rfl ?_ | refine wCalllc rfl rfl ?_ | refine wComp ?_ | refine wGenL rfl ?_ | refine wNeg ?_ | refine wInv ?_ | refine wBlen ?_)
    | (refine (?_ : Ev.XL _ _ _ _ _); first | refine wCons ?_ | refine wNil ?_)
    | (refine (?_ : Ev.XS _ _ _ _ _ _); first | refine yIf ?_ | refine yRet ?_ | refine yAsg ?_ | refine yNil ?_ | refine yPar ?_ | refine yTup ?_ | refine yExpr ?_ | refine yFor ?_ | refine yRetN ?_ | refine yAug rfl ?_ | refine yPass ?_ | refine yBrk ?_ | refine yCont ?_ | refine yWhile ?_)
    | (refine (?_ : Ev.PT _ _ _); first | refine tBl ?_ | refine tTup ?_ | refine tNon ?_)
    | (refine (?_ : Ev.PC _ _ _ _ _); first | refine pEqS ?_ | refine pEqN ?_ | refine pLt ?_ | refine pLe ?_ | refine pGt ?_ | refine pGe ?_ | refine pNeN ?_ | refine pNeS ?_ | refine pIsN ?_ | refine pIsNotN ?_ | refine zLt ?_ | refine zGt ?_ | refine zLe ?_ | refine zGe ?_ | refine pInT rfl ?_)
    | (refine (?_ : Ev.PI _ _ _ _); first | refine pTupI rfl ?_ | refine pLstI rfl ?_ | refine pRefI (by assumption) rfl ?_ | refine pTupZ rfl ?_)
    | (refine (?_ : Ev.PB _ _ _ _ _); first | refine pAdd ?_ | refine pCatT (Nat.le_of_ble_eq_true rfl) ?_ | refine zAnd32 ?_ | refine zAnd16 ?_ | refine zAnd16i ?_ | refine zAnd8 ?_ | refine zAnd5 ?_ | refine zAnd4 ?_ | refine pAnd ?_ | refine pOr ?_ | refine pXor ?_ | refine pShr ?_ | refine pSub (by omega) ?_ | refine pMod (by omega) ?_ | refine pDiv (by omega) (by omega) ?_ | refine pMul (by omega) ?_ | refine pShl (by omega) (by omega) ?_ | refine pPow (by omega) (by omega) ?_ | refine zAdd ?_ | refine zSub ?_ | refine zMul (by omega) ?_ | refine zMod (by omega) ?_ | refine zDiv (by omega) (by omega) ?_)
    | (refine (?_ : Ev.PF _ _ _ _); first | refine pLenT ?_ | refine pIntN ?_ | refine pIntB ?_ | refine pLenL ?_ | refine pMinN ?_ | refine pMaxN ?_ | refine pIsiNI ?_ | refine pIsiNB ?_ | refine pIsiTT ?_ | refine pIsiSS ?_ | refine pTupL ?_ | refine zInt ?_ | refine zAbs ?_ | refine zDm (by omega) (by omega) ?_ | refine pTupR (by assumption) ?_ | refine pLenR (by assumption) ?_ | refine pLenS ?_ | refine pAllT ?_)
    | (refine (?_ : Ev.RQ _ _ _ _); first | refine rqR ?_ | refine rqN ?_)
    | (refine (?_ : Ev.PL _ _ _ _ _); first | refine sFromT ?_ | refine sToT ?_ | refine sFromL ?_ | refine sToL ?_ | refine sToR ?_ | refine sMidT (by omega) (Nat.le_of_ble_eq_true rfl) ?_)
    | (refine (?_ : Ev.PR _ _ _ _); first | refine rT ?_ | refine rL ?_ | refine rN (by omega) ?_ | refine rN2 (by omega) (by omega) ?_ | refine rEn ?_ | refine rZip ?_)
    | (refine (?_ : Ev.LQ _ _ _ _ _ _ _); first | refine lqN ?_ | refine lqR ?_)
    | (refine (?_ : Ev.TQ _ _ _ _ _ _ _ _ _ _ _); first | refine tqN ?_ | refine tqC ?_ | refine tqB ?_ | refine tqR ?_)
    | (refine (?_ : Ev.WP _ _); refine WP.mk rfl ?_)
    | refine ifT rfl ?_
    | refine ifF rfl ?_
    | refine ifT' rfl ?_
    | refine ifF' rfl ?_
    | refine aLen (Nat.le_of_ble_eq_true rfl) ?_
    | refine Exists.intro _ (And.intro rfl ?_)
    | refine ifT (by decide +kernel) ?_
    | refine ifF (by decide +kernel) ?_
    | refine ifT' (by decide +kernel) ?_
    | refine ifF' (by decide +kernel) ?_)
local macro_rules
  | `(tactic| fail) => `(tactic| first
    | refine wGlobc rfl S1C.g_FIELDS ?_
    | refine wGlobc rfl S1C.g_BOUNDS ?_
    | refine wGlobc rfl S1C.g_WORDS ?_
    | refine wGlobc rfl S1C.g_CHANGES ?_
    | refine wGlobc rfl S1C.g_CONDITIONS ?_
    | refine wGlobc rfl S1C.g_HELPERS ?_
    | refine wGlobc rfl S1C.g_FAULTS ?_)
local macro_rules
  | `(tactic| eq_refl) => `(tactic| first
    | fail
    | refine ifT (by assumption) ?_
    | refine ifF (by assumption) ?_
    | refine ifT' (by assumption) ?_
    | refine ifF' (by assumption) ?_
    | refine pTupI (by assumption) ?_
    | refine pTupZ (by assumption) ?_
    | refine ifT (decide_eq_true (by (try simp only [List.length_map]); omega)) ?_
    | refine ifF (decide_eq_false (by (try simp only [List.length_map]); omega)) ?_
    | refine ifT' (decide_eq_true (by (try simp only [List.length_map]); omega)) ?_
    | refine ifF' (decide_eq_false (by (try simp only [List.length_map]); omega)) ?_
    | refine ifT (by simp only [Bool.not_eq_true', decide_eq_false_iff_not, List.length_map]; omega) ?_
    | refine ifF (by simp only [Bool.not_eq_false', decide_eq_true_eq, List.length_map]; omega) ?_
    | refine ifT' (by simp only [Bool.not_eq_true', decide_eq_false_iff_not, List.length_map]; omega) ?_
    | refine ifF' (by simp only [Bool.not_eq_false', decide_eq_true_eq, List.length_map]; omega) ?_)
variable {L : Lw} [H : S1T L] [C : S1C L] {k : Nat} {S : Sto}
section
variable {rows : List Row} {r : Run} {x : Row}
/-- a row that changes something else -/
theorem change_steps {x : Row} {row : List D} {nm g : Str} {r1 : Run} (h : At rows r x) (hx : x.d = .tup row) (r0 : row[0]? = some (.str nm)) (ok1 : r1.Ok) (hp1 : r1.pl = r.pl) (hs1 : r1.st = r.st)
    (hin : cop [] .In (.str nm) cWORDS = some false) (hin2 : cop [] .In (.str nm) cCHANGES = some true) (hix : ixf [] cCHANGES (.str nm) = some (.fn g)) (h5 : (T5.any fun y => flatEq y (.str nm)) = false)
    (hf : ∀ k S, Tells L (k + 4) "next_fault" [.tup (rows.map Row.d), r.d] S .non ∧ Tells L (k + 5) "_law_fault" [.tup (rows.map Row.d), r.d] S .non)
    (hg : ∀ k S, Tells L (k + 3) g [.tup row, r.d] S r1.d)
    (hd : ∀ k S, Tells L (k + 5) "_law_plain" [r.d, .tup row] S r1.d ∨ (Tells L (k + 5) "_law_plain" [r.d, .tup row] S .non ∧ Tells L (k + 5) "_law_reach" [r.d, .tup row] S r1.d)) :
    ∃ r' : Run, r'.Ok ∧ Steps L rows r r' := by
  have hp := h.pl
  have hl := h.ln
  refine ⟨{ r1 with pl := r.pl + 1, st := r.st + 1 }, ⟨ok1.rg, ok1.sl, ok1.ct, by show r.pl + 1 ≤ 120; omega, ok1.pk, ok1.tb, ok1.ck, ok1.en, ok1.wr⟩, fun k S => ?_, fun k S => ?_, Nat.le_refl _⟩
  · exact step_prog (r1 := { r1 with pl := r.pl + 1 }) h.en (hf k S).1 h.get (by rw [hx]; exact done_change r0 hin hin2 hix (hg _ _)) hs1
  · obtain ⟨d, S', e, rfl, rfl⟩ := step_law (L := L) (k := k + 2) (S := S) (r1 := r1) h.en (hf (k + 2) S).2 (by rw [h.get, hx]) r0 h5 (hd _ _)
    exact ⟨_, _, e, rfl, [], by simp⟩
theorem s_keep {a s : Nat} (h : At rows r (.keep a s)) : ∃ r' : Run, r'.Ok ∧ Steps L rows r r' := by
  obtain ⟨ha, hb⟩ := h.row
  obtain ⟨g1, g2⟩ := gg h.ok.rg.1 ha h.ok.rg.2
  have hr := h.ok
  refine change_steps (L := L) (g := "kept") (r1 := { r with sl := r.sl.set s (r.rg.getD a 0) }) h rfl rfl ⟨hr.rg, ⟨by rw [List.length_set]; exact hr.sl.1, ms hr.sl.2 g2⟩, hr.ct, hr.pl, hr.pk, hr.tb, hr.ck, hr.en, hr.wr⟩ rfl rfl (by kernel_rfl) (by kernel_rfl) (by kernel_rfl) (by decide +kernel) (calm_f h rfl (by unfold calm; decide +kernel)) (fun k S => ?_) (fun k S => .inl ?_)
  · refine (wFnL H.f_kept rfl ?_)
    unfold Run.d
    show XS _ _ t_kept [_, _] S _
    repeat eq_refl
    refine (c_exch (by rw [List.length_map, h.ok.sl.1]; exact hb) (by rw [List.length_map, h.ok.sl.1]; decide)).go ?_
    rw [mapSet]
    repeat eq_refl
    refine (c_exch (l := [_, _, _, _, _, _, _, _, _, _]) (by simp) (by simp)).go ?_
    repeat eq_refl
    exact ⟨rfl, rfl⟩
  · refine (wFnL H.f__law_plain rfl ?_)
    unfold Run.d
    show XS _ _ t__law_plain [_, _, none, none] S _
    repeat eq_refl
    refine (c_put (by rw [List.length_map, h.ok.sl.1]; exact hb) (by rw [List.length_map, h.ok.sl.1]; decide)).go ?_
    rw [mapSet]
    repeat eq_refl
    exact ⟨rfl, rfl⟩
theorem s_begin {c : Nat} (h : At rows r (.begin c)) : ∃ r' : Run, r'.Ok ∧ Steps L rows r r' := by
  have hc : c < 4 := h.row
  have hr := h.ok
  have m2 : ∀ n ∈ r.ct.set c 0, n ≤ 100 := fun n hn => by
    rcases List.mem_or_eq_of_mem_set hn with h2 | h2
    · exact hr.ct.2 n h2
    · omega
  refine change_steps (L := L) (g := "begun_again") (r1 := { r with ct := r.ct.set c 0 }) h rfl rfl ⟨hr.rg, hr.sl, ⟨by rw [List.length_set]; exact hr.ct.1, m2⟩, hr.pl, hr.pk, hr.tb, hr.ck, hr.en, hr.wr⟩ rfl rfl (by kernel_rfl) (by kernel_rfl) (by kernel_rfl) (by decide +kernel) (calm_f h rfl (by unfold calm; decide +kernel)) (fun k S => ?_) (fun k S => .inl ?_)
  · refine (wFnL H.f_begun_again rfl ?_)
    unfold Run.d
    show XS _ _ t_begun_again [_, _] S _
    repeat eq_refl
    refine (c_exch (by rw [List.length_map, h.ok.ct.1]; exact hc) (by rw [List.length_map, h.ok.ct.1]; decide)).go ?_
    rw [mapSet]
    repeat eq_refl
    refine (c_exch (l := [_, _, _, _, _, _, _, _, _, _]) (by simp) (by simp)).go ?_
    repeat eq_refl
    exact ⟨rfl, rfl⟩
  · refine (wFnL H.f__law_plain rfl ?_)
    unfold Run.d
    show XS _ _ t__law_plain [_, _, none, none] S _
    repeat eq_refl
    refine (c_put (by rw [List.length_map, h.ok.ct.1]; exact hc) (by rw [List.length_map, h.ok.ct.1]; decide)).go ?_
    rw [mapSet]
    repeat eq_refl
    exact ⟨rfl, rfl⟩
end
end S1

set_option maxHeartbeats 4000000
namespace S1
open PySem PySem.Spec PyProof.Rows L2 Ev
local macro_rules
  | `(tactic| fail) => `(tactic| first
    | (refine (?_ : Ev.XE _ _ _ _ _); first | refine wVar rfl ?_ | refine wCst ?_ | refine wCallc rfl ?_ | refine wIdx ?_ | refine wBin ?_ | refine wCmp ?_ | refine wTup ?_ | refine wBlt ?_ | refine wNot ?_ | refine wAndE ?_ | refine wOrE ?_ | refine wIfE ?_ | refine wChain ?_ | refine wLst ?_ | refine wNewl ?_ | refine wNewc ?_ | refine wSlTo ?_ | refine wSlFrom ?_ | refine wSlBoth ?_ | refine wOnes ?_ | refine wCallkc rfl ?_ | refine wCalllc rfl rfl ?_ | refine wComp ?_ | refine wGenL rfl ?_ | refine wNeg ?_ | refine wInv ?_ | refine wBlen ?_)
    | (refine (?_ : Ev.XL _ _ _ _ _); first | refine wCons ?_ | refine wNil ?_)
    | (refine (?_ : Ev.XS _ _ _ _ _ _); first | refine yIf ?_ | refine yRet ?_ | refine yAsg ?_ | refine yNil ?_ | refine yPar ?_ | refine yTup ?_ | refine yExpr ?_ | refine yFor ?_ | refine yRetN ?_ | refine yAug rfl ?_ | refine yPass ?_ | refine yBrk ?_ | refine yCont ?_ | refine yWhile ?_)
    | (refine (?_ : Ev.PT _ _ _); first | refine tBl ?_ | refine tTup ?_ | refine tNon ?_)
    | (refine (?_ : Ev.PC _ _ _ _ _); first | refine pEqS ?_ | refine pEqN ?_ | refine pLt ?_ | refine pLe ?_ | refine pGt ?_ | refine pGe ?_ | refine pNeN ?_ | refine pNeS ?_ | refine pIsN ?_ | refine pIsNotN ?_ | refine zLt ?_ | refine zGt ?_ | refine zLe ?_ | refine zGe ?_ | refine pInT rfl ?_)
    | (refine (?_ : Ev.PI _ _ _ _); first | refine pTupI rfl ?_ | refine pLstI rfl ?_ | refine pRefI (by assumption) rfl ?_ | refine pTupZ rfl ?_)
    | (refine (?_ : Ev.PB _ _ _ _ _); first | refine pAdd ?_ | refine pCatT (Nat.le_of_ble_eq_true rfl) ?_ | refine zAnd32 ?_ | refine zAnd16 ?_ | refine zAnd16i ?_ | refine zAnd8 ?_ | refine zAnd5 ?_ | refine zAnd4 ?_ | refine pAnd ?_ | refine pOr ?_ | refine pXor ?_ | refine pShr ?_ | refine pSub (by omega) ?_ | refine pMod (by omega) ?_ | refine pDiv (by omega) (by omega) ?_ | refine pMul (by omega) ?_ | refine pShl (by omega) (by omega) ?_ | refine pPow (by omega) (by omega) ?_ | refine zAdd ?_ | refine zSub ?_ | refine zMul (by omega) ?_ | refine zMod (by omega) ?_ | refine zDiv (by omega) (by omega) ?_)
    | (refine (?_ : Ev.PF _ _ _ _); first | refine pLenT ?_ | refine pIntN ?_ | refine pIntB ?_ | refine pLenL ?_ | refine pMinN ?_ | refine pMaxN ?_ | refine pIsiNI ?_ | refine pIsiNB ?_ | refine pIsiTT ?_ | refine pIsiSS ?_ | refine pTupL ?_ | refine zInt ?_ | refine zAbs ?_ | refine zDm (by omega) (by omega) ?_ | refine pTupR (by assumption) ?_ | refine pLenR (by assumption) ?_ | refine pLenS ?_ | refine pAllT ?_)
    | (refine (?_ : Ev.RQ _ _ _ _); first | refine rqR ?_ | refine rqN ?_)
    | (refine (?_ : Ev.PL _ _ _ _ _); first | refine sFromT ?_ | refine sToT ?_ | refine sFromL ?_ | refine sToL ?_ | refine sToR ?_ | refine sMidT (by omega) (Nat.le_of_ble_eq_true rfl) ?_)
    | (refine (?_ : Ev.PR _ _ _ _); first | refine rT ?_ | refine rL ?_ | refine rN (by omega) ?_ | refine rN2 (by omega) (by omega) ?_ | refine rEn ?_ | refine rZip ?_)
    | (refine (?_ : Ev.LQ _ _ _ _ _ _ _); first | refine lqN ?_ | refine lqR ?_)
    | (refine (?_ : Ev.TQ _ _ _ _ _ _ _ _ _ _ _); first | refine tqN ?_ | refine tqC ?_ | refine tqB ?_ | refine tqR ?_)
    | (refine (?_ : Ev.WP _ _); refine WP.mk rfl ?_)
    | refine ifT rfl ?_
    | refine ifF rfl ?_
    | refine ifT' rfl ?_
    | refine ifF' rfl ?_
    | refine aLen (Nat.le_of_ble_eq_true rfl) ?_
    | refine Exists.intro _ (And.intro rfl ?_)
    | refine ifT (by decide +kernel) ?_
    | refine ifF (by decide +kernel) ?_
    | refine ifT' (by decide +kernel) ?_
    | refine ifF' (by decide +kernel) ?_)
local macro_rules
  | `(tactic| fail) => `(tactic| first
    | refine wGlobc rfl S1C.g_FIELDS ?_
    | refine wGlobc rfl S1C.g_BOUNDS ?_
    | refine wGlobc rfl S1C.g_WORDS ?_
    | refine wGlobc rfl S1C.g_CHANGES ?_
    | refine wGlobc rfl S1C.g_CONDITIONS ?_
    | refine wGlobc rfl S1C.g_HELPERS ?_
    | refine wGlobc rfl S1C.g_FAULTS ?_)
local macro_rules
  | `(tactic| eq_refl) => `(tactic| first
    | fail
    | refine ifT (by assumption) ?_
    | refine ifF (by assumption) ?_
    | refine ifT' (by assumption) ?_
    | refine ifF' (by assumption) ?_
    | refine pTupI (by assumption) ?_
    | refine pTupZ (by assumption) ?_
    | refine ifT (decide_eq_true (by (try simp only [List.length_map]); omega)) ?_
    | refine ifF (decide_eq_false (by (try simp only [List.length_map]); omega)) ?_
    | refine ifT' (decide_eq_true (by (try simp only [List.length_map]); omega)) ?_
    | refine ifF' (decide_eq_false (by (try simp only [List.length_map]); omega)) ?_
    | refine ifT (by simp only [Bool.not_eq_true', decide_eq_false_iff_not, List.length_map]; omega) ?_
    | refine ifF (by simp only [Bool.not_eq_false', decide_eq_true_eq, List.length_map]; omega) ?_
    | refine ifT' (by simp only [Bool.not_eq_true', decide_eq_false_iff_not, List.length_map]; omega) ?_
    | refine ifF' (by simp only [Bool.not_eq_false', decide_eq_true_eq, List.length_map]; omega) ?_)
variable {L : Lw} [H : S1T L] [C : S1C L] {k : Nat} {S : Sto}
section
variable {rows : List Row} {r : Run} {x : Row}
theorem memNo {o : Str} {a b s : Nat} (h : At rows r (.mem o a b s)) : r.rg.getD b 0 + s + (if o = "pair" then 1 else 0) < r.pk.length ∧ ∀ k S, Tells L (k + 4) "next_fault" [.tup (rows.map Row.d), r.d] S .non ∧ Tells L (k + 5) "_law_fault" [.tup (rows.map Row.d), r.d] S .non := by
  have hn := h.no
  have hb : b < r.rg.length := by rw [h.ok.rg.1]; exact h.row.2.2.1
  have key : ∀ k S, Tells L (k + 2) "next_fault" [.tup (rows.map Row.d), r.d] S .non ∧ Tells L (k + 2) "_law_fault" [.tup (rows.map Row.d), r.d] S .non := fun k S => by
    have := mem_both (L := L) (k := k) (S := S) h.get h.row.1 hb
    rw [hn] at this
    exact this
  refine ⟨?_, fun k S => ⟨(key (k + 2) S).1, (key (k + 3) S).2⟩⟩
  simp only [Row.fault] at hn
  by_cases hc : r.pk.length ≤ r.rg.getD b 0 + s + (if o = "pair" then 1 else 0)
  · rw [if_pos hc] at hn
    cases hn
  · omega
theorem s_byte {a b s : Nat} (h : At rows r (.mem "byte" a b s)) : ∃ r' : Run, r'.Ok ∧ Steps L rows r r' := by
  obtain ⟨hx, hf⟩ := memNo (L := L) h
  simp only [nbp, if_false, Nat.add_zero] at hx
  obtain ⟨ho, ha, hb, hs⟩ := h.row
  obtain ⟨g1, g2⟩ := gg h.ok.rg.1 hb h.ok.rg.2
  generalize hw : r.rg.getD b 0 = w at *
  obtain ⟨g3, g4⟩ := gg rfl hx h.ok.pk.2
  refine word_steps (L := L) (g := "byte_word") (v := r.pk.getD (w + s) 0) h rfl rfl rfl ha (by omega) (by kernel_rfl) (by kernel_rfl) (by decide +kernel) hf (fun k S => ?_) (fun k S => .inr ⟨?_, ?_⟩)
  · refine (wFnL H.f_byte_word rfl ?_)
    unfold Run.d
    show XS _ _ t_byte_word [_, _] S _
    repeat eq_refl
    exact ⟨rfl, rfl⟩
  · refine (wFnL H.f__law_plain rfl ?_)
    unfold Run.d
    show XS _ _ t__law_plain [_, _, none, none] S _
    repeat eq_refl
    exact ⟨rfl, rfl⟩
  · refine (wFnL H.f__law_reach rfl ?_)
    unfold Run.d
    show XS _ _ t__law_reach [_, _, none, none, none, none, none, none, none, none, none, none] S _
    repeat eq_refl
    refine (c_set (r := r) (by rw [h.ok.rg.1]; exact ha) (by rw [h.ok.rg.1]; decide)).go ?_
    repeat eq_refl
    exact ⟨rfl, rfl⟩
theorem s_pair {a b s : Nat} (h : At rows r (.mem "pair" a b s)) : ∃ r' : Run, r'.Ok ∧ Steps L rows r r' := by
  obtain ⟨hx, hf⟩ := memNo (L := L) h
  simp only [if_true] at hx
  obtain ⟨ho, ha, hb, hs⟩ := h.row
  obtain ⟨g1, g2⟩ := gg h.ok.rg.1 hb h.ok.rg.2
  generalize hw : r.rg.getD b 0 = w at *
  obtain ⟨g3, g4⟩ := gg rfl (show w + s < r.pk.length by omega) h.ok.pk.2
  obtain ⟨g5, g6⟩ := gg rfl hx h.ok.pk.2
  refine word_steps (L := L) (g := "pair_word") (v := 256 * r.pk.getD (w + s) 0 + r.pk.getD (w + s + 1) 0) h rfl rfl rfl ha (by omega) (by kernel_rfl) (by kernel_rfl) (by decide +kernel) hf (fun k S => ?_) (fun k S => .inr ⟨?_, ?_⟩)
  · refine (wFnL H.f_pair_word rfl ?_)
    unfold Run.d
    show XS _ _ t_pair_word [_, _, none] S _
    repeat eq_refl
    exact ⟨rfl, rfl⟩
  · refine (wFnL H.f__law_plain rfl ?_)
    unfold Run.d
    show XS _ _ t__law_plain [_, _, none, none] S _
    repeat eq_refl
    exact ⟨rfl, rfl⟩
  · refine (wFnL H.f__law_reach rfl ?_)
    unfold Run.d
    show XS _ _ t__law_reach [_, _, none, none, none, none, none, none, none, none, none, none] S _
    repeat eq_refl
    rw [Nat.mul_comm]
    refine (c_set (r := r) (by rw [h.ok.rg.1]; exact ha) (by rw [h.ok.rg.1]; decide)).go ?_
    repeat eq_refl
    exact ⟨rfl, rfl⟩
theorem s_write {a b s : Nat} (h : At rows r (.mem "write" a b s)) : ∃ r' : Run, r'.Ok ∧ Steps L rows r r' := by
  obtain ⟨hx, hf⟩ := memNo (L := L) h
  simp only [nwp, if_false, Nat.add_zero] at hx
  obtain ⟨ho, ha, hb, hs⟩ := h.row
  obtain ⟨g1, g2⟩ := gg h.ok.rg.1 hb h.ok.rg.2
  obtain ⟨g3, g4⟩ := gg h.ok.rg.1 ha h.ok.rg.2
  generalize hw : r.rg.getD b 0 = w at *
  have hr := h.ok
  refine change_steps (L := L) (g := "written") (r1 := { r with pk := r.pk.set (w + s) (r.rg.getD a 0 % 256) }) h rfl rfl ⟨hr.rg, hr.sl, hr.ct, hr.pl, ⟨by rw [List.length_set]; exact hr.pk.1, ms hr.pk.2 (Nat.mod_lt _ (by decide))⟩, hr.tb, hr.ck, hr.en, hr.wr⟩ rfl rfl (by kernel_rfl) (by kernel_rfl) (by kernel_rfl) (by decide +kernel) hf (fun k S => ?_) (fun k S => .inr ⟨?_, ?_⟩)
  · refine (wFnL H.f_written rfl ?_)
    unfold Run.d
    show XS _ _ t_written [_, _, none] S _
    repeat eq_refl
    refine (c_exch (by rw [List.length_map]; exact hx) (by rw [List.length_map]; have := hr.pk.1; omega)).go ?_
    rw [mapSet]
    repeat eq_refl
    refine (c_exch (l := [_, _, _, _, _, _, _, _, _, _]) (by simp) (by simp)).go ?_
    repeat eq_refl
    exact ⟨rfl, rfl⟩
  · refine (wFnL H.f__law_plain rfl ?_)
    unfold Run.d
    show XS _ _ t__law_plain [_, _, none, none] S _
    repeat eq_refl
    exact ⟨rfl, rfl⟩
  · refine (wFnL H.f__law_reach rfl ?_)
    unfold Run.d
    show XS _ _ t__law_reach [_, _, none, none, none, none, none, none, none, none, none, none] S _
    repeat eq_refl
    refine (c_put (by rw [List.length_map]; exact hx) (by rw [List.length_map]; have := hr.pk.1; omega)).go ?_
    rw [mapSet]
    repeat eq_refl
    exact ⟨rfl, rfl⟩
theorem s_mem {o : Str} {a b s : Nat} (h : At rows r (.mem o a b s)) : ∃ r' : Run, r'.Ok ∧ Steps L rows r r' := by
  have ho := h.row.1
  simp only [mems, List.mem_cons, List.not_mem_nil, or_false] at ho
  rcases ho with rfl | rfl | rfl
  · exact s_byte h
  · exact s_pair h
  · exact s_write h
end
end S1

set_option maxHeartbeats 4000000
namespace S1
open PySem PySem.Spec PyProof.Rows L2 Ev
local macro_rules
  | `(tactic| fail) => `(tactic| first
    | (refine (?_ : Ev.XE _ _ _ _ _); first | refine wVar rfl ?_ | refine wCst ?_ | refine wCallc rfl ?_ | refine wIdx ?_ | refine wBin ?_ | refine wCmp ?_ | refine wTup ?_ | refine wBlt ?_ | refine wNot ?_ | refine wAndE ?_ | refine wOrE ?_ | refine wIfE ?_ | refine wChain ?_ | refine wLst ?_ | refine wNewl ?_ | refine wNewc ?_ | refine wSlTo ?_ | refine wSlFrom ?_ | refine wSlBoth ?_ | refine wOnes ?_ | refine wCallkc rfl ?_ | refine wCalllc rfl rfl ?_ | refine wComp ?_ | refine wGenL rfl ?_ | refine wNeg ?_ | refine wInv ?_ | refine wBlen ?_)
    | (refine (?_ : Ev.XL _ _ _ _ _); first | refine wCons ?_ | refine wNil ?_)
    | (refine (?_ : Ev.XS _ _ _ _ _ _); first | refine yIf ?_ | refine yRet ?_ | refine yAsg ?_ | refine yNil ?_ | refine yPar ?_ | refine yTup ?_ | refine yExpr ?_ | refine yFor ?_ | refine yRetN ?_ | refine yAug rfl ?_ | refine yPass ?_ | refine yBrk ?_ | refine yCont ?_ | refine yWhile ?_)
    | (refine (?_ : Ev.PT _ _ _); first | refine tBl ?_ | refine tTup ?_ | refine tNon ?_)
    | (refine (?_ : Ev.PC _ _ _ _ _); first | refine pEqS ?_ | refine pEqN ?_ | refine pLt ?_ | refine pLe ?_ | refine pGt ?_ | refine pGe ?_ | refine pNeN ?_ | refine pNeS ?_ | refine pIsN ?_ | refine pIsNotN ?_ | refine zLt ?_ | refine zGt ?_ | refine zLe ?_ | refine zGe ?_ | refine pInT rfl ?_)
    | (refine (?_ : Ev.PI _ _ _ _); first | refine pTupI rfl ?_ | refine pLstI rfl ?_ | refine pRefI (by assumption) rfl ?_ | refine pTupZ rfl ?_)
    | (refine (?_ : Ev.PB _ _ _ _ _); first | refine pAdd ?_ | refine pCatT (Nat.le_of_ble_eq_true rfl) ?_ | refine zAnd32 ?_ | refine zAnd16 ?_ | refine zAnd16i ?_ | refine zAnd8 ?_ | refine zAnd5 ?_ | refine zAnd4 ?_ | refine pAnd ?_ | refine pOr ?_ | refine pXor ?_ | refine pShr ?_ | refine pSub (by omega) ?_ | refine pMod (by omega) ?_ | refine pDiv (by omega) (by omega) ?_ | refine pMul (by omega) ?_ | refine pShl (by omega) (by omega) ?_ | refine pPow (by omega) (by omega) ?_ | refine zAdd ?_ | refine zSub ?_ | refine zMul (by omega) ?_ | refine zMod (by omega) ?_ | refine zDiv (by omega) (by omega) ?_)
    | (refine (?_ : Ev.PF _ _ _ _); first | refine pLenT ?_ | refine pIntN ?_ | refine pIntB ?_ | refine pLenL ?_ | refine pMinN ?_ | refine pMaxN ?_ | refine pIsiNI ?_ | refine pIsiNB ?_ | refine pIsiTT ?_ | refine pIsiSS ?_ | refine pTupL ?_ | refine zInt ?_ | refine zAbs ?_ | refine zDm (by omega) (by omega) ?_ | refine pTupR (by assumption) ?_ | refine pLenR (by assumption) ?_ | refine pLenS ?_ | refine pAllT ?_)
    | (refine (?_ : Ev.RQ _ _ _ _); first | refine rqR ?_ | refine rqN ?_)
    | (refine (?_ : Ev.PL _ _ _ _ _); first | refine sFromT ?_ | refine sToT ?_ | refine sFromL ?_ | refine sToL ?_ | refine sToR ?_ | refine sMidT (by omega) (Nat.le_of_ble_eq_true rfl) ?_)
    | (refine (?_ : Ev.PR _ _ _ _); first | refine rT ?_ | refine rL ?_ | refine rN (by omega) ?_ | refine rN2 (by omega) (by omega) ?_ | refine rEn ?_ | refine rZip ?_)
    | (refine (?_ : Ev.LQ _ _ _ _ _ _ _); first | refine lqN ?_ | refine lqR ?_)
    | (refine (?_ : Ev.TQ _ _ _ _ _ _ _ _ _ _ _); first | refine tqN ?_ | refine tqC ?_ | refine tqB ?_ | refine tqR ?_)
    | (refine (?_ : Ev.WP _ _); refine WP.mk rfl ?_)
    | refine ifT rfl ?_
    | refine ifF rfl ?_
    | refine ifT' rfl ?_
    | refine ifF' rfl ?_
    | refine aLen (Nat.le_of_ble_eq_true rfl) ?_
    | refine Exists.intro _ (And.intro rfl ?_)
    | refine ifT (by decide +kernel) ?_
    | refine ifF (by decide +kernel) ?_
    | refine ifT' (by decide +kernel) ?_
    | refine ifF' (by decide +kernel) ?_)
local macro_rules
  | `(tactic| fail) => `(tactic| first
    | refine wGlobc rfl S1C.g_FIELDS ?_
    | refine wGlobc rfl S1C.g_BOUNDS ?_
    | refine wGlobc rfl S1C.g_WORDS ?_
    | refine wGlobc rfl S1C.g_CHANGES ?_
    | refine wGlobc rfl S1C.g_CONDITIONS ?_
    | refine wGlobc rfl S1C.g_HELPERS ?_
    | refine wGlobc rfl S1C.g_FAULTS ?_)
local macro_rules
  | `(tactic| eq_refl) => `(tactic| first
    | fail
    | refine ifT (by assumption) ?_
    | refine ifF (by assumption) ?_
    | refine ifT' (by assumption) ?_
    | refine ifF' (by assumption) ?_
    | refine pTupI (by assumption) ?_
    | refine pTupZ (by assumption) ?_
    | refine ifT (decide_eq_true (by (try simp only [List.length_map]); omega)) ?_
    | refine ifF (decide_eq_false (by (try simp only [List.length_map]); omega)) ?_
    | refine ifT' (decide_eq_true (by (try simp only [List.length_map]); omega)) ?_
    | refine ifF' (decide_eq_false (by (try simp only [List.length_map]); omega)) ?_
    | refine ifT (by simp only [Bool.not_eq_true', decide_eq_false_iff_not, List.length_map]; omega) ?_
    | refine ifF (by simp only [Bool.not_eq_false', decide_eq_true_eq, List.length_map]; omega) ?_
    | refine ifT' (by simp only [Bool.not_eq_true', decide_eq_false_iff_not, List.length_map]; omega) ?_
    | refine ifF' (by simp only [Bool.not_eq_false', decide_eq_true_eq, List.length_map]; omega) ?_)
variable {L : Lw} [H : S1T L] [C : S1C L] {k : Nat} {S : Sto}
section
variable {rows : List Row} {r : Run} {x : Row}
theorem arrNo {chg hnd : Bool} {tb : List Tab} {t w : Nat} (h : tabFault true chg hnd tb t w = none) : ∃ may l, tb[t]? = some (.arr may l) ∧ w < l.length := by
  unfold tabFault at h
  cases hx : tb[t]? with
  | none => rw [hx] at h; cases h
  | some y =>
    rw [hx] at h
    cases y with
    | arr may l =>
      refine ⟨may, l, rfl, ?_⟩
      simp only [if_true] at h
      split at h
      · cases h
      · split at h
        · cases h
        · omega
    | prs may l =>
      simp only [if_true] at h
      cases h
theorem prsNo {chg hnd : Bool} {tb : List Tab} {t w : Nat} (h : tabFault false chg hnd tb t w = none) : ∃ may l, tb[t]? = some (.prs may l) ∧ (hnd = true → 1 ≤ w ∧ w ≤ l.length) := by
  unfold tabFault at h
  cases hx : tb[t]? with
  | none => rw [hx] at h; cases h
  | some y =>
    rw [hx] at h
    cases y with
    | arr may l =>
      simp only [Bool.false_eq_true, if_false] at h
      cases h
    | prs may l =>
      refine ⟨may, l, rfl, fun hh => ?_⟩
      simp only [Bool.false_eq_true, if_false, hh, true_and] at h
      split at h
      · cases h
      · split at h
        · cases h
        · next hc => exact Classical.not_not.mp hc
theorem tf3 {p q s wa chg hnd : Bool} {tb : List Tab} {t w : Nat} (h1 : p = wa) (h2 : q = chg) (h3 : s = hnd) : tabFault p q s tb t w = tabFault wa chg hnd tb t w := by subst h1 h2 h3; rfl
theorem tabNo {o : Str} {wa chg hnd : Bool} {a t b : Nat} (ho : (o, wa, chg, hnd) ∈ tabKinds) (hc : o ≠ "count") : (Row.tab o a t b).fault r = tabFault wa chg hnd r.tb t (r.rg.getD b 0) := by
  simp only [tabKinds, List.mem_cons, List.not_mem_nil, or_false] at ho
  rcases ho with ho | ho | ho | ho | ho | ho <;> cases ho
  · exact tf3 (by decide +kernel) (by decide +kernel) (by decide +kernel)
  · exact tf3 (by decide +kernel) (by decide +kernel) (by decide +kernel)
  · exact absurd rfl hc
  · exact tf3 (by decide +kernel) (by decide +kernel) (by decide +kernel)
  · exact tf3 (by decide +kernel) (by decide +kernel) (by decide +kernel)
  · exact tf3 (by decide +kernel) (by decide +kernel) (by decide +kernel)
theorem tabOk {t : Nat} {y : Tab} (hr : r.Ok) (h : r.tb[t]? = some y) : y.Ok ∧ t < r.tb.length ∧ (r.tb.map Tab.d)[t]? = some y.d :=
  ⟨hr.tb.2 _ (List.mem_of_getElem? h), (List.getElem?_eq_some_iff.mp h).1, by rw [List.getElem?_map, h]; rfl⟩
theorem tabF {o : Str} {wa chg hnd : Bool} {row : List D} {t b : Nat} (h : At rows r x) (hx : x.d = .tup row) (ho : (o, wa, chg, hnd) ∈ tabKinds) (r0 : row[0]? = some (.str o)) (r2 : atI row (-2) = some (dn t)) (r1 : atI row (-1) = some (dn b)) (rl : row[row.length - 1]? = some (dn b))
    (rt1 : o = "count" → row[1]? = some (dn t)) (rt2 : o ≠ "count" → row[2]? = some (dn t)) (hb : b < 8) (hn : tabFault wa chg hnd r.tb t (r.rg.getD b 0) = none) :
    ∀ k S, Tells L (k + 4) "next_fault" [.tup (rows.map Row.d), r.d] S .non ∧ Tells L (k + 5) "_law_fault" [.tup (rows.map Row.d), r.d] S .non := by
  have key : ∀ k S, Tells L (k + 2) "next_fault" [.tup (rows.map Row.d), r.d] S .non ∧ Tells L (k + 2) "_law_fault" [.tup (rows.map Row.d), r.d] S .non := fun k S => by
    have := tk_both (L := L) (k := k) (S := S) (r := r) (by rw [h.get, hx]) ho r0 r2 r1 rl rt1 rt2 (by rw [h.ok.rg.1]; exact hb)
    rw [hn] at this
    exact this
  exact fun k S => ⟨(key (k + 2) S).1, (key (k + 3) S).2⟩
theorem s_cell {a t b : Nat} (h : At rows r (.tab "cell" a t b)) : ∃ r' : Run, r'.Ok ∧ Steps L rows r r' := by
  obtain ⟨ho, ha, ht, hb⟩ := h.row
  have hn : tabFault true false false r.tb t (r.rg.getD b 0) = none := (tabNo (by simp [tabKinds]) (by decide +kernel)).symm.trans h.no
  have hf := tabF (L := L) (o := "cell") h rfl (by simp [tabKinds]) rfl rfl rfl rfl (fun e => absurd e (by decide +kernel)) (fun _ => rfl) hb hn
  obtain ⟨may, l, hg, hw⟩ := arrNo hn
  obtain ⟨ok, htl, g5⟩ := tabOk h.ok hg
  obtain ⟨g1, g2⟩ := gg h.ok.rg.1 hb h.ok.rg.2
  generalize hw : r.rg.getD b 0 = w at *
  obtain ⟨g3, g4⟩ := gg rfl hw ok.2.2.2
  simp only [Tab.d] at g5
  refine word_steps (L := L) (g := "cell_word") (v := l.getD w 0) h rfl rfl rfl ha g4 (by kernel_rfl) (by kernel_rfl) (by decide +kernel) hf (fun k S => ?_) (fun k S => .inr ⟨?_, ?_⟩)
  · refine (wFnL H.f_cell_word rfl ?_)
    unfold Run.d
    show XS _ _ t_cell_word [_, _] S _
    repeat eq_refl
    exact ⟨rfl, rfl⟩
  · refine (wFnL H.f__law_plain rfl ?_)
    unfold Run.d
    show XS _ _ t__law_plain [_, _, none, none] S _
    repeat eq_refl
    exact ⟨rfl, rfl⟩
  · refine (wFnL H.f__law_reach rfl ?_)
    unfold Run.d
    show XS _ _ t__law_reach [_, _, none, none, none, none, none, none, none, none, none, none] S _
    repeat eq_refl
    refine (c_set (r := r) (by rw [h.ok.rg.1]; exact ha) (by rw [h.ok.rg.1]; decide)).go ?_
    repeat eq_refl
    exact ⟨rfl, rfl⟩
theorem tabSet {l : List Tab} {t : Nat} {y : Tab} : (l.map Tab.d).set t y.d = (l.set t y).map Tab.d := by rw [List.map_set]
theorem c_content {t may : Nat} {nm : Str} {old new : D} {y : Tab} (ht : t < r.tb.length) (hl : r.tb.length < 1000) (hg : (r.tb.map Tab.d)[t]? = some (.tup [.str nm, dn may, old])) (hy : y.d = .tup [.str nm, dn may, new]) :
    Tells L (k + 2) "with_content" [r.d, dn t, new] S ({ r with tb := r.tb.set t y } : Run).d := by
  refine (wFnL H.f_with_content rfl ?_)
  unfold Run.d
  show XS _ _ t_with_content [_, _, _, none] S _
  repeat eq_refl
  refine (c_exch (l := [_, _, _]) (by simp) (by simp)).go ?_
  repeat eq_refl
  refine (c_exch (by rw [List.length_map]; exact ht) (by rw [List.length_map]; exact hl)).go ?_
  rw [show ([.str nm, dn may, old] : List D).set 2 new = [.str nm, dn may, new] from rfl, ← hy, tabSet]
  repeat eq_refl
  refine (c_exch (l := [_, _, _, _, _, _, _, _, _, _]) (by simp) (by simp)).go ?_
  repeat eq_refl
  exact ⟨rfl, rfl⟩
theorem tabsOk {t : Nat} {y : Tab} (hr : r.Ok) (h : y.Ok) : (r.tb.set t y).length ≤ 6 ∧ ∀ z ∈ r.tb.set t y, z.Ok := ⟨by rw [List.length_set]; exact hr.tb.1, fun z hz => by
  rcases List.mem_or_eq_of_mem_set hz with h2 | h2
  · exact hr.tb.2 z h2
  · subst h2; exact h⟩
theorem s_fill {a t b : Nat} (h : At rows r (.tab "fill" a t b)) : ∃ r' : Run, r'.Ok ∧ Steps L rows r r' := by
  obtain ⟨ho, ha, ht, hb⟩ := h.row
  have hn : tabFault true true false r.tb t (r.rg.getD b 0) = none := (tabNo (by simp [tabKinds]) (by decide +kernel)).symm.trans h.no
  have hf := tabF (L := L) (o := "fill") h rfl (by simp [tabKinds]) rfl rfl rfl rfl (fun e => absurd e (by decide +kernel)) (fun _ => rfl) hb hn
  obtain ⟨may, l, hg, hw⟩ := arrNo hn
  obtain ⟨ok, htl, g5⟩ := tabOk h.ok hg
  obtain ⟨g1, g2⟩ := gg h.ok.rg.1 hb h.ok.rg.2
  obtain ⟨q1, q2⟩ := gg h.ok.rg.1 ha h.ok.rg.2
  generalize hw : r.rg.getD b 0 = w at *
  obtain ⟨g3, g4⟩ := gg rfl hw ok.2.2.2
  have hr := h.ok
  have hll := ok.2.2.1
  have h6 := hr.tb.1
  simp only [Tab.d] at g5
  have oky : (Tab.arr may (l.set w (r.rg.getD a 0))).Ok := ⟨ok.1, by rw [List.length_set]; exact ok.2.1, by rw [List.length_set]; exact ok.2.2.1, ms ok.2.2.2 q2⟩
  refine change_steps (L := L) (g := "filled") (r1 := { r with tb := r.tb.set t (.arr may (l.set w (r.rg.getD a 0))) }) h rfl rfl ⟨hr.rg, hr.sl, hr.ct, hr.pl, hr.pk, tabsOk hr oky, hr.ck, hr.en, hr.wr⟩ rfl rfl (by kernel_rfl) (by kernel_rfl) (by kernel_rfl) (by decide +kernel) hf (fun k S => ?_) (fun k S => .inr ⟨?_, ?_⟩)
  · have ct := c_content (L := L) (k := k) (S := S) (r := r) (y := .arr may (l.set w (r.rg.getD a 0))) (new := .tup ((l.set w (r.rg.getD a 0)).map dn)) htl (by omega) g5 rfl
    refine (wFnL H.f_filled rfl ?_)
    unfold Run.d at ct ⊢
    show XS _ _ t_filled [_, _, none] S _
    repeat eq_refl
    refine (c_exch (by rw [List.length_map]; exact hw) (by rw [List.length_map]; omega)).go ?_
    rw [mapSet]
    repeat eq_refl
    refine ct.go ?_
    repeat eq_refl
    exact ⟨rfl, rfl⟩
  · refine (wFnL H.f__law_plain rfl ?_)
    unfold Run.d
    show XS _ _ t__law_plain [_, _, none, none] S _
    repeat eq_refl
    exact ⟨rfl, rfl⟩
  · refine (wFnL H.f__law_reach rfl ?_)
    unfold Run.d
    show XS _ _ t__law_reach [_, _, none, none, none, none, none, none, none, none, none, none] S _
    repeat eq_refl
    refine (c_put (by rw [List.length_map]; exact hw) (by rw [List.length_map]; omega)).go ?_
    rw [mapSet]
    repeat eq_refl
    refine (c_put (by rw [List.length_map]; exact htl) (by rw [List.length_map]; omega)).go ?_
    rw [show D.tup (List.take 2 [D.str "array", dn may, .tup (l.map dn)] ++ [.tup ((l.set w (r.rg.getD a 0)).map dn)]) = (Tab.arr may (l.set w (r.rg.getD a 0))).d from rfl, tabSet]
    repeat eq_refl
    exact ⟨rfl, rfl⟩
end
end S1

set_option maxHeartbeats 4000000
namespace S1
open PySem PySem.Spec PyProof.Rows L2 Ev
local macro_rules
  | `(tactic| fail) => `(tactic| first
    | (refine (?_ : Ev.XE _ _ _ _ _); first | refine wVar rfl ?_ | refine wCst ?_ | refine wCallc rfl ?_ | refine wIdx ?_ | refine wBin ?_ | refine wCmp ?_ | refine wTup ?_ | refine wBlt ?_ | refine wNot ?_ | refine wAndE ?_ | refine wOrE ?_ | refine wIfE ?_ | refine wChain ?_ | refine wLst ?_ | refine wNewl ?_ | refine wNewc ?_ | refine wSlTo ?_ | refine wSlFrom ?_ | refine wSlBoth ?_ | refine wOnes ?_ | refine wCallkc rfl ?_ | refine wCalllc rfl rfl ?_ | refine wComp ?_ | refine wGenL rfl ?_ | refine wNeg ?_ | refine wInv ?_ | refine wBlen ?_)
    | (refine (?_ : Ev.XL _ _ _ _ _); first | refine wCons ?_ | refine wNil ?_)
    | (refine (?_ : Ev.XS _ _ _ _ _ _); first | refine yIf ?_ | refine yRet ?_ | refine yAsg ?_ | refine yNil ?_ | refine yPar ?_ | refine yTup ?_ | refine yExpr ?_ | refine yFor ?_ | refine yRetN ?_ | refine yAug rfl ?_ | refine yPass ?_ | refine yBrk ?_ | refine yCont ?_ | refine yWhile ?_)
    | (refine (?_ : Ev.PT _ _ _); first | refine tBl ?_ | refine tTup ?_ | refine tNon ?_)
    | (refine (?_ : Ev.PC _ _ _ _ _); first | refine pEqS ?_ | refine pEqN ?_ | refine pLt ?_ | refine pLe ?_ | refine pGt ?_ | refine pGe ?_ | refine pNeN ?_ | refine pNeS ?_ | refine pIsN ?_ | refine pIsNotN ?_ | refine zLt ?_ | refine zGt ?_ | refine zLe ?_ | refine zGe ?_ | refine pInT rfl ?_)
    | (refine (?_ : Ev.PI _ _ _ _); first | refine pTupI rfl ?_ | refine pLstI rfl ?_ | refine pRefI (by assumption) rfl ?_ | refine pTupZ rfl ?_)
    | (refine (?_ : Ev.PB _ _ _ _ _); first | refine pAdd ?_ | refine pCatT (Nat.le_of_ble_eq_true rfl) ?_ | refine zAnd32 ?_ | refine zAnd16 ?_ | refine zAnd16i ?_ | refine zAnd8 ?_ | refine zAnd5 ?_ | refine zAnd4 ?_ | refine pAnd ?_ | refine pOr ?_ | refine pXor ?_ | refine pShr ?_ | refine pSub (by omega) ?_ | refine pMod (by omega) ?_ | refine pDiv (by omega) (by omega) ?_ | refine pMul (by omega) ?_ | refine pShl (by omega) (by omega) ?_ | refine pPow (by omega) (by omega) ?_ | refine zAdd ?_ | refine zSub ?_ | refine zMul (by omega) ?_ | refine zMod (by omega) ?_ | refine zDiv (by omega) (by omega) ?_)
    | (refine (?_ : Ev.PF _ _ _ _); first | refine pLenT ?_ | refine pIntN ?_ | refine pIntB ?_ | refine pLenL ?_ | refine pMinN ?_ | refine pMaxN ?_ | refine pIsiNI ?_ | refine pIsiNB ?_ | refine pIsiTT ?_ | refine pIsiSS ?_ | refine pTupL ?_ | refine zInt ?_ | refine zAbs ?_ | refine zDm (by omega) (by omega) ?_ | refine pTupR (by assumption) ?_ | refine pLenR (by assumption) ?_ | refine pLenS ?_ | refine pAllT ?_)
    | (refine (?_ : Ev.RQ _ _ _ _); first | refine rqR ?_ | refine rqN ?_)
    | (refine (?_ : Ev.PL _ _ _ _ _); first | refine sFromT ?_ | refine sToT ?_ | refine sFromL ?_ | refine sToL ?_ | refine sToR ?_ | refine sMidT (by omega) (Nat.le_of_ble_eq_true rfl) ?_)
    | (refine (?_ : Ev.PR _ _ _ _); first | refine rT ?_ | refine rL ?_ | refine rN (by omega) ?_ | refine rN2 (by omega) (by omega) ?_ | refine rEn ?_ | refine rZip ?_)
    | (refine (?_ : Ev.LQ _ _ _ _ _ _ _); first | refine lqN ?_ | refine lqR ?_)
    | (refine (?_ : Ev.TQ _ _ _ _ _ _ _ _ _ _ _); first | refine tqN ?_ | refine tqC ?_ | refine tqB ?_ | refine tqR ?_)
    | (refine (?_ : Ev.WP _ _); refine WP.mk rfl ?_)
    | refine ifT rfl ?_
    | refine ifF rfl ?_
    | refine ifT' rfl ?_
    | refine ifF' rfl ?_
    | refine aLen (Nat.le_of_ble_eq_true rfl) ?_
    | refine Exists.intro _ (And.intro rfl ?_)
    | refine ifT (by decide +kernel) ?_
    | refine ifF (by decide +kernel) ?_
    | refine ifT' (by decide +kernel) ?_
    | refine ifF' (by decide +kernel) ?_)
local macro_rules
  | `(tactic| fail) => `(tactic| first
    | refine wGlobc rfl S1C.g_FIELDS ?_
    | refine wGlobc rfl S1C.g_BOUNDS ?_
    | refine wGlobc rfl S1C.g_WORDS ?_
    | refine wGlobc rfl S1C.g_CHANGES ?_
    | refine wGlobc rfl S1C.g_CONDITIONS ?_
    | refine wGlobc rfl S1C.g_HELPERS ?_
    | refine wGlobc rfl S1C.g_FAULTS ?_)
local macro_rules
  | `(tactic| eq_refl) => `(tactic| first
    | fail
    | refine ifT (by assumption) ?_
    | refine ifF (by assumption) ?_
    | refine ifT' (by assumption) ?_
    | refine ifF' (by assumption) ?_
    | refine pTupI (by assumption) ?_
    | refine pTupZ (by assumption) ?_
    | refine ifT (decide_eq_true (by (try simp only [List.length_map]); omega)) ?_
    | refine ifF (decide_eq_false (by (try simp only [List.length_map]); omega)) ?_
    | refine ifT' (decide_eq_true (by (try simp only [List.length_map]); omega)) ?_
    | refine ifF' (decide_eq_false (by (try simp only [List.length_map]); omega)) ?_
    | refine ifT (by simp only [Bool.not_eq_true', decide_eq_false_iff_not, List.length_map]; omega) ?_
    | refine ifF (by simp only [Bool.not_eq_false', decide_eq_true_eq, List.length_map]; omega) ?_
    | refine ifT' (by simp only [Bool.not_eq_true', decide_eq_false_iff_not, List.length_map]; omega) ?_
    | refine ifF' (by simp only [Bool.not_eq_false', decide_eq_true_eq, List.length_map]; omega) ?_)
variable {L : Lw} [H : S1T L] [C : S1C L] {k : Nat} {S : Sto}
section
variable {rows : List Row} {r : Run} {x : Row}
theorem s_count {t b : Nat} (h : At rows r (.count t b)) : ∃ r' : Run, r'.Ok ∧ Steps L rows r r' := by
  obtain ⟨ht, hb⟩ := h.row
  have hn : tabFault true true false r.tb t (r.rg.getD b 0) = none := h.no
  have hf := tabF (L := L) (o := "count") h rfl (by simp [tabKinds]) rfl rfl rfl rfl (fun _ => rfl) (fun e => absurd rfl e) hb hn
  obtain ⟨may, l, hg, hw⟩ := arrNo hn
  obtain ⟨ok, htl, g5⟩ := tabOk h.ok hg
  obtain ⟨g1, g2⟩ := gg h.ok.rg.1 hb h.ok.rg.2
  generalize hw : r.rg.getD b 0 = w at *
  obtain ⟨g3, g4⟩ := gg rfl hw ok.2.2.2
  have hr := h.ok
  have hll := ok.2.2.1
  have h6 := hr.tb.1
  simp only [Tab.d] at g5
  have oky : (Tab.arr may (l.set w ((l.getD w 0 + 1) % 65536))).Ok := ⟨ok.1, by rw [List.length_set]; exact ok.2.1, by rw [List.length_set]; exact ok.2.2.1, ms ok.2.2.2 (Nat.mod_lt _ (by decide))⟩
  refine change_steps (L := L) (g := "counted") (r1 := { r with tb := r.tb.set t (.arr may (l.set w ((l.getD w 0 + 1) % 65536))) }) h rfl rfl ⟨hr.rg, hr.sl, hr.ct, hr.pl, hr.pk, tabsOk hr oky, hr.ck, hr.en, hr.wr⟩ rfl rfl (by kernel_rfl) (by kernel_rfl) (by kernel_rfl) (by decide +kernel) hf (fun k S => ?_) (fun k S => .inr ⟨?_, ?_⟩)
  · have ct := c_content (L := L) (k := k) (S := S) (r := r) (y := .arr may (l.set w ((l.getD w 0 + 1) % 65536))) (new := .tup ((l.set w ((l.getD w 0 + 1) % 65536)).map dn)) htl (by omega) g5 rfl
    refine (wFnL H.f_counted rfl ?_)
    unfold Run.d at ct ⊢
    show XS _ _ t_counted [_, _, none, none] S _
    repeat eq_refl
    refine (c_exch (by rw [List.length_map]; exact hw) (by rw [List.length_map]; omega)).go ?_
    rw [mapSet]
    repeat eq_refl
    refine ct.go ?_
    repeat eq_refl
    exact ⟨rfl, rfl⟩
  · refine (wFnL H.f__law_plain rfl ?_)
    unfold Run.d
    show XS _ _ t__law_plain [_, _, none, none] S _
    repeat eq_refl
    exact ⟨rfl, rfl⟩
  · refine (wFnL H.f__law_reach rfl ?_)
    unfold Run.d
    show XS _ _ t__law_reach [_, _, none, none, none, none, none, none, none, none, none, none] S _
    repeat eq_refl
    refine (c_put (by rw [List.length_map]; exact hw) (by rw [List.length_map]; omega)).go ?_
    rw [mapSet]
    repeat eq_refl
    refine (c_put (by rw [List.length_map]; exact htl) (by rw [List.length_map]; omega)).go ?_
    rw [show D.tup (List.take 2 [D.str "array", dn may, .tup (l.map dn)] ++ [.tup ((l.set w ((l.getD w 0 + 1) % 65536)).map dn)]) = (Tab.arr may (l.set w ((l.getD w 0 + 1) % 65536))).d from rfl, tabSet]
    repeat eq_refl
    exact ⟨rfl, rfl⟩
theorem pget {l : List (Nat × Nat)} {i : Nat} (h : i < l.length) : (l.map pr)[i]? = some (.tup [dn (l.getD i (0, 0)).1, dn (l.getD i (0, 0)).2]) ∧ l.getD i (0, 0) ∈ l := by
  have e : l.getD i (0, 0) = l[i] := by simp [List.getD, h]
  rw [e, List.getElem?_map, List.getElem?_eq_getElem h]
  exact ⟨rfl, List.getElem_mem _⟩
theorem s_value {a t b : Nat} (h : At rows r (.tab "value" a t b)) : ∃ r' : Run, r'.Ok ∧ Steps L rows r r' := by
  obtain ⟨ho, ha, ht, hb⟩ := h.row
  have hn : tabFault false false true r.tb t (r.rg.getD b 0) = none := (tabNo (by simp [tabKinds]) (by decide +kernel)).symm.trans h.no
  have hf := tabF (L := L) (o := "value") h rfl (by simp [tabKinds]) rfl rfl rfl rfl (fun e => absurd e (by decide +kernel)) (fun _ => rfl) hb hn
  obtain ⟨may, l, hg, hw⟩ := prsNo hn
  obtain ⟨w1, w2⟩ := hw rfl
  obtain ⟨ok, htl, g5⟩ := tabOk h.ok hg
  obtain ⟨g1, g2⟩ := gg h.ok.rg.1 hb h.ok.rg.2
  generalize hw : r.rg.getD b 0 = w at *
  obtain ⟨g3, g4⟩ := pget (show w - 1 < l.length by omega)
  simp only [Tab.d] at g5
  refine word_steps (L := L) (g := "value_word") (v := (l.getD (w - 1) (0, 0)).2) h rfl rfl rfl ha (ok.2.2.1 _ g4).2 (by kernel_rfl) (by kernel_rfl) (by decide +kernel) hf (fun k S => ?_) (fun k S => .inr ⟨?_, ?_⟩)
  · refine (wFnL H.f_value_word rfl ?_)
    unfold Run.d
    show XS _ _ t_value_word [_, _] S _
    repeat eq_refl
    exact ⟨rfl, rfl⟩
  · refine (wFnL H.f__law_plain rfl ?_)
    unfold Run.d
    show XS _ _ t__law_plain [_, _, none, none] S _
    repeat eq_refl
    exact ⟨rfl, rfl⟩
  · refine (wFnL H.f__law_reach rfl ?_)
    unfold Run.d
    show XS _ _ t__law_reach [_, _, none, none, none, none, none, none, none, none, none, none] S _
    repeat eq_refl
    refine (c_set (r := r) (by rw [h.ok.rg.1]; exact ha) (by rw [h.ok.rg.1]; decide)).go ?_
    repeat eq_refl
    exact ⟨rfl, rfl⟩
end
end S1

set_option maxHeartbeats 4000000
namespace S1
open PySem PySem.Spec PyProof.Rows L2 Ev
local macro_rules
  | `(tactic| fail) => `(tactic| first
    | (refine (?_ : Ev.XE _ _ _ _ _); first | refine wVar rfl ?_ | refine wCst ?_ | refine wCallc rfl ?_ | refine wIdx ?_ | refine wBin ?_ | refine wCmp ?_ | refine wTup ?_ | refine wBlt ?_ | refine wNot ?_ | refine wAndE ?_ | refine wOrE ?_ | refine wIfE ?_ | refine wChain ?_ | refine wLst ?_ | refine wNewl ?_ | refine wNewc ?_ | refine wSlTo ?_ | refine wSlFrom ?_ | refine wSlBoth ?_ | refine wOnes ?_ | refine wCallkc rfl ?_ | refine wCalllc rfl rfl ?_ | refine wComp ?_ | refine wGenL rfl ?_ | refine wNeg ?_ | refine wInv ?_ | refine wBlen ?_)
    | (refine (?_ : Ev.XL _ _ _ _ _); first | refine wCons ?_ | refine wNil ?_)
    | (refine (?_ : Ev.XS _ _ _ _ _ _); first | refine yIf ?_ | refine yRet ?_ | refine yAsg ?_ | refine yNil ?_ | refine yPar ?_ | refine yTup ?_ | refine yExpr ?_ | refine yFor ?_ | refine yRetN ?_ | refine yAug rfl ?_ | refine yPass ?_ | refine yBrk ?_ | refine yCont ?_ | refine yWhile ?_)
    | (refine (?_ : Ev.PT _ _ _); first | refine tBl ?_ | refine tTup ?_ | refine tNon ?_)
    | (refine (?_ : Ev.PC _ _ _ _ _); first | refine pEqS ?_ | refine pEqN ?_ | refine pLt ?_ | refine pLe ?_ | refine pGt ?_ | refine pGe ?_ | refine pNeN ?_ | refine pNeS ?_ | refine pIsN ?_ | refine pIsNotN ?_ | refine zLt ?_ | refine zGt ?_ | refine zLe ?_ | refine zGe ?_ | refine pInT rfl ?_)
    | (refine (?_ : Ev.PI _ _ _ _); first | refine pTupI rfl ?_ | refine pLstI rfl ?_ | refine pRefI (by assumption) rfl ?_ | refine pTupZ rfl ?_)
    | (refine (?_ : Ev.PB _ _ _ _ _); first | refine pAdd ?_ | refine pCatT (Nat.le_of_ble_eq_true rfl) ?_ | refine zAnd32 ?_ | refine zAnd16 ?_ | refine zAnd16i ?_ | refine zAnd8 ?_ | refine zAnd5 ?_ | refine zAnd4 ?_ | refine pAnd ?_ | refine pOr ?_ | refine pXor ?_ | refine pShr ?_ | refine pSub (by omega) ?_ | refine pMod (by omega) ?_ | refine pDiv (by omega) (by omega) ?_ | refine pMul (by omega) ?_ | refine pShl (by omega) (by omega) ?_ | refine pPow (by omega) (by omega) ?_ | refine zAdd ?_ | refine zSub ?_ | refine zMul (by omega) ?_ | refine zMod (by omega) ?_ | refine zDiv (by omega) (by omega) ?_)
    | (refine (?_ : Ev.PF _ _ _ _); first | refine pLenT ?_ | refine pIntN ?_ | refine pIntB ?_ | refine pLenL ?_ | refine pMinN ?_ | refine pMaxN ?_ | refine pIsiNI ?_ | refine pIsiNB ?_ | refine pIsiTT ?_ | refine pIsiSS ?_ | refine pTupL ?_ | refine zInt ?_ | refine zAbs ?_ | refine zDm (by omega) (by omega) ?_ | refine pTupR (by assumption) ?_ | refine pLenR (by assumption) ?_ | refine pLenS ?_ | refine pAllT ?_)
    | (refine (?_ : Ev.RQ _ _ _ _); first | refine rqR ?_ | refine rqN ?_)
    | (refine (?_ : Ev.PL _ _ _ _ _); first | refine sFromT ?_ | refine sToT ?_ | refine sFromL ?_ | refine sToL ?_ | refine sToR ?_ | refine sMidT (by omega) (Nat.le_of_ble_eq_true rfl) ?_)
    | (refine (?_ : Ev.PR _ _ _ _); first | refine rT ?_ | refine rL ?_ | refine rN (by omega) ?_ | refine rN2 (by omega) (by omega) ?_ | refine rEn ?_ | refine rZip ?_)
    | (refine (?_ : Ev.LQ _ _ _ _ _ _ _); first | refine lqN ?_ | refine lqR ?_)
    | (refine (?_ : Ev.TQ _ _ _ _ _ _ _ _ _ _ _); first | refine tqN ?_ | refine tqC ?_ | refine tqB ?_ | refine tqR ?_)
    | (refine (?_ : Ev.WP _ _); refine WP.mk rfl ?_)
    | refine ifT rfl ?_
    | refine ifF rfl ?_
    | refine ifT' rfl ?_
    | refine ifF' rfl ?_
    | refine aLen (Nat.le_of_ble_eq_true rfl) ?_
    | refine Exists.intro _ (And.intro rfl ?_)
    | refine ifT (by decide +kernel) ?_
    | refine ifF (by decide +kernel) ?_
    | refine ifT' (by decide +kernel) ?_
    | refine ifF' (by decide +kernel) ?_)
local macro_rules
  | `(tactic| fail) => `(tactic| first
    | refine wGlobc rfl S1C.g_FIELDS ?_
    | refine wGlobc rfl S1C.g_BOUNDS ?_
    | refine wGlobc rfl S1C.g_WORDS ?_
    | refine wGlobc rfl S1C.g_CHANGES ?_
    | refine wGlobc rfl S1C.g_CONDITIONS ?_
    | refine wGlobc rfl S1C.g_HELPERS ?_
    | refine wGlobc rfl S1C.g_FAULTS ?_)
local macro_rules
  | `(tactic| eq_refl) => `(tactic| first
    | fail
    | refine ifT (by assumption) ?_
    | refine ifF (by assumption) ?_
    | refine ifT' (by assumption) ?_
    | refine ifF' (by assumption) ?_
    | refine pTupI (by assumption) ?_
    | refine pTupZ (by assumption) ?_
    | refine ifT (decide_eq_true (by (try simp only [List.length_map]); omega)) ?_
    | refine ifF (decide_eq_false (by (try simp only [List.length_map]); omega)) ?_
    | refine ifT' (decide_eq_true (by (try simp only [List.length_map]); omega)) ?_
    | refine ifF' (decide_eq_false (by (try simp only [List.length_map]); omega)) ?_
    | refine ifT (by simp only [Bool.not_eq_true', decide_eq_false_iff_not, List.length_map]; omega) ?_
    | refine ifF (by simp only [Bool.not_eq_false', decide_eq_true_eq, List.length_map]; omega) ?_
    | refine ifT' (by simp only [Bool.not_eq_true', decide_eq_false_iff_not, List.length_map]; omega) ?_
    | refine ifF' (by simp only [Bool.not_eq_false', decide_eq_true_eq, List.length_map]; omega) ?_)
variable {L : Lw} [H : S1T L] [C : S1C L] {k : Nat} {S : Sto}
section
variable {rows : List Row} {r : Run} {x : Row}
theorem prSet {l : List (Nat × Nat)} {i : Nat} {a b : Nat} : (l.map pr).set i (.tup [dn a, dn b]) = (l.set i (a, b)).map pr := by rw [List.map_set]; rfl
theorem pw_set {l : List (Nat × Nat)} {i : Nat} {v : Nat} (h : l.Pairwise fun p q => p.1 < q.1) (hi : i < l.length) : (l.set i ((l.getD i (0, 0)).1, v)).Pairwise fun p q => p.1 < q.1 := by
  have e : (l.set i ((l.getD i (0, 0)).1, v)).map (·.1) = l.map (·.1) := by
    have e : l.getD i (0, 0) = l[i] := by simp [List.getD, hi]
    rw [e, List.map_set]
    show (l.map (·.1)).set i (l[i].1) = _
    have : l[i].1 = (l.map (·.1))[i]'(by rw [List.length_map]; exact hi) := by rw [List.getElem_map]
    rw [this, List.set_getElem_self]
  have h2 : ((l.map (·.1)).Pairwise (· < ·)) := List.pairwise_map.mpr h
  rw [← e] at h2
  exact List.pairwise_map.mp h2
theorem s_change {a t b : Nat} (h : At rows r (.tab "change" a t b)) : ∃ r' : Run, r'.Ok ∧ Steps L rows r r' := by
  obtain ⟨ho, ha, ht, hb⟩ := h.row
  have hn : tabFault false true true r.tb t (r.rg.getD b 0) = none := (tabNo (by simp [tabKinds]) (by decide +kernel)).symm.trans h.no
  have hf := tabF (L := L) (o := "change") h rfl (by simp [tabKinds]) rfl rfl rfl rfl (fun e => absurd e (by decide +kernel)) (fun _ => rfl) hb hn
  obtain ⟨may, l, hg, hw⟩ := prsNo hn
  obtain ⟨w1, w2⟩ := hw rfl
  obtain ⟨ok, htl, g5⟩ := tabOk h.ok hg
  obtain ⟨g1, g2⟩ := gg h.ok.rg.1 hb h.ok.rg.2
  obtain ⟨q1, q2⟩ := gg h.ok.rg.1 ha h.ok.rg.2
  generalize hw : r.rg.getD b 0 = w at *
  have hi : w - 1 < l.length := by omega
  obtain ⟨g3, g4⟩ := pget hi
  have hr := h.ok
  have hll := ok.2.1
  have h6 := hr.tb.1
  simp only [Tab.d] at g5
  have oky : (Tab.prs may (l.set (w - 1) ((l.getD (w - 1) (0, 0)).1, r.rg.getD a 0))).Ok := ⟨ok.1, by rw [List.length_set]; exact ok.2.1, fun p hp => by
    rcases List.mem_or_eq_of_mem_set hp with h2 | h2
    · exact ok.2.2.1 p h2
    · subst h2; exact ⟨(ok.2.2.1 _ g4).1, q2⟩, pw_set ok.2.2.2 hi⟩
  refine change_steps (L := L) (g := "changed") (r1 := { r with tb := r.tb.set t (.prs may (l.set (w - 1) ((l.getD (w - 1) (0, 0)).1, r.rg.getD a 0))) }) h rfl rfl ⟨hr.rg, hr.sl, hr.ct, hr.pl, hr.pk, tabsOk hr oky, hr.ck, hr.en, hr.wr⟩ rfl rfl (by kernel_rfl) (by kernel_rfl) (by kernel_rfl) (by decide +kernel) hf (fun k S => ?_) (fun k S => .inr ⟨?_, ?_⟩)
  · have ct := c_content (L := L) (k := k) (S := S) (r := r) (y := .prs may (l.set (w - 1) ((l.getD (w - 1) (0, 0)).1, r.rg.getD a 0))) (new := .tup ((l.set (w - 1) ((l.getD (w - 1) (0, 0)).1, r.rg.getD a 0)).map pr)) htl (by omega) g5 rfl
    refine (wFnL H.f_changed rfl ?_)
    unfold Run.d at ct ⊢
    show XS _ _ t_changed [_, _, none, none, none] S _
    repeat eq_refl
    refine (c_exch (by rw [List.length_map]; exact hi) (by rw [List.length_map]; omega)).go ?_
    rw [prSet]
    repeat eq_refl
    refine ct.go ?_
    repeat eq_refl
    exact ⟨rfl, rfl⟩
  · refine (wFnL H.f__law_plain rfl ?_)
    unfold Run.d
    show XS _ _ t__law_plain [_, _, none, none] S _
    repeat eq_refl
    exact ⟨rfl, rfl⟩
  · refine (wFnL H.f__law_reach rfl ?_)
    unfold Run.d
    show XS _ _ t__law_reach [_, _, none, none, none, none, none, none, none, none, none, none] S _
    repeat eq_refl
    refine (c_put (by rw [List.length_map]; exact hi) (by rw [List.length_map]; omega)).go ?_
    rw [prSet]
    repeat eq_refl
    refine (c_put (by rw [List.length_map]; exact htl) (by rw [List.length_map]; omega)).go ?_
    rw [show D.tup (List.take 2 [D.str "pairs", dn may, .tup (l.map pr)] ++ [.tup ((l.set (w - 1) ((l.getD (w - 1) (0, 0)).1, r.rg.getD a 0)).map pr)]) = (Tab.prs may (l.set (w - 1) ((l.getD (w - 1) (0, 0)).1, r.rg.getD a 0))).d from rfl, tabSet]
    repeat eq_refl
    exact ⟨rfl, rfl⟩
/-- the place of a key -/
def fi (w : Nat) : List (Nat × Nat) → Nat → Option Nat
  | [], _ => none
  | p :: l, j => if p.1 = w then some j else fi w l (j + 1)
theorem fi_lt {w : Nat} : ∀ {l : List (Nat × Nat)} {j n : Nat}, fi w l j = some n → n < j + l.length
  | [], _, _, h => by cases h
  | p :: l, j, n, h => by
    simp only [fi] at h
    rw [List.length_cons]
    split at h
    · cases h; omega
    · have := fi_lt h; omega
def optN : Option Nat → D | none => .non | some n => dn n
theorem pi_loop {G : Gb} {wf w : Nat} {e0 : D} : ∀ (l : List (Nat × Nat)) (j : Nat) (x1 x2 : Option D) (Q : Fl → EnvD → Sto → Prop), (∀ env, fi w l j = none → Q .nx env S) → (∀ env n, fi w l j = some n → Q (.rt (dn n)) env S) →
    XF (fun _ => true) [2, 3] false G wf [(.ife (.cmp .Eq (.idx (.var 3) (.cst (dn 0))) (.var 1)) [(.ret (.var 2))] [])] (enumD j (l.map pr)) [some e0, some (dn w), x1, x2] S Q
  | [], j, x1, x2, Q, q1, q2 => xfNil rfl (q1 _ rfl)
  | p :: l, j, x1, x2, Q, q1, q2 => by
    show XF _ _ _ _ _ _ (.tup [dn j, .tup [dn p.1, dn p.2]] :: enumD (j + 1) (l.map pr)) _ _ _
    refine xfCons rfl ?_
    repeat fail
    refine ifD (fun h => ?_) (fun h => ?_)
    · repeat fail
      exact q2 _ _ (by simp [fi, h])
    · repeat fail
      exact pi_loop l (j + 1) _ _ Q (fun env h2 => q1 env (by simpa [fi, h] using h2)) (fun env n h2 => q2 env n (by simpa [fi, h] using h2))
theorem c_pair_index {l : List (Nat × Nat)} {w : Nat} : Tells L (k + 1) "pair_index" [.tup (l.map pr), dn w] S (optN (fi w l 0)) := by
  refine (wFnL H.f_pair_index rfl ?_)
  show XS _ _ t_pair_index [_, _, none, none] S _
  repeat fail
  refine pi_loop l 0 _ _ _ (fun env h => ?_) (fun env n h => ?_)
  · repeat fail
    rw [h]
    exact ⟨rfl, rfl⟩
  · repeat fail
    rw [h]
    exact ⟨rfl, rfl⟩
theorem find_comp {G : Gb} {w : Nat} {full : List (Nat × Nat)} {e0 e1 e2 e3 e4 e6 e7 e8 e11 : Option D} : ∀ (n i : Nat) (x5 : Option D) (acc : List D) (Q : List D → Sto → Prop), i + n = full.length → acc.length + n ≤ 900 → (∀ d ∈ acc, ∃ n, d = dn n) → (∀ l : List D, l.head? = acc.head?.or ((fi w (full.drop i) i).map fun n => dn (n + 1)) → (∀ d ∈ l, ∃ n, d = dn n) → Q l S) →
    XP (fun _ => true) [5] true G true (.cmp .Eq (.idx (.idx (.var 10) (.var 5)) (.cst (dn 0))) (.var 9)) (.bin .Add (.var 5) (.cst (dn 1))) [e0, e1, e2, e3, e4, x5, e6, e7, e8, some (dn w), some (.tup (full.map pr)), e11] (nums i n) S acc Q
  | 0, i, x5, acc, Q, hi, _, ha, q => xpNil rfl (q acc (by rw [List.drop_of_length_le (by omega)]; simp [fi]) ha)
  | n + 1, i, x5, acc, Q, hi, hl, ha, q => by
    have hlt : i < full.length := by omega
    obtain ⟨g, -⟩ := pget hlt
    have ed : full.drop i = full.getD i (0, 0) :: full.drop (i + 1) := by
      have e : full.getD i (0, 0) = full[i] := by simp [List.getD, hlt]
      rw [e, List.drop_eq_getElem_cons hlt]
    refine xpConsIf rfl (by omega) ?_
    repeat eq_refl
    refine ifD (fun h => ?_) (fun h => ?_)
    · repeat eq_refl
      refine find_comp n (i + 1) _ _ Q (by omega) (by rw [List.length_append, List.length_singleton]; omega) (fun d hd => by
        rcases List.mem_append.mp hd with hd | hd
        · exact ha d hd
        · exact ⟨_, List.mem_singleton.mp hd⟩) fun l hl hb => q l ?_ hb
      rw [hl, ed]
      simp only [fi]
      rw [if_pos h]
      cases acc <;> rfl
    · refine find_comp n (i + 1) _ _ Q (by omega) (by omega) ha fun l hl hb => q l ?_ hb
      rw [hl, ed]
      simp only [fi]
      rw [if_neg h]
theorem ints_py : ∀ {l : List D}, (∀ d ∈ l, ∃ n, d = dn n) → ∃ ps, pys l = some ps ∧ PyData.canLayAll0 ps = true ∧ PyData.depthAll ps ≤ 60 ∧ ps.isEmpty = l.isEmpty
  | [], _ => ⟨[], rfl, rfl, Nat.zero_le _, rfl⟩
  | d :: l, h => by
    obtain ⟨n, rfl⟩ := h d List.mem_cons_self
    obtain ⟨ps, e3, h3, h4, _⟩ := ints_py (l := l) fun d hd => h d (List.mem_cons_of_mem _ hd)
    refine ⟨.int n :: ps, by simp [pys, py, dn, e3], by simp [PyData.canLayAll0, PyData.canLay0, h3], ?_, rfl⟩
    simp only [PyData.depthAll, PyData.depth]
    omega
theorem lne {l : List D} (h : ∀ d ∈ l, ∃ n, d = dn n) : cop S .NotEq (.lst l) (.lst []) = some (!l.isEmpty) := by
  obtain ⟨ps, e, h1, h2, h3⟩ := ints_py h
  have hp : py (.lst l) = some (.list ps) := by simp [py, e]
  have h0 : py (.lst []) = some (.list []) := rfl
  have s1 : SeqAt.shaped (.list ps) = true := by
    have : PyData.canLay0 (.list ps) = true := by simpa [PyData.canLay0] using h1
    have hd : PyData.depth (.list ps) ≤ 64 := by
      rw [PyData.depth]
      omega
    simp [SeqAt.shaped, this, hd]
  have s2 : SeqAt.shaped (.list []) = true := by decide
  have q : PyData.eqv (.list ps) (.list []) = l.isEmpty := by
    rw [← h3]
    cases ps with
    | nil => rfl
    | cons p ps => simp [PyData.eqv, PyData.eqvAll]
  simp only [cop, deq, scalEq, der, hp, h0, dataEq, s1, s2, and_self, if_true, q, Option.map_some]
theorem s_find {a t b : Nat} (h : At rows r (.tab "find" a t b)) : ∃ r' : Run, r'.Ok ∧ Steps L rows r r' := by
  obtain ⟨ho, ha, ht, hb⟩ := h.row
  have hn : tabFault false false false r.tb t (r.rg.getD b 0) = none := (tabNo (by simp [tabKinds]) (by decide +kernel)).symm.trans h.no
  have hf := tabF (L := L) (o := "find") h rfl (by simp [tabKinds]) rfl rfl rfl rfl (fun e => absurd e (by decide +kernel)) (fun _ => rfl) hb hn
  obtain ⟨may, l, hg, -⟩ := prsNo hn
  obtain ⟨ok, htl, g5⟩ := tabOk h.ok hg
  obtain ⟨g1, g2⟩ := gg h.ok.rg.1 hb h.ok.rg.2
  generalize hw : r.rg.getD b 0 = w at *
  have h16 := ok.2.1
  simp only [Tab.d] at g5
  have hv : (match fi w l 0 with | none => 0 | some n => n + 1) < 65536 := by
    cases hx : fi w l 0 with
    | none => decide
    | some n =>
      have := fi_lt hx
      show n + 1 < 65536
      omega
  refine word_steps (L := L) (g := "found_word") (v := match fi w l 0 with | none => 0 | some n => n + 1) h rfl rfl rfl ha hv (by kernel_rfl) (by kernel_rfl) (by decide +kernel) hf (fun k S => ?_) (fun k S => .inr ⟨?_, ?_⟩)
  · refine (wFnL H.f_found_word rfl ?_)
    unfold Run.d
    show XS _ _ t_found_word [_, _, none] S _
    repeat eq_refl
    refine c_pair_index.go ?_
    cases fi w l 0 with
    | none =>
      repeat eq_refl
      exact ⟨rfl, rfl⟩
    | some n =>
      show XS _ _ _ _ _ _
      repeat eq_refl
      exact ⟨rfl, rfl⟩
  · refine (wFnL H.f__law_plain rfl ?_)
    unfold Run.d
    show XS _ _ t__law_plain [_, _, none, none] S _
    repeat eq_refl
    exact ⟨rfl, rfl⟩
  · refine (wFnL H.f__law_reach rfl ?_)
    unfold Run.d
    show XS _ _ t__law_reach [_, _, none, none, none, none, none, none, none, none, none, none] S _
    repeat eq_refl
    rw [List.length_map]
    repeat eq_refl
    refine find_comp (full := l) (w := w) l.length 0 _ [] _ (Nat.zero_add _) (by simp; omega) (fun _ hd => by cases hd) fun out hout hall => ?_
    have ln := lne (S := S) hall
    rw [List.drop_zero] at hout
    cases hx : fi w l 0 with
    | none =>
      rw [hx] at hout
      cases out with
      | cons y z => cases hout
      | nil =>
        repeat eq_refl
        refine ⟨_, ln, ?_⟩
        repeat eq_refl
        refine (c_set (L := L) (r := r) (v := 0) (by rw [h.ok.rg.1]; exact ha) (by rw [h.ok.rg.1]; decide)).go ?_
        repeat eq_refl
        exact ⟨rfl, rfl⟩
    | some n =>
      rw [hx] at hout
      cases out with
      | nil => cases hout
      | cons y z =>
        cases hout
        repeat eq_refl
        refine ⟨_, ln, ?_⟩
        repeat eq_refl
        refine (c_set (L := L) (r := r) (v := n + 1) (by rw [h.ok.rg.1]; exact ha) (by rw [h.ok.rg.1]; decide)).go ?_
        repeat eq_refl
        exact ⟨rfl, rfl⟩
end
end S1

set_option maxHeartbeats 4000000
namespace S1
open PySem PySem.Spec PyProof.Rows L2 Ev
local macro_rules
  | `(tactic| fail) => `(tactic| first
    | (refine (?_ : Ev.XE _ _ _ _ _); first | refine wVar rfl ?_ | refine wCst ?_ | refine wCallc rfl ?_ | refine wIdx ?_ | refine wBin ?_ | refine wCmp ?_ | refine wTup ?_ | refine wBlt ?_ | refine wNot ?_ | refine wAndE ?_ | refine wOrE ?_ | refine wIfE ?_ | refine wChain ?_ | refine wLst ?_ | refine wNewl ?_ | refine wNewc ?_ | refine wSlTo ?_ | refine wSlFrom ?_ | refine wSlBoth ?_ | refine wOnes ?_ | refine wCallkc rfl ?_ | refine wCalllc rfl rfl ?_ | refine wComp ?_ | refine wGenL rfl ?_ | refine wNeg ?_ | refine wInv ?_ | refine wBlen ?_)
    | (refine (?_ : Ev.XL _ _ _ _ _); first | refine wCons ?_ | refine wNil ?_)
    | (refine (?_ : Ev.XS _ _ _ _ _ _); first | refine yIf ?_ | refine yRet ?_ | refine yAsg ?_ | refine yNil ?_ | refine yPar ?_ | refine yTup ?_ | refine yExpr ?_ | refine yFor ?_ | refine yRetN ?_ | refine yAug rfl ?_ | refine yPass ?_ | refine yBrk ?_ | refine yCont ?_ | refine yWhile ?_)
    | (refine (?_ : Ev.PT _ _ _); first | refine tBl ?_ | refine tTup ?_ | refine tNon ?_)
    | (refine (?_ : Ev.PC _ _ _ _ _); first | refine pEqS ?_ | refine pEqN ?_ | refine pLt ?_ | refine pLe ?_ | refine pGt ?_ | refine pGe ?_ | refine pNeN ?_ | refine pNeS ?_ | refine pIsN ?_ | refine pIsNotN ?_ | refine zLt ?_ | refine zGt ?_ | refine zLe ?_ | refine zGe ?_ | refine pInT rfl ?_)
    | (refine (?_ : Ev.PI _ _ _ _); first | refine pTupI rfl ?_ | refine pLstI rfl ?_ | refine pRefI (by assumption) rfl ?_ | refine pTupZ rfl ?_)
    | (refine (?_ : Ev.PB _ _ _ _ _); first | refine pAdd ?_ | refine pCatT (Nat.le_of_ble_eq_true rfl) ?_ | refine zAnd32 ?_ | refine zAnd16 ?_ | refine zAnd16i ?_ | refine zAnd8 ?_ | refine zAnd5 ?_ | refine zAnd4 ?_ | refine pAnd ?_ | refine pOr ?_ | refine pXor ?_ | refine pShr ?_ | refine pSub (by omega) ?_ | refine pMod (by omega) ?_ | refine pDiv (by omega) (by omega) ?_ | refine pMul (by omega) ?_ | refine pShl (by omega) (by omega) ?_ | refine pPow (by omega) (by omega) ?_ | refine zAdd ?_ | refine zSub ?_ | refine zMul (by omega) ?_ | refine zMod (by omega) ?_ | refine zDiv (by omega) (by omega) ?_)
    | (refine (?_ : Ev.PF _ _ _ _); first | refine pLenT ?_ | refine pIntN ?_ | refine pIntB ?_ | refine pLenL ?_ | refine pMinN ?_ | refine pMaxN ?_ | refine pIsiNI ?_ | refine pIsiNB ?_ | refine pIsiTT ?_ | refine pIsiSS ?_ | refine pTupL ?_ | refine zInt ?_ | refine zAbs ?_ | refine zDm (by omega) (by omega) ?_ | refine pTupR (by assumption) ?_ | refine pLenR (by assumption) ?_ | refine pLenS ?_ | refine pAllT ?_)
    | (refine (?_ : Ev.RQ _ _ _ _); first | refine rqR ?_ | refine rqN ?_)
    | (refine (?_ : Ev.PL _ _ _ _ _); first | refine sFromT ?_ | refine sToT ?_ | refine sFromL ?_ | refine sToL ?_ | refine sToR ?_ | refine sMidT (by omega) (Nat.le_of_ble_eq_true rfl) ?_)
    | (refine (?_ : Ev.PR _ _ _ _); first | refine rT ?_ | refine rL ?_ | refine rN (by omega) ?_ | refine rN2 (by omega) (by omega) ?_ | refine rEn ?_ | refine rZip ?_)
    | (refine (?_ : Ev.LQ _ _ _ _ _ _ _); first | refine lqN ?_ | refine lqR ?_)
    | (refine (?_ : Ev.TQ _ _ _ _ _ _ _ _ _ _ _); first | refine tqN ?_ | refine tqC ?_ | refine tqB ?_ | refine tqR ?_)
    | (refine (?_ : Ev.WP _ _); refine WP.mk rfl ?_)
    | refine ifT rfl ?_
    | refine ifF rfl ?_
    | refine ifT' rfl ?_
    | refine ifF' rfl ?_
    | refine aLen (Nat.le_of_ble_eq_true rfl) ?_
    | refine Exists.intro _ (And.intro rfl ?_)
    | refine ifT (by decide +kernel) ?_
    | refine ifF (by decide +kernel) ?_
    | refine ifT' (by decide +kernel) ?_
    | refine ifF' (by decide +kernel) ?_)
local macro_rules
  | `(tactic| fail) => `(tactic| first
    | refine wGlobc rfl S1C.g_FIELDS ?_
    | refine wGlobc rfl S1C.g_BOUNDS ?_
    | refine wGlobc rfl S1C.g_WORDS ?_
    | refine wGlobc rfl S1C.g_CHANGES ?_
    | refine wGlobc rfl S1C.g_CONDITIONS ?_
    | refine wGlobc rfl S1C.g_HELPERS ?_
    | refine wGlobc rfl S1C.g_FAULTS ?_)
local macro_rules
  | `(tactic| eq_refl) => `(tactic| first
    | fail
    | refine ifT (by assumption) ?_
    | refine ifF (by assumption) ?_
    | refine ifT' (by assumption) ?_
    | refine ifF' (by assumption) ?_
    | refine pTupI (by assumption) ?_
    | refine pTupZ (by assumption) ?_
    | refine ifT (decide_eq_true (by (try simp only [List.length_map]); omega)) ?_
    | refine ifF (decide_eq_false (by (try simp only [List.length_map]); omega)) ?_
    | refine ifT' (decide_eq_true (by (try simp only [List.length_map]); omega)) ?_
    | refine ifF' (decide_eq_false (by (try simp only [List.length_map]); omega)) ?_
    | refine ifT (by simp only [Bool.not_eq_true', decide_eq_false_iff_not, List.length_map]; omega) ?_
    | refine ifF (by simp only [Bool.not_eq_false', decide_eq_true_eq, List.length_map]; omega) ?_
    | refine ifT' (by simp only [Bool.not_eq_true', decide_eq_false_iff_not, List.length_map]; omega) ?_
    | refine ifF' (by simp only [Bool.not_eq_false', decide_eq_true_eq, List.length_map]; omega) ?_)
variable {L : Lw} [H : S1T L] [C : S1C L] {k : Nat} {S : Sto}
section
variable {rows : List Row} {r : Run} {x : Row}
theorem s_tab {o : Str} {a t b : Nat} (h : At rows r (.tab o a t b)) : ∃ r' : Run, r'.Ok ∧ Steps L rows r r' := by
  have ho := h.row.1
  simp only [tabs, List.mem_cons, List.not_mem_nil, or_false] at ho
  rcases ho with rfl | rfl | rfl | rfl | rfl
  · exact s_cell h
  · exact s_fill h
  · exact s_find h
  · exact s_value h
  · exact s_change h
/-! rows that go elsewhere -/
theorem done_way {row : List D} {r r1 : Run} {x : Str} (r0 : row[0]? = some (.str x)) (hin : cop [] .In (.str x) cWORDS = some false) (hin2 : cop [] .In (.str x) cCHANGES = some false) (ha : x ≠ "answer") (hg : Tells L (k + 3) "gone_on" [.tup row, r.d] S r1.d) :
    Tells L (k + 4) "done" [.tup row, r.d] S r1.d := by
  have hin : cop S .In (.str x) cWORDS = some false := hin
  have hin2 : cop S .In (.str x) cCHANGES = some false := hin2
  have ha : decide (x = "answer") = false := decide_eq_false ha
  refine (wFnL H.f_done rfl ?_)
  unfold Run.d at hg ⊢
  show XS _ _ t_done [_, _, none, none, none, none] S _
  repeat eq_refl
  refine pInK hin ?_
  repeat eq_refl
  refine pInK hin2 ?_
  repeat eq_refl
  refine hg.go ?_
  repeat eq_refl
  exact ⟨rfl, rfl⟩
theorem step_way {rows row : List D} {r r1 : Run} {x : Str} (he : r.en = .non) (hf : Tells L (k + 5) "_law_fault" [.tup rows, r.d] S .non) (hp : rows[r.pl]? = some (.tup row)) (r0 : row[0]? = some (.str x)) (h5 : (T5.any fun y => flatEq y (.str x)) = true)
    (hd : XC L (k + 5) "_law_way" [r.d, .tup row] S fun d S' => d = r1.d ∧ ∃ N, S' = S ++ N) : XC L (k + 6) "_law_step" [.tup rows, r.d] S fun d S' => d = ({ r1 with st := r.st + 1 } : Run).d ∧ ∃ N, S' = S ++ N := by
  unfold T5 at h5
  refine (wFnL H.f__law_step rfl ?_)
  show XS _ _ t__law_step [_, some (.tup [.tup (r.rg.map dn), .tup (r.sl.map dn), .tup (r.ct.map dn), dn r.pl, .tup (r.pk.map dn), .tup (r.tb.map Tab.d), dn r.ck, dn r.st, r.en, dn r.wr]), none, none, none, none] S _
  unfold Run.d at hf hd
  rw [he] at hf hd ⊢
  repeat eq_refl
  refine hf.go ?_
  repeat eq_refl
  refine hd.mono ?_
  rintro d S1 ⟨rfl, N, rfl⟩
  repeat eq_refl
  exact ⟨rfl, _, rfl⟩
theorem way_steps {x : Row} {row : List D} {nm : Str} {r1 : Run} (h : At rows r x) (hx : x.d = .tup row) (r0 : row[0]? = some (.str nm)) (ok1 : r1.Ok) (hs1 : r1.st = r.st)
    (hin : cop [] .In (.str nm) cWORDS = some false) (hin2 : cop [] .In (.str nm) cCHANGES = some false) (ha : nm ≠ "answer") (h5 : (T5.any fun y => flatEq y (.str nm)) = true)
    (hf : ∀ k S, Tells L (k + 4) "next_fault" [.tup (rows.map Row.d), r.d] S .non ∧ Tells L (k + 5) "_law_fault" [.tup (rows.map Row.d), r.d] S .non)
    (hg : ∀ k S, Tells L (k + 3) "gone_on" [.tup row, r.d] S r1.d)
    (hd : ∀ k S, XC L (k + 5) "_law_way" [r.d, .tup row] S fun d S' => d = r1.d ∧ ∃ N, S' = S ++ N) :
    ∃ r' : Run, r'.Ok ∧ Steps L rows r r' := by
  refine ⟨{ r1 with st := r.st + 1 }, ⟨ok1.rg, ok1.sl, ok1.ct, ok1.pl, ok1.pk, ok1.tb, ok1.ck, ok1.en, ok1.wr⟩, fun k S => ?_, fun k S => ?_, Nat.le_refl _⟩
  · exact step_prog (r1 := r1) h.en (hf k S).1 h.get (by rw [hx]; exact done_way r0 hin hin2 ha (hg _ _)) hs1
  · obtain ⟨d, S', e, q⟩ := step_way (L := L) (k := k + 2) (S := S) (r1 := r1) h.en (hf (k + 2) S).2 (by rw [h.get, hx]) r0 h5 (hd _ _)
    exact ⟨_, _, e, q⟩
theorem withPl {p : Nat} (hr : r.Ok) (hp : p ≤ 120) : ({ r with pl := p } : Run).Ok := ⟨hr.rg, hr.sl, hr.ct, hp, hr.pk, hr.tb, hr.ck, hr.en, hr.wr⟩
theorem s_jump {p : Nat} (h : At rows r (.jump p)) : ∃ r' : Run, r'.Ok ∧ Steps L rows r r' := by
  have hp : p < 120 := h.row
  refine way_steps (L := L) (r1 := { r with pl := p }) h rfl rfl (withPl h.ok (by omega)) rfl (by kernel_rfl) (by kernel_rfl) (by decide +kernel) (by decide +kernel) (calm_f h rfl (by unfold calm; decide +kernel)) (fun k S => ?_) (fun k S => ?_)
  · refine (wFnL H.f_gone_on rfl ?_)
    unfold Run.d
    show XS _ _ t_gone_on [_, _, none, none] S _
    repeat eq_refl
    refine (wFnL H.f_leads_to rfl ?_)
    show XS _ _ t_leads_to [_, _, none, none] S _
    repeat eq_refl
    refine (c_exch (l := [_, _, _, _, _, _, _, _, _, _]) (by simp) (by simp)).go ?_
    repeat eq_refl
    exact ⟨rfl, rfl⟩
  · refine (wFnL H.f__law_way rfl ?_)
    unfold Run.d
    show XS _ _ t__law_way [_, _, none, none, none, none] S _
    repeat eq_refl
    exact ⟨rfl, [], by simp⟩
end
end S1

set_option maxHeartbeats 4000000
namespace S1
open PySem PySem.Spec PyProof.Rows L2 Ev
local macro_rules
  | `(tactic| fail) => `(tactic| first
    | (refine (?_ : Ev.XE _ _ _ _ _); first | refine wVar rfl ?_ | refine wCst ?_ | refine wCallc rfl ?_ | refine wIdx ?_ | refine wBin ?_ | refine wCmp ?_ | refine wTup ?_ | refine wBlt ?_ | refine wNot ?_ | refine wAndE ?_ | refine wOrE ?_ | refine wIfE ?_ | refine wChain ?_ | refine wLst ?_ | refine wNewl ?_ | refine wNewc ?_ | refine wSlTo ?_ | refine wSlFrom ?_ | refine wSlBoth ?_ | refine wOnes ?_ | refine wCallkc rfl ?_ | refine wCalllc rfl rfl ?_ | refine wComp ?_ | refine wGenL rfl ?_ | refine wNeg ?_ | refine wInv ?_ | refine wBlen ?_)
    | (refine (?_ : Ev.XL _ _ _ _ _); first | refine wCons ?_ | refine wNil ?_)
    | (refine (?_ : Ev.XS _ _ _ _ _ _); first | refine yIf ?_ | refine yRet ?_ | refine yAsg ?_ | refine yNil ?_ | refine yPar ?_ | refine yTup ?_ | refine yExpr ?_ | refine yFor ?_ | refine yRetN ?_ | refine yAug rfl ?_ | refine yPass ?_ | refine yBrk ?_ | refine yCont ?_ | refine yWhile ?_)
    | (refine (?_ : Ev.PT _ _ _); first | refine tBl ?_ | refine tTup ?_ | refine tNon ?_)
    | (refine (?_ : Ev.PC _ _ _ _ _); first | refine pEqS ?_ | refine pEqN ?_ | refine pLt ?_ | refine pLe ?_ | refine pGt ?_ | refine pGe ?_ | refine pNeN ?_ | refine pNeS ?_ | refine pIsN ?_ | refine pIsNotN ?_ | refine zLt ?_ | refine zGt ?_ | refine zLe ?_ | refine zGe ?_ | refine pInT rfl ?_)
    | (refine (?_ : Ev.PI _ _ _ _); first | refine pTupI rfl ?_ | refine pLstI rfl ?_ | refine pRefI (by assumption) rfl ?_ | refine pTupZ rfl ?_)
    | (refine (?_ : Ev.PB _ _ _ _ _); first | refine pAdd ?_ | refine pCatT (Nat.le_of_ble_eq_true rfl) ?_ | refine zAnd32 ?_ | refine zAnd16 ?_ | refine zAnd16i ?_ | refine zAnd8 ?_ | refine zAnd5 ?_ | refine zAnd4 ?_ | refine pAnd ?_ | refine pOr ?_ | refine pXor ?_ | refine pShr ?_ | refine pSub (by omega) ?_ | refine pMod (by omega) ?_ | refine pDiv (by omega) (by omega) ?_ | refine pMul (by omega) ?_ | refine pShl (by omega) (by omega) ?_ | refine pPow (by omega) (by omega) ?_ | refine zAdd ?_ | refine zSub ?_ | refine zMul (by omega) ?_ | refine zMod (by omega) ?_ | refine zDiv (by omega) (by omega) ?_)
    | (refine (?_ : Ev.PF _ _ _ _); first | refine pLenT ?_ | refine pIntN ?_ | refine pIntB ?_ | refine pLenL ?_ | refine pMinN ?_ | refine pMaxN ?_ | refine pIsiNI ?_ | refine pIsiNB ?_ | refine pIsiTT ?_ | refine pIsiSS ?_ | refine pTupL ?_ | refine zInt ?_ | refine zAbs ?_ | refine zDm (by omega) (by omega) ?_ | refine pTupR (by assumption) ?_ | refine pLenR (by assumption) ?_ | refine pLenS ?_ | refine pAllT ?_)
    | (refine (?_ : Ev.RQ _ _ _ _); first | refine rqR ?_ | refine rqN ?_)
    | (refine (?_ : Ev.PL _ _ _ _ _); first | refine sFromT ?_ | refine sToT ?_ | refine sFromL ?_ | refine sToL ?_ | refine sToR ?_ | refine sMidT (by omega) (Nat.le_of_ble_eq_true rfl) ?_)
    | (refine (?_ : Ev.PR _ _ _ _); first | refine rT ?_ | refine rL ?_ | refine rN (by omega) ?_ | refine rN2 (by omega) (by omega) ?_ | refine rEn ?_ | refine rZip ?_)
    | (refine (?_ : Ev.LQ _ _ _ _ _ _ _); first | refine lqN ?_ | refine lqR ?_)
    | (refine (?_ : Ev.TQ _ _ _ _ _ _ _ _ _ _ _); first | refine tqN ?_ | refine tqC ?_ | refine tqB ?_ | refine tqR ?_)
    | (refine (?_ : Ev.WP _ _); refine WP.mk rfl ?_)
    | refine ifT rfl ?_
    | refine ifF rfl ?_
    | refine ifT' rfl ?_
    | refine ifF' rfl ?_
    | refine aLen (Nat.le_of_ble_eq_true rfl) ?_
    | refine Exists.intro _ (And.intro rfl ?_)
    | refine ifT (by decide +kernel) ?_
    | refine ifF (by decide +kernel) ?_
    | refine ifT' (by decide +kernel) ?_
    | refine ifF' (by decide +kernel) ?_)
local macro_rules
  | `(tactic| fail) => `(tactic| first
    | refine wGlobc rfl S1C.g_FIELDS ?_
    | refine wGlobc rfl S1C.g_BOUNDS ?_
    | refine wGlobc rfl S1C.g_WORDS ?_
    | refine wGlobc rfl S1C.g_CHANGES ?_
    | refine wGlobc rfl S1C.g_CONDITIONS ?_
    | refine wGlobc rfl S1C.g_HELPERS ?_
    | refine wGlobc rfl S1C.g_FAULTS ?_)
local macro_rules
  | `(tactic| eq_refl) => `(tactic| first
    | fail
    | refine ifT (by assumption) ?_
    | refine ifF (by assumption) ?_
    | refine ifT' (by assumption) ?_
    | refine ifF' (by assumption) ?_
    | refine pTupI (by assumption) ?_
    | refine pTupZ (by assumption) ?_
    | refine ifT (decide_eq_true (by (try simp only [List.length_map]); omega)) ?_
    | refine ifF (decide_eq_false (by (try simp only [List.length_map]); omega)) ?_
    | refine ifT' (decide_eq_true (by (try simp only [List.length_map]); omega)) ?_
    | refine ifF' (decide_eq_false (by (try simp only [List.length_map]); omega)) ?_
    | refine ifT (by simp only [Bool.not_eq_true', decide_eq_false_iff_not, List.length_map]; omega) ?_
    | refine ifF (by simp only [Bool.not_eq_false', decide_eq_true_eq, List.length_map]; omega) ?_
    | refine ifT' (by simp only [Bool.not_eq_true', decide_eq_false_iff_not, List.length_map]; omega) ?_
    | refine ifF' (by simp only [Bool.not_eq_false', decide_eq_true_eq, List.length_map]; omega) ?_)
variable {L : Lw} [H : S1T L] [C : S1C L] {k : Nat} {S : Sto}
section
variable {rows : List Row} {r : Run} {x : Row}
theorem s_when {c : Str} {a b p : Nat} (h : At rows r (.when c a b p)) : ∃ r' : Run, r'.Ok ∧ Steps L rows r r' := by
  obtain ⟨hc, ha, hb, hp⟩ := h.row
  obtain ⟨g1, g2⟩ := gg h.ok.rg.1 ha h.ok.rg.2
  obtain ⟨g3, g4⟩ := gg h.ok.rg.1 hb h.ok.rg.2
  have hpl := h.pl
  have hln := h.ln
  refine way_steps (L := L) (r1 := { r with pl := if rel c (r.rg.getD a 0) (r.rg.getD b 0) = true then p else r.pl + 1 }) h rfl rfl (withPl h.ok (by split <;> omega)) rfl (by kernel_rfl) (by kernel_rfl) (by decide +kernel) (by decide +kernel) (calm_f h rfl (by unfold calm; decide +kernel)) (fun k S => ?_) (fun k S => ?_)
  · refine (wFnL H.f_gone_on rfl ?_)
    unfold Run.d
    show XS _ _ t_gone_on [_, _, none, none] S _
    repeat eq_refl
    refine (wFnL H.f_leads_to rfl ?_)
    show XS _ _ t_leads_to [_, _, none, none] S _
    repeat eq_refl
    refine (c_related hc).go ?_
    cases hr : rel c (r.rg.getD a 0) (r.rg.getD b 0)
    · repeat eq_refl
      refine (c_exch (l := [_, _, _, _, _, _, _, _, _, _]) (by simp) (by simp)).go ?_
      repeat eq_refl
      exact ⟨rfl, rfl⟩
    · repeat eq_refl
      refine (c_exch (l := [_, _, _, _, _, _, _, _, _, _]) (by simp) (by simp)).go ?_
      repeat eq_refl
      exact ⟨rfl, rfl⟩
  · refine (wFnL H.f__law_way rfl ?_)
    unfold Run.d
    show XS _ _ t__law_way [_, _, none, none, none, none] S _
    repeat eq_refl
    refine (c_holds hc).mono ?_
    rintro d S1 ⟨rfl, N, rfl⟩
    cases hr : rel c (r.rg.getD a 0) (r.rg.getD b 0)
    · repeat eq_refl
      exact ⟨rfl, _, rfl⟩
    · repeat eq_refl
      exact ⟨rfl, _, rfl⟩
theorem s_whenn {c : Str} {a w p : Nat} (h : At rows r (.whenn c a w p)) : ∃ r' : Run, r'.Ok ∧ Steps L rows r r' := by
  obtain ⟨hc, ha, hw, hp⟩ := h.row
  obtain ⟨g1, g2⟩ := gg h.ok.rg.1 ha h.ok.rg.2
  have hpl := h.pl
  have hln := h.ln
  refine way_steps (L := L) (r1 := { r with pl := if rel c (r.rg.getD a 0) w = true then p else r.pl + 1 }) h rfl rfl (withPl h.ok (by split <;> omega)) rfl (by kernel_rfl) (by kernel_rfl) (by decide +kernel) (by decide +kernel) (calm_f h rfl (by unfold calm; decide +kernel)) (fun k S => ?_) (fun k S => ?_)
  · refine (wFnL H.f_gone_on rfl ?_)
    unfold Run.d
    show XS _ _ t_gone_on [_, _, none, none] S _
    repeat eq_refl
    refine (wFnL H.f_leads_to rfl ?_)
    show XS _ _ t_leads_to [_, _, none, none] S _
    repeat eq_refl
    refine (c_related hc).go ?_
    cases hr : rel c (r.rg.getD a 0) w
    · repeat eq_refl
      refine (c_exch (l := [_, _, _, _, _, _, _, _, _, _]) (by simp) (by simp)).go ?_
      repeat eq_refl
      exact ⟨rfl, rfl⟩
    · repeat eq_refl
      refine (c_exch (l := [_, _, _, _, _, _, _, _, _, _]) (by simp) (by simp)).go ?_
      repeat eq_refl
      exact ⟨rfl, rfl⟩
  · refine (wFnL H.f__law_way rfl ?_)
    unfold Run.d
    show XS _ _ t__law_way [_, _, none, none, none, none] S _
    repeat eq_refl
    refine (c_holds hc).mono ?_
    rintro d S1 ⟨rfl, N, rfl⟩
    cases hr : rel c (r.rg.getD a 0) w
    · repeat eq_refl
      exact ⟨rfl, _, rfl⟩
    · repeat eq_refl
      exact ⟨rfl, _, rfl⟩
end
end S1

set_option maxHeartbeats 4000000
namespace S1
open PySem PySem.Spec PyProof.Rows L2 Ev
local macro_rules
  | `(tactic| fail) => `(tactic| first
    | (refine (?_ : Ev.XE _ _ _ _ _); first | refine wVar rfl ?_ | refine wCst ?_ | refine wCallc rfl ?_ | refine wIdx ?_ | refine wBin ?_ | refine wCmp ?_ | refine wTup ?_ | refine wBlt ?_ | refine wNot ?_ | refine wAndE ?_ | refine wOrE ?_ | refine wIfE ?_ | refine wChain ?_ | refine wLst ?_ | refine wNewl ?_ | refine wNewc ?_ | refine wSlTo ?_ | refine wSlFrom ?_ | refine wSlBoth ?_ | refine wOnes ?_ | refine wCallkc rfl ?_ | refine wCalllc rfl rfl ?_ | refine wComp ?_ | refine wGenL rfl ?_ | refine wNeg ?_ | refine wInv ?_ | refine wBlen ?_)
    | (refine (?_ : Ev.XL _ _ _ _ _); first | refine wCons ?_ | refine wNil ?_)
    | (refine (?_ : Ev.XS _ _ _ _ _ _); first | refine yIf ?_ | refine yRet ?_ | refine yAsg ?_ | refine yNil ?_ | refine yPar ?_ | refine yTup ?_ | refine yExpr ?_ | refine yFor ?_ | refine yRetN ?_ | refine yAug rfl ?_ | refine yPass ?_ | refine yBrk ?_ | refine yCont ?_ | refine yWhile ?_)
    | (refine (?_ : Ev.PT _ _ _); first | refine tBl ?_ | refine tTup ?_ | refine tNon ?_)
    | (refine (?_ : Ev.PC _ _ _ _ _); first | refine pEqS ?_ | refine pEqN ?_ | refine pLt ?_ | refine pLe ?_ | refine pGt ?_ | refine pGe ?_ | refine pNeN ?_ | refine pNeS ?_ | refine pIsN ?_ | refine pIsNotN ?_ | refine zLt ?_ | refine zGt ?_ | refine zLe ?_ | refine zGe ?_ | refine pInT rfl ?_)
    | (refine (?_ : Ev.PI _ _ _ _); first | refine pTupI rfl ?_ | refine pLstI rfl ?_ | refine pRefI (by assumption) rfl ?_ | refine pTupZ rfl ?_)
    | (refine (?_ : Ev.PB _ _ _ _ _); first | refine pAdd ?_ | refine pCatT (Nat.le_of_ble_eq_true rfl) ?_ | refine zAnd32 ?_ | refine zAnd16 ?_ | refine zAnd16i ?_ | refine zAnd8 ?_ | refine zAnd5 ?_ | refine zAnd4 ?_ | refine pAnd ?_ | refine pOr ?_ | refine pXor ?_ | refine pShr ?_ | refine pSub (by omega) ?_ | refine pMod (by omega) ?_ | refine pDiv (by omega) (by omega) ?_ | refine pMul (by omega) ?_ | refine pShl (by omega) (by omega) ?_ | refine pPow (by omega) (by omega) ?_ | refine zAdd ?_ | refine zSub ?_ | refine zMul (by omega) ?_ | refine zMod (by omega) ?_ | refine zDiv (by omega) (by omega) ?_)
    | (refine (?_ : Ev.PF _ _ _ _); first | refine pLenT ?_ | refine pIntN ?_ | refine pIntB ?_ | refine pLenL ?_ | refine pMinN ?_ | refine pMaxN ?_ | refine pIsiNI ?_ | refine pIsiNB ?_ | refine pIsiTT ?_ | refine pIsiSS ?_ | refine pTupL ?_ | refine zInt ?_ | refine zAbs ?_ | refine zDm (by omega) (by omega) ?_ | refine pTupR (by assumption) ?_ | refine pLenR (by assumption) ?_ | refine pLenS ?_ | refine pAllT ?_)
    | (refine (?_ : Ev.RQ _ _ _ _); first | refine rqR ?_ | refine rqN ?_)
    | (refine (?_ : Ev.PL _ _ _ _ _); first | refine sFromT ?_ | refine sToT ?_ | refine sFromL ?_ | refine sToL ?_ | refine sToR ?_ | refine sMidT (by omega) (Nat.le_of_ble_eq_true rfl) ?_)
    | (refine (?_ : Ev.PR _ _ _ _); first | refine rT ?_ | refine rL ?_ | refine rN (by omega) ?_ | refine rN2 (by omega) (by omega) ?_ | refine rEn ?_ | refine rZip ?_)
    | (refine (?_ : Ev.LQ _ _ _ _ _ _ _); first | refine lqN ?_ | refine lqR ?_)
    | (refine (?_ : Ev.TQ _ _ _ _ _ _ _ _ _ _ _); first | refine tqN ?_ | refine tqC ?_ | refine tqB ?_ | refine tqR ?_)
    | (refine (?_ : Ev.WP _ _); refine WP.mk rfl ?_)
    | refine ifT rfl ?_
    | refine ifF rfl ?_
    | refine ifT' rfl ?_
    | refine ifF' rfl ?_
    | refine aLen (Nat.le_of_ble_eq_true rfl) ?_
    | refine Exists.intro _ (And.intro rfl ?_)
    | refine ifT (by decide +kernel) ?_
    | refine ifF (by decide +kernel) ?_
    | refine ifT' (by decide +kernel) ?_
    | refine ifF' (by decide +kernel) ?_)
local macro_rules
  | `(tactic| fail) => `(tactic| first
    | refine wGlobc rfl S1C.g_FIELDS ?_
    | refine wGlobc rfl S1C.g_BOUNDS ?_
    | refine wGlobc rfl S1C.g_WORDS ?_
    | refine wGlobc rfl S1C.g_CHANGES ?_
    | refine wGlobc rfl S1C.g_CONDITIONS ?_
    | refine wGlobc rfl S1C.g_HELPERS ?_
    | refine wGlobc rfl S1C.g_FAULTS ?_)
local macro_rules
  | `(tactic| eq_refl) => `(tactic| first
    | fail
    | refine ifT (by assumption) ?_
    | refine ifF (by assumption) ?_
    | refine ifT' (by assumption) ?_
    | refine ifF' (by assumption) ?_
    | refine pTupI (by assumption) ?_
    | refine pTupZ (by assumption) ?_
    | refine ifT (decide_eq_true (by (try simp only [List.length_map]); omega)) ?_
    | refine ifF (decide_eq_false (by (try simp only [List.length_map]); omega)) ?_
    | refine ifT' (decide_eq_true (by (try simp only [List.length_map]); omega)) ?_
    | refine ifF' (decide_eq_false (by (try simp only [List.length_map]); omega)) ?_
    | refine ifT (by simp only [Bool.not_eq_true', decide_eq_false_iff_not, List.length_map]; omega) ?_
    | refine ifF (by simp only [Bool.not_eq_false', decide_eq_true_eq, List.length_map]; omega) ?_
    | refine ifT' (by simp only [Bool.not_eq_true', decide_eq_false_iff_not, List.length_map]; omega) ?_
    | refine ifF' (by simp only [Bool.not_eq_false', decide_eq_true_eq, List.length_map]; omega) ?_)
variable {L : Lw} [H : S1T L] [C : S1C L] {k : Nat} {S : Sto}
section
variable {rows : List Row} {r : Run} {x : Row}
theorem ggc {l : List Nat} {i n : Nat} (hl : l.length = n) (h : i < n) : (l.map dn)[i]? = some (dn (l.getD i 0)) := gget (by omega)
theorem s_again {c m p : Nat} (h : At rows r (.again c m p)) : ∃ r' : Run, r'.Ok ∧ Steps L rows r r' := by
  obtain ⟨hc, m1, m2, hp⟩ := h.row
  have g1 := ggc h.ok.ct.1 hc
  have hpl := h.pl
  have hln := h.ln
  have hr := h.ok
  have hcl : c < r.ct.length := by rw [hr.ct.1]; exact hc
  by_cases hlt : r.ct.getD c 0 < m
  · have ok1 : ({ r with ct := r.ct.set c (r.ct.getD c 0 + 1), pl := p } : Run).Ok := ⟨hr.rg, hr.sl, ⟨by rw [List.length_set]; exact hr.ct.1, fun n hn => by
      rcases List.mem_or_eq_of_mem_set hn with h2 | h2
      · exact hr.ct.2 n h2
      · omega⟩, by show p ≤ 120; omega, hr.pk, hr.tb, hr.ck, hr.en, hr.wr⟩
    refine way_steps (L := L) (r1 := { r with ct := r.ct.set c (r.ct.getD c 0 + 1), pl := p }) h rfl rfl ok1 rfl (by kernel_rfl) (by kernel_rfl) (by decide +kernel) (by decide +kernel) (calm_f h rfl (by unfold calm; decide +kernel)) (fun k S => ?_) (fun k S => ?_)
    · refine (wFnL H.f_gone_on rfl ?_)
      unfold Run.d
      show XS _ _ t_gone_on [_, _, none, none] S _
      repeat eq_refl
      refine (wFnL H.f_leads_to rfl ?_)
      show XS _ _ t_leads_to [_, _, none, none] S _
      repeat eq_refl
      refine (c_exch (by rw [List.length_map]; exact hcl) (by rw [List.length_map, hr.ct.1]; decide)).go ?_
      rw [mapSet]
      repeat eq_refl
      refine (c_exch (l := [_, _, _, _, _, _, _, _, _, _]) (by simp) (by simp)).go ?_
      repeat eq_refl
      refine (c_exch (l := [_, _, _, _, _, _, _, _, _, _]) (by simp) (by simp)).go ?_
      repeat eq_refl
      exact ⟨rfl, rfl⟩
    · refine (wFnL H.f__law_way rfl ?_)
      unfold Run.d
      show XS _ _ t__law_way [_, _, none, none, none, none] S _
      repeat eq_refl
      refine (c_put (by rw [List.length_map]; exact hcl) (by rw [List.length_map, hr.ct.1]; decide)).go ?_
      rw [mapSet]
      repeat eq_refl
      exact ⟨rfl, [], by simp⟩
  · refine way_steps (L := L) (r1 := { r with pl := r.pl + 1 }) h rfl rfl (withPl h.ok (by omega)) rfl (by kernel_rfl) (by kernel_rfl) (by decide +kernel) (by decide +kernel) (calm_f h rfl (by unfold calm; decide +kernel)) (fun k S => ?_) (fun k S => ?_)
    · refine (wFnL H.f_gone_on rfl ?_)
      unfold Run.d
      show XS _ _ t_gone_on [_, _, none, none] S _
      repeat eq_refl
      refine (wFnL H.f_leads_to rfl ?_)
      show XS _ _ t_leads_to [_, _, none, none] S _
      repeat eq_refl
      refine (c_exch (l := [_, _, _, _, _, _, _, _, _, _]) (by simp) (by simp)).go ?_
      repeat eq_refl
      exact ⟨rfl, rfl⟩
    · refine (wFnL H.f__law_way rfl ?_)
      unfold Run.d
      show XS _ _ t__law_way [_, _, none, none, none, none] S _
      repeat eq_refl
      exact ⟨rfl, [], by simp⟩
theorem s_answer {a : Nat} (h : At rows r (.answer a)) : ∃ r' : Run, r'.Ok ∧ Steps L rows r r' := by
  have ha : a < 8 := h.row
  obtain ⟨g1, g2⟩ := gg h.ok.rg.1 ha h.ok.rg.2
  have hr := h.ok
  have hf := calm_f (L := L) h rfl (by unfold calm; decide +kernel)
  refine ⟨{ r with en := .tup [.str "answer", dn (r.rg.getD a 0)], st := r.st + 1 }, ⟨hr.rg, hr.sl, hr.ct, hr.pl, hr.pk, hr.tb, hr.ck, .ans _ g2, hr.wr⟩, fun k S => ?_, fun k S => ?_, Nat.le_refl _⟩
  · refine step_prog (r1 := { r with en := .tup [.str "answer", dn (r.rg.getD a 0)] }) h.en (hf k S).1 h.get ?_ rfl
    refine (wFnL H.f_done rfl ?_)
    unfold Run.d
    have hin : cop S .In (.str "answer") cWORDS = some false := (by kernel_rfl : cop [] .In (.str "answer") cWORDS = some false)
    have hin2 : cop S .In (.str "answer") cCHANGES = some false := (by kernel_rfl : cop [] .In (.str "answer") cCHANGES = some false)
    show XS _ _ t_done [_, _, none, none, none, none] S _
    repeat eq_refl
    refine pInK hin ?_
    repeat eq_refl
    refine pInK hin2 ?_
    repeat eq_refl
    refine (c_exch (l := [_, _, _, _, _, _, _, _, _, _]) (by simp) (by simp)).go ?_
    repeat eq_refl
    exact ⟨rfl, rfl⟩
  · obtain ⟨d, S', e, q⟩ := step_way (L := L) (k := k + 2) (S := S) (r1 := { r with en := .tup [.str "answer", dn (r.rg.getD a 0)] }) h.en (hf (k + 2) S).2 h.get rfl (by decide +kernel) (by
      refine (wFnL H.f__law_way rfl ?_)
      unfold Run.d
      show XS _ _ t__law_way [_, _, none, none, none, none] S _
      repeat eq_refl
      exact ⟨rfl, [], by simp⟩)
    exact ⟨_, _, e, q⟩
end
end S1

set_option maxHeartbeats 4000000
namespace S1
open PySem PySem.Spec PyProof.Rows L2 Ev
local macro_rules
  | `(tactic| fail) => `(tactic| first
    | (refine (?_ : Ev.XE _ _ _ _ _); first | refine wVar rfl ?_ | refine wCst ?_ | refine wCallc rfl ?_ | refine wIdx ?_ | refine wBin ?_ | refine wCmp ?_ | refine wTup ?_ | refine wBlt ?_ | refine wNot ?_ | refine wAndE ?_ | refine wOrE ?_ | refine wIfE ?_ | refine wChain ?_ | refine wLst ?_ | refine wNewl ?_ | refine wNewc ?_ | refine wSlTo ?_ | refine wSlFrom ?_ | refine wSlBoth ?_ | refine wOnes ?_ | refine wCallkc rfl ?_ | refine wCalllc rfl rfl ?_ | refine wComp ?_ | refine wGenL rfl ?_ | refine wNeg ?_ | refine wInv ?_ | refine wBlen ?_)
    | (refine (?_ : Ev.XL _ _ _ _ _); first | refine wCons ?_ | refine wNil ?_)
    | (refine (?_ : Ev.XS _ _ _ _ _ _); first | refine yIf ?_ | refine yRet ?_ | refine yAsg ?_ | refine yNil ?_ | refine yPar ?_ | refine yTup ?_ | refine yExpr ?_ | refine yFor ?_ | refine yRetN ?_ | refine yAug rfl ?_ | refine yPass ?_ | refine yBrk ?_ | refine yCont ?_ | refine yWhile ?_)
    | (refine (?_ : Ev.PT _ _ _); first | refine tBl ?_ | refine tTup ?_ | refine tNon ?_)
    | (refine (?_ : Ev.PC _ _ _ _ _); first | refine pEqS ?_ | refine pEqN ?_ | refine pLt ?_ | refine pLe ?_ | refine pGt ?_ | refine pGe ?_ | refine pNeN ?_ | refine pNeS ?_ | refine pIsN ?_ | refine pIsNotN ?_ | refine zLt ?_ | refine zGt ?_ | refine zLe ?_ | refine zGe ?_ | refine pInT rfl ?_)
    | (refine (?_ : Ev.PI _ _ _ _); first | refine pTupI rfl ?_ | refine pLstI rfl ?_ | refine pRefI (by assumption) rfl ?_ | refine pTupZ rfl ?_)
    | (refine (?_ : Ev.PB _ _ _ _ _); first | refine pAdd ?_ | refine pCatT (Nat.le_of_ble_eq_true rfl) ?_ | refine zAnd32 ?_ | refine zAnd16 ?_ | refine zAnd16i ?_ | refine zAnd8 ?_ | refine zAnd5 ?_ | refine zAnd4 ?_ | refine pAnd ?_ | refine pOr ?_ | refine pXor ?_ | refine pShr ?_ | refine pSub (by omega) ?_ | refine pMod (by omega) ?_ | refine pDiv (by omega) (by omega) ?_ | refine pMul (by omega) ?_ | refine pShl (by omega) (by omega) ?_ | refine pPow (by omega) (by omega) ?_ | refine zAdd ?_ | refine zSub ?_ | refine zMul (by omega) ?_ | refine zMod (by omega) ?_ | refine zDiv (by omega) (by omega) ?_)
    | (refine (?_ : Ev.PF _ _ _ _); first | refine pLenT ?_ | refine pIntN ?_ | refine pIntB ?_ | refine pLenL ?_ | refine pMinN ?_ | refine pMaxN ?_ | refine pIsiNI ?_ | refine pIsiNB ?_ | refine pIsiTT ?_ | refine pIsiSS ?_ | refine pTupL ?_ | refine zInt ?_ | refine zAbs ?_ | refine zDm (by omega) (by omega) ?_ | refine pTupR (by assumption) ?_ | refine pLenR (by assumption) ?_ | refine pLenS ?_ | refine pAllT ?_)
    | (refine (?_ : Ev.RQ _ _ _ _); first | refine rqR ?_ | refine rqN ?_)
    | (refine (?_ : Ev.PL _ _ _ _ _); first | refine sFromT ?_ | refine sToT ?_ | refine sFromL ?_ | refine sToL ?_ | refine sToR ?_ | refine sMidT (by omega) (Nat.le_of_ble_eq_true rfl) ?_)
    | (refine (?_ : Ev.PR _ _ _ _); first | refine rT ?_ | refine rL ?_ | refine rN (by omega) ?_ | refine rN2 (by omega) (by omega) ?_ | refine rEn ?_ | refine rZip ?_)
    | (refine (?_ : Ev.LQ _ _ _ _ _ _ _); first | refine lqN ?_ | refine lqR ?_)
    | (refine (?_ : Ev.TQ _ _ _ _ _ _ _ _ _ _ _); first | refine tqN ?_ | refine tqC ?_ | refine tqB ?_ | refine tqR ?_)
    | (refine (?_ : Ev.WP _ _); refine WP.mk rfl ?_)
    | refine ifT rfl ?_
    | refine ifF rfl ?_
    | refine ifT' rfl ?_
    | refine ifF' rfl ?_
    | refine aLen (Nat.le_of_ble_eq_true rfl) ?_
    | refine Exists.intro _ (And.intro rfl ?_)
    | refine ifT (by decide +kernel) ?_
    | refine ifF (by decide +kernel) ?_
    | refine ifT' (by decide +kernel) ?_
    | refine ifF' (by decide +kernel) ?_)
local macro_rules
  | `(tactic| fail) => `(tactic| first
    | refine wGlobc rfl S1C.g_FIELDS ?_
    | refine wGlobc rfl S1C.g_BOUNDS ?_
    | refine wGlobc rfl S1C.g_WORDS ?_
    | refine wGlobc rfl S1C.g_CHANGES ?_
    | refine wGlobc rfl S1C.g_CONDITIONS ?_
    | refine wGlobc rfl S1C.g_HELPERS ?_
    | refine wGlobc rfl S1C.g_FAULTS ?_)
local macro_rules
  | `(tactic| eq_refl) => `(tactic| first
    | fail
    | refine ifT (by assumption) ?_
    | refine ifF (by assumption) ?_
    | refine ifT' (by assumption) ?_
    | refine ifF' (by assumption) ?_
    | refine pTupI (by assumption) ?_
    | refine pTupZ (by assumption) ?_
    | refine ifT (decide_eq_true (by (try simp only [List.length_map]); omega)) ?_
    | refine ifF (decide_eq_false (by (try simp only [List.length_map]); omega)) ?_
    | refine ifT' (decide_eq_true (by (try simp only [List.length_map]); omega)) ?_
    | refine ifF' (decide_eq_false (by (try simp only [List.length_map]); omega)) ?_
    | refine ifT (by simp only [Bool.not_eq_true', decide_eq_false_iff_not, List.length_map]; omega) ?_
    | refine ifF (by simp only [Bool.not_eq_false', decide_eq_true_eq, List.length_map]; omega) ?_
    | refine ifT' (by simp only [Bool.not_eq_true', decide_eq_false_iff_not, List.length_map]; omega) ?_
    | refine ifF' (by simp only [Bool.not_eq_false', decide_eq_true_eq, List.length_map]; omega) ?_)
variable {L : Lw} [H : S1T L] [C : S1C L] {k : Nat} {S : Sto}
section
variable {rows : List Row} {r : Run} {x : Row}
/-- both tell the same fault of the row at hand -/
theorem fault_both (hr : r.Ok) (hx : x.Ok) (h : rows[r.pl]? = some x) (k : Nat) (S : Sto) : Tells L (k + 2) "next_fault" [.tup (rows.map Row.d), r.d] S (optS (x.fault r)) ∧ Tells L (k + 2) "_law_fault" [.tup (rows.map Row.d), r.d] S (optS (x.fault r)) := by
  have g : (rows.map Row.d)[r.pl]? = some x.d := by rw [List.getElem?_map, h]; rfl
  have r8 := hr.rg.1
  cases x with
  | set a w => exact calm_both g (by unfold calm; decide +kernel)
  | move a w => exact calm_both g (by unfold calm; decide +kernel)
  | length a => exact calm_both g (by unfold calm; decide +kernel)
  | take a w => exact calm_both g (by unfold calm; decide +kernel)
  | keep a w => exact calm_both g (by unfold calm; decide +kernel)
  | alu o a b => exact calm_both g (calm_alu o hx.1)
  | aln o a b => exact calm_both g (calm_aln o hx.1)
  | shn o a b => exact calm_both g (calm_shn o hx.1)
  | mem o a b s => exact mem_both g hx.1 (by rw [r8]; exact hx.2.2.1)
  | tab o a t b =>
    have ho := hx.1
    have hb : b < r.rg.length := by rw [r8]; exact hx.2.2.2
    simp only [tabs, List.mem_cons, List.not_mem_nil, or_false] at ho
    rcases ho with rfl | rfl | rfl | rfl | rfl
    · rw [tabNo (o := "cell") (wa := true) (chg := false) (hnd := false) (by simp [tabKinds]) (by decide +kernel)]
      exact tk_both g (by simp [tabKinds]) rfl rfl rfl rfl (fun e => absurd e (by decide +kernel)) (fun _ => rfl) hb
    · rw [tabNo (o := "fill") (wa := true) (chg := true) (hnd := false) (by simp [tabKinds]) (by decide +kernel)]
      exact tk_both g (by simp [tabKinds]) rfl rfl rfl rfl (fun e => absurd e (by decide +kernel)) (fun _ => rfl) hb
    · rw [tabNo (o := "find") (wa := false) (chg := false) (hnd := false) (by simp [tabKinds]) (by decide +kernel)]
      exact tk_both g (by simp [tabKinds]) rfl rfl rfl rfl (fun e => absurd e (by decide +kernel)) (fun _ => rfl) hb
    · rw [tabNo (o := "value") (wa := false) (chg := false) (hnd := true) (by simp [tabKinds]) (by decide +kernel)]
      exact tk_both g (by simp [tabKinds]) rfl rfl rfl rfl (fun e => absurd e (by decide +kernel)) (fun _ => rfl) hb
    · rw [tabNo (o := "change") (wa := false) (chg := true) (hnd := true) (by simp [tabKinds]) (by decide +kernel)]
      exact tk_both g (by simp [tabKinds]) rfl rfl rfl rfl (fun e => absurd e (by decide +kernel)) (fun _ => rfl) hb
  | count t b => exact tk_both g (by simp [tabKinds]) rfl rfl rfl rfl (fun _ => rfl) (fun e => absurd rfl e) (by rw [r8]; exact hx.2)
  | ask o a b => exact calm_both g (by unfold calm; decide +kernel)
  | jump p => exact calm_both g (by unfold calm; decide +kernel)
  | when c a b p => exact calm_both g (by unfold calm; decide +kernel)
  | whenn c a b p => exact calm_both g (by unfold calm; decide +kernel)
  | begin c => exact calm_both g (by unfold calm; decide +kernel)
  | again c m p => exact calm_both g (by unfold calm; decide +kernel)
  | answer a => exact calm_both g (by unfold calm; decide +kernel)
theorem place_both (h : rows.length ≤ r.pl) (k : Nat) (S : Sto) : Tells L (k + 2) "next_fault" [.tup (rows.map Row.d), r.d] S (.str "place") ∧ Tells L (k + 2) "_law_fault" [.tup (rows.map Row.d), r.d] S (.str "place") := by
  have hl : (rows.map Row.d).length ≤ r.pl := by rw [List.length_map]; exact h
  constructor
  · refine (wFnL H.f_next_fault rfl ?_)
    unfold Run.d
    show XS _ _ t_next_fault [_, _, none] S _
    repeat eq_refl
    exact ⟨rfl, rfl⟩
  · refine (wFnL H.f__law_fault rfl ?_)
    unfold Run.d
    show XS _ _ t__law_fault [_, _, none, none, none] S _
    repeat eq_refl
    exact ⟨rfl, rfl⟩
theorem fault_stepsX {f : Str} (hr : r.Ok) (he : r.en = .non) (hfl : f ∈ faults) (hf : ∀ k S, Tells L (k + 2) "next_fault" [.tup (rows.map Row.d), r.d] S (.str f) ∧ Tells L (k + 2) "_law_fault" [.tup (rows.map Row.d), r.d] S (.str f)) : ({ r with en := .tup [.str "fault", .str f], st := r.st + 1 } : Run).Ok ∧ Steps L rows r { r with en := .tup [.str "fault", .str f], st := r.st + 1 } := by
  refine ⟨⟨hr.rg, hr.sl, hr.ct, hr.pl, hr.pk, hr.tb, hr.ck, .flt f hfl, hr.wr⟩, fun k S => ?_, fun k S => ?_, Nat.le_refl _⟩
  · have hf := (hf (k + 2) S).1
    refine (wFnL H.f_stepped rfl ?_)
    unfold Run.d at hf ⊢
    rw [he] at hf ⊢
    show XS _ _ t_stepped [_, _, none] S _
    repeat eq_refl
    refine hf.go ?_
    repeat eq_refl
    refine (c_exch (l := [_, _, _, _, _, _, _, _, _, _]) (by simp) (by simp)).go ?_
    repeat eq_refl
    refine (c_exch (l := [_, _, _, _, _, _, _, _, _, _]) (by simp) (by simp)).go ?_
    repeat eq_refl
    exact ⟨rfl, rfl⟩
  · have hf := (hf (k + 5) S).2
    have t : Tells L (k + 8) "_law_step" [.tup (rows.map Row.d), r.d] S ({ r with en := .tup [.str "fault", .str f], st := r.st + 1 } : Run).d := by
      refine (wFnL H.f__law_step rfl ?_)
      unfold Run.d at hf ⊢
      rw [he] at hf ⊢
      show XS _ _ t__law_step [_, _, none, none, none, none] S _
      repeat eq_refl
      refine hf.go ?_
      repeat eq_refl
      exact ⟨rfl, rfl⟩
    obtain ⟨d, S', e, rfl, rfl⟩ := t
    exact ⟨_, _, e, rfl, [], by simp⟩
theorem fault_steps {f : Str} (hr : r.Ok) (he : r.en = .non) (hfl : f ∈ faults) (hf : ∀ k S, Tells L (k + 2) "next_fault" [.tup (rows.map Row.d), r.d] S (.str f) ∧ Tells L (k + 2) "_law_fault" [.tup (rows.map Row.d), r.d] S (.str f)) : ∃ r' : Run, r'.Ok ∧ Steps L rows r r' := ⟨_, (fault_stepsX hr he hfl hf).1, (fault_stepsX hr he hfl hf).2⟩
end
end S1

set_option maxHeartbeats 4000000
namespace S1
open PySem PySem.Spec PyProof.Rows L2 Ev
local macro_rules
  | `(tactic| fail) => `(tactic| first
    | (refine (?_ : Ev.XE _ _ _ _ _); first | refine wVar rfl ?_ | refine wCst ?_ | refine wCallc rfl ?_ | refine wIdx ?_ | refine wBin ?_ | refine wCmp ?_ | refine wTup ?_ | refine wBlt ?_ | refine wNot ?_ | refine wAndE ?_ | refine wOrE ?_ | refine wIfE ?_ | refine wChain ?_ | refine wLst ?_ | refine wNewl ?_ | refine wNewc ?_ | refine wSlTo ?_ | refine wSlFrom ?_ | refine wSlBoth ?_ | refine wOnes ?_ | refine wCallkc rfl ?_ | refine wCalllc rfl rfl ?_ | refine wComp ?_ | refine wGenL rfl ?_ | refine wNeg ?_ | refine wInv ?_ | refine wBlen ?_)
    | (refine (?_ : Ev.XL _ _ _ _ _); first | refine wCons ?_ | refine wNil ?_)
    | (refine (?_ : Ev.XS _ _ _ _ _ _); first | refine yIf ?_ | refine yRet ?_ | refine yAsg ?_ | refine yNil ?_ | refine yPar ?_ | refine yTup ?_ | refine yExpr ?_ | refine yFor ?_ | refine yRetN ?_ | refine yAug rfl ?_ | refine yPass ?_ | refine yBrk ?_ | refine yCont ?_ | refine yWhile ?_)
    | (refine (?_ : Ev.PT _ _ _); first | refine tBl ?_ | refine tTup ?_ | refine tNon ?_)
    | (refine (?_ : Ev.PC _ _ _ _ _); first | refine pEqS ?_ | refine pEqN ?_ | refine pLt ?_ | refine pLe ?_ | refine pGt ?_ | refine pGe ?_ | refine pNeN ?_ | refine pNeS ?_ | refine pIsN ?_ | refine pIsNotN ?_ | refine zLt ?_ | refine zGt ?_ | refine zLe ?_ | refine zGe ?_ | refine pInT rfl ?_)
    | (refine (?_ : Ev.PI _ _ _ _); first | refine pTupI rfl ?_ | refine pLstI rfl ?_ | refine pRefI (by assumption) rfl ?_ | refine pTupZ rfl ?_)
    | (refine (?_ : Ev.PB _ _ _ _ _); first | refine pAdd ?_ | refine pCatT (Nat.le_of_ble_eq_true rfl) ?_ | refine zAnd32 ?_ | refine zAnd16 ?_ | refine zAnd16i ?_ | refine zAnd8 ?_ | refine zAnd5 ?_ | refine zAnd4 ?_ | refine pAnd ?_ | refine pOr ?_ | refine pXor ?_ | refine pShr ?_ | refine pSub (by omega) ?_ | refine pMod (by omega) ?_ | refine pDiv (by omega) (by omega) ?_ | refine pMul (by omega) ?_ | refine pShl (by omega) (by omega) ?_ | refine pPow (by omega) (by omega) ?_ | refine zAdd ?_ | refine zSub ?_ | refine zMul (by omega) ?_ | refine zMod (by omega) ?_ | refine zDiv (by omega) (by omega) ?_)
    | (refine (?_ : Ev.PF _ _ _ _); first | refine pLenT ?_ | refine pIntN ?_ | refine pIntB ?_ | refine pLenL ?_ | refine pMinN ?_ | refine pMaxN ?_ | refine pIsiNI ?_ | refine pIsiNB ?_ | refine pIsiTT ?_ | refine pIsiSS ?_ | refine pTupL ?_ | refine zInt ?_ | refine zAbs ?_ | refine zDm (by omega) (by omega) ?_ | refine pTupR (by assumption) ?_ | refine pLenR (by assumption) ?_ | refine pLenS ?_ | refine pAllT ?_)
    | (refine (?_ : Ev.RQ _ _ _ _); first | refine rqR ?_ | refine rqN ?_)
    | (refine (?_ : Ev.PL _ _ _ _ _); first | refine sFromT ?_ | refine sToT ?_ | refine sFromL ?_ | refine sToL ?_ | refine sToR ?_ | refine sMidT (by omega) (Nat.le_of_ble_eq_true rfl) ?_)
    | (refine (?_ : Ev.PR _ _ _ _); first | refine rT ?_ | refine rL ?_ | refine rN (by omega) ?_ | refine rN2 (by omega) (by omega) ?_ | refine rEn ?_ | refine rZip ?_)
    | (refine (?_ : Ev.LQ _ _ _ _ _ _ _); first | refine lqN ?_ | refine lqR ?_)
    | (refine (?_ : Ev.TQ _ _ _ _ _ _ _ _ _ _ _); first | refine tqN ?_ | refine tqC ?_ | refine tqB ?_ | refine tqR ?_)
    | (refine (?_ : Ev.WP _ _); refine WP.mk rfl ?_)
    | refine ifT rfl ?_
    | refine ifF rfl ?_
    | refine ifT' rfl ?_
    | refine ifF' rfl ?_
    | refine aLen (Nat.le_of_ble_eq_true rfl) ?_
    | refine Exists.intro _ (And.intro rfl ?_)
    | refine ifT (by decide +kernel) ?_
    | refine ifF (by decide +kernel) ?_
    | refine ifT' (by decide +kernel) ?_
    | refine ifF' (by decide +kernel) ?_)
local macro_rules
  | `(tactic| fail) => `(tactic| first
    | refine wGlobc rfl S1C.g_FIELDS ?_
    | refine wGlobc rfl S1C.g_BOUNDS ?_
    | refine wGlobc rfl S1C.g_WORDS ?_
    | refine wGlobc rfl S1C.g_CHANGES ?_
    | refine wGlobc rfl S1C.g_CONDITIONS ?_
    | refine wGlobc rfl S1C.g_HELPERS ?_
    | refine wGlobc rfl S1C.g_FAULTS ?_)
local macro_rules
  | `(tactic| eq_refl) => `(tactic| first
    | fail
    | refine ifT (by assumption) ?_
    | refine ifF (by assumption) ?_
    | refine ifT' (by assumption) ?_
    | refine ifF' (by assumption) ?_
    | refine pTupI (by assumption) ?_
    | refine pTupZ (by assumption) ?_
    | refine ifT (decide_eq_true (by (try simp only [List.length_map]); omega)) ?_
    | refine ifF (decide_eq_false (by (try simp only [List.length_map]); omega)) ?_
    | refine ifT' (decide_eq_true (by (try simp only [List.length_map]); omega)) ?_
    | refine ifF' (decide_eq_false (by (try simp only [List.length_map]); omega)) ?_
    | refine ifT (by simp only [Bool.not_eq_true', decide_eq_false_iff_not, List.length_map]; omega) ?_
    | refine ifF (by simp only [Bool.not_eq_false', decide_eq_true_eq, List.length_map]; omega) ?_
    | refine ifT' (by simp only [Bool.not_eq_true', decide_eq_false_iff_not, List.length_map]; omega) ?_
    | refine ifF' (by simp only [Bool.not_eq_false', decide_eq_true_eq, List.length_map]; omega) ?_)
variable {L : Lw} [H : S1T L] [C : S1C L] {k : Nat} {S : Sto}
section
variable {rows : List Row} {r : Run} {x : Row}
theorem ended_stepsX (hr : r.Ok) (he : r.en ≠ .non) : Steps L rows r r := by
  have ht : ∃ l, r.en = .tup l := by
    have := hr.en
    generalize r.en = d at *
    cases this with
    | non => exact absurd rfl he
    | ans w h => exact ⟨_, rfl⟩
    | flt f h => exact ⟨_, rfl⟩
  obtain ⟨l, hl⟩ := ht
  refine ⟨fun k S => ?_, fun k S => ?_, Nat.le_succ _⟩
  · refine (wFnL H.f_stepped rfl ?_)
    unfold Run.d
    rw [hl]
    show XS _ _ t_stepped [_, _, none] S _
    repeat eq_refl
    exact ⟨rfl, rfl⟩
  · have t : Tells L (k + 8) "_law_step" [.tup (rows.map Row.d), r.d] S r.d := by
      refine (wFnL H.f__law_step rfl ?_)
      unfold Run.d
      rw [hl]
      show XS _ _ t__law_step [_, _, none, none, none, none] S _
      repeat eq_refl
      exact ⟨rfl, rfl⟩
    obtain ⟨d, S', e, rfl, rfl⟩ := t
    exact ⟨_, _, e, rfl, [], by simp⟩
theorem ended_steps (hr : r.Ok) (he : r.en ≠ .non) : ∃ r' : Run, r'.Ok ∧ Steps L rows r r' := ⟨r, hr, ended_stepsX hr he⟩
theorem flt_in {x : Row} {r : Run} {f : Str} (h : x.fault r = some f) : f ∈ faults := by
  have key : ∀ (wa chg hnd : Bool) (tb : List Tab) (t w : Nat), tabFault wa chg hnd tb t w = some f → f ∈ faults := by
    intro wa chg hnd tb t w h
    unfold tabFault at h
    split at h
    · cases h; decide +kernel
    · split at h
      · split at h
        · cases h; decide +kernel
        · split at h
          · cases h; decide +kernel
          · cases h
      · cases h; decide +kernel
    · split at h
      · cases h; decide +kernel
      · split at h
        · cases h; decide +kernel
        · split at h
          · cases h; decide +kernel
          · cases h
  cases x with
  | mem o a b s =>
    simp only [Row.fault] at h
    by_cases h1 : r.pk.length ≤ r.rg.getD b 0 + s + (if o = "pair" then 1 else 0)
    · rw [if_pos h1] at h
      cases h; decide +kernel
    · rw [if_neg h1] at h
      by_cases h2 : o = "write" ∧ r.wr = 0
      · rw [if_pos h2] at h
        cases h; decide +kernel
      · rw [if_neg h2] at h
        cases h
  | tab o a t b => exact key _ _ _ _ _ _ h
  | count t b => exact key _ _ _ _ _ _ h
  | _ => cases h
/-- one step: both tell the same run -/
theorem steps_both (hr : r.Ok) (hrows : ∀ x ∈ rows, x.Ok) (hl : rows.length ≤ 120) : ∃ r' : Run, r'.Ok ∧ Steps L rows r r' := by
  by_cases he : r.en = .non
  · by_cases hp : rows.length ≤ r.pl
    · exact fault_steps hr he (by decide +kernel) (place_both hp)
    · have hlt : r.pl < rows.length := by omega
      have hx := hrows _ (List.getElem_mem hlt)
      have hg : rows[r.pl]? = some rows[r.pl] := List.getElem?_eq_getElem hlt
      generalize rows[r.pl] = x at hx hg
      cases hf : x.fault r with
      | some f =>
        refine fault_steps hr he (flt_in hf) fun k S => ?_
        have := fault_both (L := L) hr hx hg k S
        rw [hf] at this
        exact this
      | none =>
        have h : At rows r x := ⟨hr, he, hx, hg, hl, hf⟩
        cases x with
        | set a w => exact s_set h
        | move a w => exact s_move h
        | length a => exact s_length h
        | take a w => exact s_take h
        | keep a w => exact s_keep h
        | alu o a b => exact s_alu h
        | aln o a b => exact s_aln h
        | shn o a b => exact s_shn h
        | mem o a b s => exact s_mem h
        | tab o a t b => exact s_tab h
        | count t b => exact s_count h
        | ask o a b => exact s_ask h
        | jump p => exact s_jump h
        | when c a b p => exact s_when h
        | whenn c a b p => exact s_whenn h
        | begin c => exact s_begin h
        | again c m p => exact s_again h
        | answer a => exact s_answer h
  · exact ended_steps hr he
end
end S1

set_option maxHeartbeats 4000000
namespace S1
open PySem PySem.Spec PyProof.Rows L2 Ev
local macro_rules
  | `(tactic| fail) => `(tactic| first
    | (refine (?_ : Ev.XE _ _ _ _ _); first | refine wVar rfl ?_ | refine wCst ?_ | refine wCallc rfl ?_ | refine wIdx ?_ | refine wBin ?_ | refine wCmp ?_ | refine wTup ?_ | refine wBlt ?_ | refine wNot ?_ | refine wAndE ?_ | refine wOrE ?_ | refine wIfE ?_ | refine wChain ?_ | refine wLst ?_ | refine wNewl ?_ | refine wNewc ?_ | refine wSlTo ?_ | refine wSlFrom ?_ | refine wSlBoth ?_ | refine wOnes ?_ | refine wCallkc rfl ?_ | refine wCalllc rfl rfl ?_ | refine wComp ?_ | refine wGenL rfl ?_ | refine wNeg ?_ | refine wInv ?_ | refine wBlen ?_)
    | (refine (?_ : Ev.XL _ _ _ _ _); first | refine wCons ?_ | refine wNil ?_)
    | (refine (?_ : Ev.XS _ _ _ _ _ _); first | refine yIf ?_ | refine yRet ?_ | refine yAsg ?_ | refine yNil ?_ | refine yPar ?_ | refine yTup ?_ | refine yExpr ?_ | refine yFor ?_ | refine yRetN ?_ | refine yAug rfl ?_ | refine yPass ?_ | refine yBrk ?_ | refine yCont ?_ | refine yWhile ?_)
    | (refine (?_ : Ev.PT _ _ _); first | refine tBl ?_ | refine tTup ?_ | refine tNon ?_)
    | (refine (?_ : Ev.PC _ _ _ _ _); first | refine pEqS ?_ | refine pEqN ?_ | refine pLt ?_ | refine pLe ?_ | refine pGt ?_ | refine pGe ?_ | refine pNeN ?_ | refine pNeS ?_ | refine pIsN ?_ | refine pIsNotN ?_ | refine zLt ?_ | refine zGt ?_ | refine zLe ?_ | refine zGe ?_ | refine pInT rfl ?_)
    | (refine (?_ : Ev.PI _ _ _ _); first | refine pTupI rfl ?_ | refine pLstI rfl ?_ | refine pRefI (by assumption) rfl ?_ | refine pTupZ rfl ?_)
    | (refine (?_ : Ev.PB _ _ _ _ _); first | refine pAdd ?_ | refine pCatT (Nat.le_of_ble_eq_true rfl) ?_ | refine zAnd32 ?_ | refine zAnd16 ?_ | refine zAnd16i ?_ | refine zAnd8 ?_ | refine zAnd5 ?_ | refine zAnd4 ?_ | refine pAnd ?_ | refine pOr ?_ | refine pXor ?_ | refine pShr ?_ | refine pSub (by omega) ?_ | refine pMod (by omega) ?_ | refine pDiv (by omega) (by omega) ?_ | refine pMul (by omega) ?_ | refine pShl (by omega) (by omega) ?_ | refine pPow (by omega) (by omega) ?_ | refine zAdd ?_ | refine zSub ?_ | refine zMul (by omega) ?_ | refine zMod (by omega) ?_ | refine zDiv (by omega) (by omega) ?_)
    | (refine (?_ : Ev.PF _ _ _ _); first | refine pLenT ?_ | refine pIntN ?_ | refine pIntB ?_ | refine pLenL ?_ | refine pMinN ?_ | refine pMaxN ?_ | refine pIsiNI ?_ | refine pIsiNB ?_ | refine pIsiTT ?_ | refine pIsiSS ?_ | refine pTupL ?_ | refine zInt ?_ | refine zAbs ?_ | refine zDm (by omega) (by omega) ?_ | refine pTupR (by assumption) ?_ | refine pLenR (by assumption) ?_ | refine pLenS ?_ | refine pAllT ?_)
    | (refine (?_ : Ev.RQ _ _ _ _); first | refine rqR ?_ | refine rqN ?_)
    | (refine (?_ : Ev.PL _ _ _ _ _); first | refine sFromT ?_ | refine sToT ?_ | refine sFromL ?_ | refine sToL ?_ | refine sToR ?_ | refine sMidT (by omega) (Nat.le_of_ble_eq_true rfl) ?_)
    | (refine (?_ : Ev.PR _ _ _ _); first | refine rT ?_ | refine rL ?_ | refine rN (by omega) ?_ | refine rN2 (by omega) (by omega) ?_ | refine rEn ?_ | refine rZip ?_)
    | (refine (?_ : Ev.LQ _ _ _ _ _ _ _); first | refine lqN ?_ | refine lqR ?_)
    | (refine (?_ : Ev.TQ _ _ _ _ _ _ _ _ _ _ _); first | refine tqN ?_ | refine tqC ?_ | refine tqB ?_ | refine tqR ?_)
    | (refine (?_ : Ev.WP _ _); refine WP.mk rfl ?_)
    | refine ifT rfl ?_
    | refine ifF rfl ?_
    | refine ifT' rfl ?_
    | refine ifF' rfl ?_
    | refine aLen (Nat.le_of_ble_eq_true rfl) ?_
    | refine Exists.intro _ (And.intro rfl ?_)
    | refine ifT (by decide +kernel) ?_
    | refine ifF (by decide +kernel) ?_
    | refine ifT' (by decide +kernel) ?_
    | refine ifF' (by decide +kernel) ?_)
local macro_rules
  | `(tactic| fail) => `(tactic| first
    | refine wGlobc rfl S1C.g_FIELDS ?_
    | refine wGlobc rfl S1C.g_BOUNDS ?_
    | refine wGlobc rfl S1C.g_WORDS ?_
    | refine wGlobc rfl S1C.g_CHANGES ?_
    | refine wGlobc rfl S1C.g_CONDITIONS ?_
    | refine wGlobc rfl S1C.g_HELPERS ?_
    | refine wGlobc rfl S1C.g_FAULTS ?_)
local macro_rules
  | `(tactic| eq_refl) => `(tactic| first
    | fail
    | refine ifT (by assumption) ?_
    | refine ifF (by assumption) ?_
    | refine ifT' (by assumption) ?_
    | refine ifF' (by assumption) ?_
    | refine pTupI (by assumption) ?_
    | refine pTupZ (by assumption) ?_
    | refine ifT (decide_eq_true (by (try simp only [List.length_map]); omega)) ?_
    | refine ifF (decide_eq_false (by (try simp only [List.length_map]); omega)) ?_
    | refine ifT' (decide_eq_true (by (try simp only [List.length_map]); omega)) ?_
    | refine ifF' (decide_eq_false (by (try simp only [List.length_map]); omega)) ?_
    | refine ifT (by simp only [Bool.not_eq_true', decide_eq_false_iff_not, List.length_map]; omega) ?_
    | refine ifF (by simp only [Bool.not_eq_false', decide_eq_true_eq, List.length_map]; omega) ?_
    | refine ifT' (by simp only [Bool.not_eq_true', decide_eq_false_iff_not, List.length_map]; omega) ?_
    | refine ifF' (by simp only [Bool.not_eq_false', decide_eq_true_eq, List.length_map]; omega) ?_)
variable {L : Lw} [H : S1T L] [C : S1C L] {k : Nat} {S : Sto} {rows : List Row} {r : Run}
/-- up to n steps -/
inductive Far (L : Lw) (rows : List Row) : Nat → Run → Run → Prop
  | zero (r : Run) : Far L rows 0 r r
  | halt (n : Nat) (r : Run) (he : r.en ≠ .non) : Far L rows n r r
  | step {n : Nat} {r r1 r2 : Run} (he : r.en = .non) (hs : Steps L rows r r1) (h1 : r1.Ok) (h : Far L rows n r1 r2) : Far L rows (n + 1) r r2
theorem far_ex (hrows : ∀ x ∈ rows, x.Ok) (hl : rows.length ≤ 120) : ∀ (n : Nat) (r : Run), r.Ok → ∃ r', r'.Ok ∧ Far L rows n r r'
  | 0, r, hr => ⟨r, hr, .zero r⟩
  | n + 1, r, hr => by
    by_cases he : r.en = .non
    · obtain ⟨r1, h1, s1⟩ := steps_both (L := L) hr hrows hl
      obtain ⟨r2, h2, s2⟩ := far_ex hrows hl n r1 h1
      exact ⟨r2, h2, .step he s1 h1 s2⟩
    · exact ⟨r, hr, .halt _ r he⟩
theorem c_one_step [O : ONET L] {r' : Run} (hr : r.Ok) (hrows : ∀ x ∈ rows, x.Ok) (h1 : 1 ≤ rows.length) (hl : rows.length ≤ 120) (hs : Steps L rows r r') : Tells L (k + 17) "one_step" [.tup (rows.map Row.d), r.d] S r'.d := by
  refine (wFnL O.f_one_step rfl ?_)
  show XS _ _ t_one_step [_, _] S _
  repeat fail
  refine (c_need_sieve hrows h1 hl).go ?_
  repeat fail
  refine (c_need_run hr).go ?_
  repeat fail
  refine (hs.1 _ _).go ?_
  repeat fail
  exact ⟨rfl, rfl⟩
theorem enTup {r : Run} (hr : r.Ok) (he : r.en ≠ .non) : ∃ l, r.en = .tup l := by
  have := hr.en
  generalize r.en = d at *
  cases this with
  | non => exact absurd rfl he
  | ans w h => exact ⟨_, rfl⟩
  | flt f h => exact ⟨_, rfl⟩
theorem lrun_loop {wf j : Nat} : ∀ (n i : Nat) (r r' : Run) (x3 x2 : Option D) (S : Sto) (Q : Fl → EnvD → Sto → Prop), r.Ok → Far L rows n r r' →
    (∀ N x, Q .nx [some (.tup (rows.map Row.d)), some r'.d, x2, x] (S ++ N) ∧ Q (.rt r'.d) [some (.tup (rows.map Row.d)), some r'.d, x2, x] (S ++ N)) →
    XF (fun _ => true) [3] true (L.G (j + 8)) wf [(.ife (.cmp .IsNot (.idx (.var 1) (.cst (dn 8))) (.cst .non)) [(.ret (.var 1))] []), (.asg (.name 1) (.call "_law_step" [(.var 0), (.var 1)]))] (nums i n) [some (.tup (rows.map Row.d)), some r.d, x2, x3] S Q
  | 0, i, r, r', x3, x2, S, Q, hr, hf, q => by
    cases hf <;> (refine xfNil rfl ?_; have := (q [] x3).1; simpa using this)
  | n + 1, i, r, r', x3, x2, S, Q, hr, hf, q => by
    cases hf with
    | halt _ _ he =>
      obtain ⟨l, hl⟩ := enTup hr he
      have q := (q [] (some (dn i))).2
      rw [List.append_nil] at q
      unfold Run.d at q ⊢
      rw [hl] at q ⊢
      refine xfCons rfl ?_
      repeat fail
      exact q
    | step he hs h1 h2 =>
      refine xfCons rfl ?_
      have hs := hs.2.1 j S
      unfold Run.d at hs ⊢
      rw [he] at hs ⊢
      repeat fail
      refine hs.mono ?_
      rintro d S1 ⟨rfl, N, rfl⟩
      repeat fail
      refine lrun_loop n (i + 1) _ _ _ _ _ _ h1 h2 fun N2 x => ?_
      rw [List.append_assoc]
      exact q _ _
theorem far_while {wf j : Nat} : ∀ (n m : Nat) (r r' : Run) (x2 : Option D) (S : Sto) (Q : Fl → EnvD → Sto → Prop), n < m → r.Ok → Far L rows n r r' →
    (∀ x, Q .nx [some (.tup (rows.map Row.d)), some r'.d, x2, x] S) →
    XW (L.G (j + 5)) wf (.and' (.cmp .Gt (.var 3) (.cst (dn 0))) (.cmp .Is (.idx (.var 1) (.cst (dn 8))) (.cst .non))) [(.asg (.name 1) (.call "stepped" [(.var 0), (.var 1)])), (.aug 3 .Sub (.cst (dn 1)))] m [some (.tup (rows.map Row.d)), some r.d, x2, some (dn n)] S Q
  | n, 0, r, r', x2, S, Q, hm, hr, hf, q => by omega
  | n, m + 1, r, r', x2, S, Q, hm, hr, hf, q => by
    cases hf with
    | zero =>
      refine xwStep ?_
      repeat fail
      exact q _
    | halt _ _ he =>
      obtain ⟨l, hl⟩ := enTup hr he
      have q := q (some (dn n))
      unfold Run.d at q ⊢
      rw [hl] at q ⊢
      refine xwStep ?_
      by_cases hn : 0 < n
      · repeat eq_refl
        exact q
      · repeat eq_refl
        exact q
    | @step n _ _ _ he hs h1 h2 =>
      refine xwStep ?_
      have hs := hs.1 j S
      unfold Run.d at hs ⊢
      rw [he] at hs ⊢
      repeat eq_refl
      refine hs.go ?_
      repeat eq_refl
      have e : D.int ((↑(n + 1) : Int) - (↑(1 : Nat) : Int)) = dn n := by
        unfold dn
        congr 1
        omega
      rw [e]
      exact far_while n m _ _ _ _ _ (by omega) h1 h2 q
theorem c_run_far [F : FART L] {n : Nat} {r' : Run} (hn : n < 200) (hr : r.Ok) (hf : Far L rows n r r') : Tells L (k + 6) "run_far" [.tup (rows.map Row.d), r.d, dn n] S r'.d := by
  refine (wFnL F.f_run_far rfl ?_)
  show XS _ _ t_run_far [_, some r.d, _, none] S _
  repeat fail
  refine far_while n _ _ _ _ _ _ (by omega) hr hf fun x => ?_
  repeat fail
  exact ⟨rfl, rfl⟩
end S1

set_option maxHeartbeats 4000000
namespace S1
open PySem PySem.Spec PyProof.Rows L2 Ev
local macro_rules
  | `(tactic| fail) => `(tactic| first
    | (refine (?_ : Ev.XE _ _ _ _ _); first | refine wVar rfl ?_ | refine wCst ?_ | refine wCallc rfl ?_ | refine wIdx ?_ | refine wBin ?_ | refine wCmp ?_ | refine wTup ?_ | refine wBlt ?_ | refine wNot ?_ | refine wAndE ?_ | refine wOrE ?_ | refine wIfE ?_ | refine wChain ?_ | refine wLst ?_ | refine wNewl ?_ | refine wNewc ?_ | refine wSlTo ?_ | refine wSlFrom ?_ | refine wSlBoth ?_ | refine wOnes ?_ | refine wCallkc rfl ?_ | refine wCalllc rfl rfl ?_ | refine wComp ?_ | refine wGenL rfl ?_ | refine wNeg ?_ | refine wInv ?_ | refine wBlen ?_)
    | (refine (?_ : Ev.XL _ _ _ _ _); first | refine wCons ?_ | refine wNil ?_)
    | (refine (?_ : Ev.XS _ _ _ _ _ _); first | refine yIf ?_ | refine yRet ?_ | refine yAsg ?_ | refine yNil ?_ | refine yPar ?_ | refine yTup ?_ | refine yExpr ?_ | refine yFor ?_ | refine yRetN ?_ | refine yAug rfl ?_ | refine yPass ?_ | refine yBrk ?_ | refine yCont ?_ | refine yWhile ?_)
    | (refine (?_ : Ev.PT _ _ _); first | refine tBl ?_ | refine tTup ?_ | refine tNon ?_)
    | (refine (?_ : Ev.PC _ _ _ _ _); first | refine pEqS ?_ | refine pEqN ?_ | refine pLt ?_ | refine pLe ?_ | refine pGt ?_ | refine pGe ?_ | refine pNeN ?_ | refine pNeS ?_ | refine pIsN ?_ | refine pIsNotN ?_ | refine zLt ?_ | refine zGt ?_ | refine zLe ?_ | refine zGe ?_ | refine pInT rfl ?_)
    | (refine (?_ : Ev.PI _ _ _ _); first | refine pTupI rfl ?_ | refine pLstI rfl ?_ | refine pRefI (by assumption) rfl ?_ | refine pTupZ rfl ?_)
    | (refine (?_ : Ev.PB _ _ _ _ _); first | refine pAdd ?_ | refine pCatT (Nat.le_of_ble_eq_true rfl) ?_ | refine zAnd32 ?_ | refine zAnd16 ?_ | refine zAnd16i ?_ | refine zAnd8 ?_ | refine zAnd5 ?_ | refine zAnd4 ?_ | refine pAnd ?_ | refine pOr ?_ | refine pXor ?_ | refine pShr ?_ | refine pSub (by omega) ?_ | refine pMod (by omega) ?_ | refine pDiv (by omega) (by omega) ?_ | refine pMul (by omega) ?_ | refine pShl (by omega) (by omega) ?_ | refine pPow (by omega) (by omega) ?_ | refine zAdd ?_ | refine zSub ?_ | refine zMul (by omega) ?_ | refine zMod (by omega) ?_ | refine zDiv (by omega) (by omega) ?_)
    | (refine (?_ : Ev.PF _ _ _ _); first | refine pLenT ?_ | refine pIntN ?_ | refine pIntB ?_ | refine pLenL ?_ | refine pMinN ?_ | refine pMaxN ?_ | refine pIsiNI ?_ | refine pIsiNB ?_ | refine pIsiTT ?_ | refine pIsiSS ?_ | refine pTupL ?_ | refine zInt ?_ | refine zAbs ?_ | refine zDm (by omega) (by omega) ?_ | refine pTupR (by assumption) ?_ | refine pLenR (by assumption) ?_ | refine pLenS ?_ | refine pAllT ?_)
    | (refine (?_ : Ev.RQ _ _ _ _); first | refine rqR ?_ | refine rqN ?_)
    | (refine (?_ : Ev.PL _ _ _ _ _); first | refine sFromT ?_ | refine sToT ?_ | refine sFromL ?_ | refine sToL ?_ | refine sToR ?_ | refine sMidT (by omega) (Nat.le_of_ble_eq_true rfl) ?_)
    | (refine (?_ : Ev.PR _ _ _ _); first | refine rT ?_ | refine rL ?_ | refine rN (by omega) ?_ | refine rN2 (by omega) (by omega) ?_ | refine rEn ?_ | refine rZip ?_)
    | (refine (?_ : Ev.LQ _ _ _ _ _ _ _); first | refine lqN ?_ | refine lqR ?_)
    | (refine (?_ : Ev.TQ _ _ _ _ _ _ _ _ _ _ _); first | refine tqN ?_ | refine tqC ?_ | refine tqB ?_ | refine tqR ?_)
    | (refine (?_ : Ev.WP _ _); refine WP.mk rfl ?_)
    | refine ifT rfl ?_
    | refine ifF rfl ?_
    | refine ifT' rfl ?_
    | refine ifF' rfl ?_
    | refine aLen (Nat.le_of_ble_eq_true rfl) ?_
    | refine Exists.intro _ (And.intro rfl ?_)
    | refine ifT (by decide +kernel) ?_
    | refine ifF (by decide +kernel) ?_
    | refine ifT' (by decide +kernel) ?_
    | refine ifF' (by decide +kernel) ?_)
local macro_rules
  | `(tactic| fail) => `(tactic| first
    | refine wGlobc rfl S1C.g_FIELDS ?_
    | refine wGlobc rfl S1C.g_BOUNDS ?_
    | refine wGlobc rfl S1C.g_WORDS ?_
    | refine wGlobc rfl S1C.g_CHANGES ?_
    | refine wGlobc rfl S1C.g_CONDITIONS ?_
    | refine wGlobc rfl S1C.g_HELPERS ?_
    | refine wGlobc rfl S1C.g_FAULTS ?_)
local macro_rules
  | `(tactic| eq_refl) => `(tactic| first
    | fail
    | refine ifT (by assumption) ?_
    | refine ifF (by assumption) ?_
    | refine ifT' (by assumption) ?_
    | refine ifF' (by assumption) ?_
    | refine pTupI (by assumption) ?_
    | refine pTupZ (by assumption) ?_
    | refine ifT (decide_eq_true (by (try simp only [List.length_map]); omega)) ?_
    | refine ifF (decide_eq_false (by (try simp only [List.length_map]); omega)) ?_
    | refine ifT' (decide_eq_true (by (try simp only [List.length_map]); omega)) ?_
    | refine ifF' (decide_eq_false (by (try simp only [List.length_map]); omega)) ?_
    | refine ifT (by simp only [Bool.not_eq_true', decide_eq_false_iff_not, List.length_map]; omega) ?_
    | refine ifF (by simp only [Bool.not_eq_false', decide_eq_true_eq, List.length_map]; omega) ?_
    | refine ifT' (by simp only [Bool.not_eq_true', decide_eq_false_iff_not, List.length_map]; omega) ?_
    | refine ifF' (by simp only [Bool.not_eq_false', decide_eq_true_eq, List.length_map]; omega) ?_)
variable {L : Lw} [H : S1T L] [C : S1C L] {k : Nat} {S : Sto} {j : Nat} {M : List (Nat × MO)}
/-! the draws -/
theorem stSet {x : MO} (h : St j M S) {a b c : Int} : St j M (S.set j (.lst [.int a, .int b, .int c])) := h.setJ a b c
theorem stApp (h : St j M S) : ∀ N : List MO, St j M (S ++ N) := fun N =>
  ⟨by obtain ⟨a, b, c, e⟩ := h.jar; exact ⟨a, b, c, by rw [List.getElem?_append_left h.lt]; exact e⟩, fun p hp => by
    obtain ⟨h4, h5⟩ := h.own p hp
    exact ⟨by rw [List.getElem?_append_left (List.getElem?_eq_some_iff.mp h4).1]; exact h4, h5⟩, h.nd⟩
theorem ySubW {G : Gb} {w i m : Nat} {env : EnvD} {e : E} {ss : List T} {a b c : Int} {Q : Fl → EnvD → Sto → Prop} (h0 : env[i]? = some (some (.ref j))) (hst : St j M S) (hs : S[j]? = some (.lst [.int a, .int b, .int c])) (hm : m < 3)
    (h : XE G e env S fun d S2 => S2 = S ∧ ∃ v, d = .int v ∧ ∀ a' b' c' S3, [D.int a', D.int b', D.int c'] = [D.int a, D.int b, D.int c].set m (.int v) → S3[j]? = some (.lst [.int a', .int b', .int c']) → St j M S3 → XS G w ss env S3 Q) : XS G w (.asg (.sub (.var i) (.cst (dn m))) e :: ss) env S Q := by
  refine ySubJ h0 hs (m := m) (h.mono ?_)
  rintro d S2 ⟨rfl, v, rfl, q⟩
  refine ⟨rfl, hm, ?_⟩
  have hl := hst.lt
  match m, hm with
  | 0, _ => exact q v b c _ rfl (List.getElem?_set_self hl) (hst.setJ _ _ _)
  | 1, _ => exact q a v c _ rfl (List.getElem?_set_self hl) (hst.setJ _ _ _)
  | 2, _ => exact q a b v _ rfl (List.getElem?_set_self hl) (hst.setJ _ _ _)
theorem c_dip {n : Nat} (h : St j M S) (h0 : 0 < n) (h1 : n < 1073741824) : Dr L (k + 1) "_law_dip" [.ref j, dn n] j M S (Ev.Lt n) := by
  have hst := h
  have hl := h.lt
  obtain ⟨a, b, c, hj⟩ := h.jar
  refine (wFnL H.f__law_dip rfl ?_)
  show XS _ _ t__law_dip [some (.ref j), some (dn n), none, none] S _
  repeat fail
  refine ifD (fun ha => ?_) (fun ha => ?_)
  · repeat fail
    have e1 := Int.emod_nonneg a (show (n : Int) ≠ 0 by omega)
    have e2 := Int.emod_lt_of_pos a (show (0 : Int) < n by omega)
    refine ⟨([some (.ref j), some (dn n), none, none].set 2 (some (.int (a % n))), S.set j (.lst [.int (a / n), .int b, .int c])), ?_, ?_⟩
    · simp only [asgTs, asgT, ev, dn, List.getElem?_cons_zero, hj]
      rfl
    repeat fail
    exact ⟨⟨(a % n).toNat, intDn e1, by omega⟩, hst.setJ _ _ _⟩
  · refine ySubW rfl hst hj (by decide) ?_
    repeat fail
    refine ⟨rfl, _, rfl, fun a1 b1 c1 S1 _ hj1 hst1 => ?_⟩
    clear hj hst hl
    repeat fail
    refine ySubW rfl hst1 hj1 (by decide) ?_
    repeat fail
    refine ⟨rfl, _, rfl, fun a2 b2 c2 S2 _ hj2 hst2 => ?_⟩
    clear hj1 hst1
    repeat fail
    refine ⟨⟨_, intDn ?_, ?_⟩, hst2⟩
    · exact Int.emod_nonneg _ (by omega)
    · have := Int.emod_lt_of_pos (b2 / ((613 : Nat) : Int)) (show (0 : Int) < n by omega)
      have := Int.emod_nonneg (b2 / ((613 : Nat) : Int)) (show (n : Int) ≠ 0 by omega)
      omega
theorem c_one {l : List D} (h : St j M S) (h0 : 0 < l.length) (h1 : l.length < 1000) : Dr L (k + 2) "_law_one_of" [.ref j, .lst l] j M S (· ∈ l) := by
  refine (wFnL H.f__law_one_of rfl ?_)
  show XS _ _ t__law_one_of [some (.ref j), some (.lst l)] S _
  repeat fail
  refine (c_dip h h0 (by omega)).go ?_
  rintro _ S1 ⟨m, rfl, hm⟩ h1
  refine pLstI (List.getElem?_eq_getElem hm) ?_
  repeat fail
  exact ⟨List.getElem_mem hm, h1⟩
/-- one of some written numbers -/
theorem c_oneN {ns : List Nat} {n : Nat} (h : St j M S) (h0 : 0 < ns.length) (h1 : ns.length < 1000) (hb : ∀ m ∈ ns, m < n) : Dr L (k + 2) "_law_one_of" [.ref j, .lst (ns.map dn)] j M S (Ev.Lt n) :=
  (c_one h (by rw [List.length_map]; exact h0) (by rw [List.length_map]; exact h1)).mono fun d S' ⟨hd, hs⟩ => by
    obtain ⟨m, hm, rfl⟩ := List.mem_map.mp hd
    exact ⟨⟨m, rfl, hb m hm⟩, hs⟩
theorem c_oneS {ns : List Str} (h : St j M S) (h0 : 0 < ns.length) (h1 : ns.length < 1000) : Dr L (k + 2) "_law_one_of" [.ref j, .lst (ns.map D.str)] j M S (OneS ns) :=
  (c_one h (by rw [List.length_map]; exact h0) (by rw [List.length_map]; exact h1)).mono fun d S' ⟨hd, hs⟩ => by
    obtain ⟨m, hm, rfl⟩ := List.mem_map.mp hd
    exact ⟨⟨m, rfl, hm⟩, hs⟩
theorem c_word (h : St j M S) : Dr L (k + 3) "_law_word" [.ref j] j M S (Ev.Lt 65536) := by
  refine (wFnL H.f__law_word rfl ?_)
  show XS _ _ t__law_word [_, none] S _
  repeat fail
  refine (c_dip h (by decide) (by decide)).go ?_
  rintro _ S1 ⟨w, rfl, hw⟩ h1
  repeat fail
  refine ifD (fun c1 => ?_) (fun c1 => ?_)
  · repeat fail
    refine (c_dip h1 (by decide) (by decide)).go ?_
    rintro _ S2 ⟨m, rfl, hm⟩ h2
    repeat fail
    exact ⟨⟨m, rfl, by omega⟩, h2⟩
  repeat fail
  refine ifD (fun c2 => ?_) (fun c2 => ?_)
  · repeat fail
    refine (c_oneN (ns := [255, 256, 257, 32767, 32768, 65535, 65534, 65280]) (n := 65536) h1 (by decide) (by decide) (by decide)).go ?_
    intro d S2 hd h2
    repeat fail
    exact ⟨hd, h2⟩
  repeat fail
  refine ifD (fun c3 => ?_) (fun c3 => ?_)
  · repeat fail
    refine (c_dip h1 (by decide) (by decide)).go ?_
    rintro _ S2 ⟨m, rfl, hm⟩ h2
    repeat fail
    exact ⟨⟨m, rfl, by omega⟩, h2⟩
  · repeat fail
    refine (c_dip h1 (by decide) (by decide)).go ?_
    rintro _ S2 ⟨m, rfl, hm⟩ h2
    repeat fail
    exact ⟨⟨m, rfl, by omega⟩, h2⟩
theorem lts {n : Nat} : ∀ {l : List D}, (∀ d ∈ l, Ev.Lt n d) → ∃ ns : List Nat, l = ns.map dn ∧ ∀ m ∈ ns, m < n
  | [], _ => ⟨[], rfl, by simp⟩
  | d :: l, h => by
    obtain ⟨m, rfl, hm⟩ := h d List.mem_cons_self
    obtain ⟨ns, rfl, hn⟩ := lts (l := l) fun e he => h e (List.mem_cons_of_mem _ he)
    refine ⟨m :: ns, rfl, fun x hx => ?_⟩
    rcases List.mem_cons.mp hx with rfl | hx
    · exact hm
    · exact hn x hx
/-- a tuple of so many numbers -/
def Nums (m b : Nat) (d : D) : Prop := ∃ ns : List Nat, d = .tup (ns.map dn) ∧ ns.length = m ∧ ∀ n ∈ ns, n < b
theorem c_bytes [B : LBYTT L] {m : Nat} (h : St j M S) (hm : m ≤ 256) : Dr L (k + 3) "_law_bytes" [.ref j, dn m] j M S (Nums m 256) := by
  refine (wFnL B.f__law_bytes rfl ?_)
  show XS _ _ t__law_bytes [_, _, none, none] S _
  repeat fail
  have h2 := h.new (.lst [])
  generalize S.length = r at *
  generalize S ++ [MO.lst []] = S0 at *
  show XF _ _ _ _ _ _ _ (fillE [some (.ref j), some (dn m), some (.ref r), none] [3] [none]) _ _
  refine xfGrow (r := r) (P := Ev.Lt 256) [3] ?st1 _ [none] _ [] rfl h2 (by rw [nums_len, List.length_nil]; omega) (by simp) ?fin1
  case st1 =>
    intro d0 xs S1 acc hx hs hl hp
    obtain ⟨x, rfl⟩ := List.length_eq_one_iff.mp hx
    repeat fail
    refine yAppO rfl hs hl ?_
    repeat fail
    refine (c_dip hs (by decide) (by decide)).go ?_
    rintro _ S2 ⟨m1, rfl, hm1⟩ h2
    repeat fail
    refine ifD (fun c1 => ?_) (fun c1 => ?_)
    · repeat fail
      refine (c_oneN (ns := [0, 1, 2, 7, 69, 128, 254, 255]) (n := 256) h2 (by decide) (by decide) (by decide)).go ?_
      intro d S3 hd h3
      refine ⟨h3, fun S4 h4 => ?_⟩
      repeat fail
      exact ⟨rfl, ⟨[_], rfl, rfl⟩, _, hd, h4⟩
    · repeat fail
      refine (c_dip h2 (by decide) (by decide)).go ?_
      intro d S3 hd h3
      refine ⟨h3, fun S4 h4 => ?_⟩
      repeat fail
      exact ⟨rfl, ⟨[_], rfl, rfl⟩, _, hd, h4⟩
  case fin1 =>
    intro xs S1 cells hx hs hl hp
    obtain ⟨x, rfl⟩ := List.length_eq_one_iff.mp hx
    rw [nums_len, List.length_nil] at hl
    have e1 := hs.head
    repeat fail
    obtain ⟨cs, rfl, hcs⟩ := lts hp
    rw [List.length_map] at hl
    exact ⟨⟨cs, rfl, by omega, hcs⟩, hs.drop⟩
theorem c_same {d : D} {s : Str} (hs : ∀ S : Sto, bfun S .repr [d] = some (.str s)) : Tells L (k + 1) "_law_same" [d, d] S (.bl true) := by
  refine (wFnL H.f__law_same rfl ?_)
  show XS _ _ t__law_same [_, _] S _
  repeat fail
  refine ⟨_, hs _, ?_⟩
  repeat fail
  refine ⟨_, hs _, ?_⟩
  repeat fail
  exact ⟨by simp, rfl⟩
theorem c_need_steps [F : FART L] [C2 : S1M L] {n : Nat} (h : n ≤ 20000) : Tells L (k + 3) "need_steps" [dn n] S .non := by
  refine (wFnL F.f_need_steps rfl ?_)
  show XS _ _ t_need_steps [_] S _
  repeat fail
  refine wGlobc rfl C2.g_MOST_STEPS ?_
  repeat fail
  refine (c_btw (a := 0) (b := 20000) (Nat.zero_le _) h).go ?_
  repeat fail
  exact ⟨rfl, rfl⟩
section
variable {rows : List Row} {r r' : Run}
theorem c_run_on [F : FART L] [C2 : S1M L] {n : Nat} (hn : n < 200) (hr : r.Ok) (hrows : ∀ x ∈ rows, x.Ok) (h1 : 1 ≤ rows.length) (hl : rows.length ≤ 120) (hf : Far L rows n r r') : Tells L (k + 17) "run_on" [.tup (rows.map Row.d), r.d, dn n] S r'.d := by
  refine (wFnL F.f_run_on rfl ?_)
  show XS _ _ t_run_on [_, _, _] S _
  repeat fail
  refine (c_need_sieve hrows h1 hl).go ?_
  repeat fail
  refine (c_need_run hr).go ?_
  repeat fail
  refine (c_need_steps (by omega)).go ?_
  repeat fail
  refine (c_run_far hn hr hf).go ?_
  repeat fail
  exact ⟨rfl, rfl⟩
/-- what both tell of a fault ahead -/
def Flt (L : Lw) (rows : List Row) (r : Run) (d : D) : Prop := ∀ k S, Tells L (k + 2) "next_fault" [.tup (rows.map Row.d), r.d] S d ∧ Tells L (k + 2) "_law_fault" [.tup (rows.map Row.d), r.d] S d
def fOf (rows : List Row) (r : Run) : Option Str := match rows[r.pl]? with
  | none => some "place"
  | some x => x.fault r
theorem flt_ex (hr : r.Ok) (hrows : ∀ x ∈ rows, x.Ok) : Flt L rows r (optS (fOf rows r)) := fun k S => by
  unfold fOf
  cases hg : rows[r.pl]? with
  | none => exact place_both (List.getElem?_eq_none_iff.mp hg) k S
  | some x => exact fault_both hr (hrows x (List.mem_of_getElem? hg)) hg k S
theorem c_fault_of [O : FOFT L] (hr : r.Ok) (he : r.en = .non) (hrows : ∀ x ∈ rows, x.Ok) (h1 : 1 ≤ rows.length) (hl : rows.length ≤ 120) : Tells L (k + 17) "fault_of" [.tup (rows.map Row.d), r.d] S (optS (fOf rows r)) := by
  refine (wFnL O.f_fault_of rfl ?_)
  have i8 : ∃ l : List D, r.d = .tup l := ⟨_, rfl⟩
  show XS _ _ t_fault_of [_, _] S _
  repeat fail
  refine (c_need_sieve hrows h1 hl).go ?_
  repeat fail
  refine (c_need_run hr).go ?_
  have hf := fun k S => (flt_ex (L := L) hr hrows k S).1
  unfold Run.d at hf ⊢
  rw [he] at hf ⊢
  repeat fail
  refine (hf _ _).go ?_
  repeat fail
  exact ⟨rfl, rfl⟩
theorem c_fault_of_end [O : FOFT L] (hr : r.Ok) (he : r.en ≠ .non) (hrows : ∀ x ∈ rows, x.Ok) (h1 : 1 ≤ rows.length) (hl : rows.length ≤ 120) : Tells L (k + 17) "fault_of" [.tup (rows.map Row.d), r.d] S .non := by
  obtain ⟨l, hl2⟩ := enTup hr he
  refine (wFnL O.f_fault_of rfl ?_)
  show XS _ _ t_fault_of [_, _] S _
  repeat fail
  refine (c_need_sieve hrows h1 hl).go ?_
  repeat fail
  refine (c_need_run hr).go ?_
  unfold Run.d
  rw [hl2]
  repeat fail
  exact ⟨rfl, rfl⟩
theorem c_lrun [R : LRUNT L] {n : Nat} (hn : n < 1000000) (hr : r.Ok) (hf : Far L rows n r r') : XC L (k + 9) "_law_run" [.tup (rows.map Row.d), r.d, dn n] S fun d S' => d = r'.d ∧ ∃ N, S' = S ++ N := by
  refine (wFnL R.f__law_run rfl ?_)
  show XS _ _ t__law_run [_, some r.d, _, none] S _
  repeat fail
  refine lrun_loop n 0 r r' none _ S _ hr hf fun N x => ⟨?_, ?_⟩
  · repeat fail
    exact ⟨rfl, N, rfl⟩
  · repeat fail
    exact ⟨rfl, N, rfl⟩
end
/-! measures -/
theorem md_w {n : Nat} (h : n < 10 ^ 13) : Md (dn n) 64 0 := by
  have l : (PyData.shown (.int (n : Int))).length ≤ 13 := by
    show (Str.ofString (toString (Int.ofNat n))).length ≤ 13
    rw [PySem.ofString_length]
    exact (Nat.length_repr_le_iff (by decide)).mpr h
  have l1 : (n : Int).natAbs.log2 < 64 := by
    rw [Int.natAbs_natCast]
    by_cases z : n = 0
    · rw [z]; decide
    · exact (Nat.log2_lt z).mpr (by omega)
  refine ⟨.int n, rfl, ?_, ?_, ?_, ?_, rfl⟩
  · simp only [PyData.showable]
    exact decide_eq_true (by omega)
  · simp [PyData.leavesShort, l]
  · simp only [PyData.weight]
    split <;> omega
  · simp [PyData.depth]
theorem md_nums {l : List Nat} {b n : Nat} (h : ∀ m ∈ l, m < b) (hb : b ≤ 10 ^ 13) (hl : l.length ≤ n) : Md (.tup (l.map dn)) (n * 65) 1 := md_tup (w := 64) (dp := 0) (fun x hx => by
  obtain ⟨m, hm, rfl⟩ := List.mem_map.mp hx
  exact md_w (by have := h m hm; omega)) (by rw [List.length_map]; exact hl)
theorem md_faults : ∀ f ∈ faults, goodS f = true := by decide +kernel
theorem md_tab {t : Tab} (h : t.Ok) : Md t.d 6300 3 := by
  have three : ∀ (s : Str) (may : Nat) (x : D), goodS s = true → may ≤ 1 → Md x 2099 2 → Md (.tup [.str s, dn may, x]) 6300 3 := fun s may x hs hm hx =>
    (md_tup (n := 3) (w := 2099) (dp := 2) (l := [.str s, dn may, x]) (fun y hy => by
      simp only [List.mem_cons, List.not_mem_nil, or_false] at hy
      rcases hy with rfl | rfl | rfl
      · exact (md_s hs).mono (by decide) (by decide)
      · exact (md_w (by omega)).mono (by decide) (by decide)
      · exact hx) (by simp))
  cases t with
  | arr may l => exact three _ _ _ (by decide +kernel) h.1 ((md_nums (n := 32) h.2.2.2 (by decide) h.2.2.1).mono (by decide) (by decide))
  | prs may l =>
    refine three _ _ _ (by decide +kernel) h.1 ((md_tup (n := 16) (w := 130) (dp := 1) (l := l.map pr) (fun x hx => ?_) (by rw [List.length_map]; exact h.2.1)).mono (by decide) (by decide))
    obtain ⟨p, hp, rfl⟩ := List.mem_map.mp hx
    obtain ⟨h1, h2⟩ := h.2.2.1 p hp
    exact md_nums (n := 2) (b := 65536) (l := [p.1, p.2]) (fun m hm => by
      simp only [List.mem_cons, List.not_mem_nil, or_false] at hm
      rcases hm with rfl | rfl
      · exact h1
      · exact h2) (by decide) (by simp)
theorem md_end {d : D} (h : EndOk d) : Md d 130 1 := by
  have two : ∀ (s : Str) (x : D), goodS s = true → Md x 64 0 → Md (.tup [.str s, x]) 130 1 := fun s x hs hx =>
    md_tup (n := 2) (w := 64) (dp := 0) (l := [.str s, x]) (fun y hy => by
      simp only [List.mem_cons, List.not_mem_nil, or_false] at hy
      rcases hy with rfl | rfl
      · exact md_s hs
      · exact hx) (by simp)
  cases h with
  | non => exact md_non.mono (by decide) (by decide)
  | ans w h => exact two _ _ (by decide +kernel) (md_w (by omega))
  | flt f h => exact two _ _ (by decide +kernel) (md_s (md_faults f h))
theorem md_run {r : Run} (h : r.Ok) (hs : r.st < 10 ^ 13) : Md r.d 378100 5 := by
  refine (md_tup (n := 10) (w := 37806) (dp := 4) (l := [_, _, _, _, _, _, _, _, _, _]) (fun y hy => ?_) (by simp)).mono (by decide) (by decide)
  have pl := h.pl
  have ck := h.ck
  have wr := h.wr
  simp only [List.mem_cons, List.not_mem_nil, or_false] at hy
  rcases hy with rfl | rfl | rfl | rfl | rfl | rfl | rfl | rfl | rfl | rfl
  · exact (md_nums (n := 8) h.rg.2 (by decide) (by rw [h.rg.1]; decide)).mono (by decide) (by decide)
  · exact (md_nums (n := 16) h.sl.2 (by decide) (by rw [h.sl.1]; decide)).mono (by decide) (by decide)
  · exact (md_nums (n := 4) (b := 101) (fun m hm => Nat.lt_succ_of_le (h.ct.2 m hm)) (by decide) (by rw [h.ct.1]; decide)).mono (by decide) (by decide)
  · exact (md_w (by omega)).mono (by decide) (by decide)
  · exact (md_nums (n := 256) h.pk.2 (by decide) h.pk.1).mono (by decide) (by decide)
  · exact (md_tup (n := 6) (w := 6300) (dp := 3) (fun x hx => by
      obtain ⟨t, ht, rfl⟩ := List.mem_map.mp hx
      exact md_tab (h.tb.2 t ht)) (by rw [List.length_map]; exact h.tb.1)).mono (by decide) (by decide)
  · exact (md_w (by omega)).mono (by decide) (by decide)
  · exact (md_w hs).mono (by decide) (by decide)
  · exact (md_end h.en).mono (by decide) (by decide)
  · exact (md_w (by omega)).mono (by decide) (by decide)
theorem md_opt {o : Option Str} (h : ∀ f, o = some f → f ∈ faults) : Md (optS o) 64 0 := by
  cases o with
  | none => exact md_non
  | some f => exact md_s (md_faults f (h f rfl))
/-- repr of a tuple, of a written list -/
theorem repr_tup {l : List D} {w dp : Nat} (h : Md (.tup l) w dp) (hw : w ≤ 1000000) (hdp : dp ≤ 60) : ∃ s, ∀ S : Sto, bfun S .repr [.tup l] = some (.str s) := repr_md (b := true) (l := l) h (fun _ => ⟨rfl, rfl⟩) hw hdp
theorem repr_lst {l : List D} {w dp : Nat} (h : Md (.lst l) w dp) (hw : w ≤ 1000000) (hdp : dp ≤ 60) : ∃ s, ∀ S : Sto, bfun S .repr [.lst l] = some (.str s) := repr_md (b := false) (l := l) h (fun _ => ⟨rfl, rfl⟩) hw hdp
theorem same_run {r : Run} (h : r.Ok) (hs : r.st < 10 ^ 13) : ∀ k S, Tells L (k + 1) "_law_same" [r.d, r.d] S (.bl true) := fun k S => by
  obtain ⟨s, e⟩ := repr_tup (l := [_, _, _, _, _, _, _, _, _, _]) (md_run h hs) (by decide) (by decide)
  exact c_same e
theorem same_two {a b : D} {w dp : Nat} (ha : Md a w dp) (hb : Md b w dp) (hw : w ≤ 400000) (hd : dp ≤ 50) : ∀ k S, Tells L (k + 1) "_law_same" [.lst [a, b], .lst [a, b]] S (.bl true) := fun k S => by
  obtain ⟨s, e⟩ := repr_lst (md_two ha hb) (by omega) (by omega)
  exact c_same e
/-- the steps done -/
theorem far_st {rows : List Row} {n : Nat} {r r' : Run} (hr : r.Ok) (h : Far L rows n r r') : r'.st ≤ r.st + n := by
  induction h with
  | zero r => omega
  | halt n r he => omega
  | @step n r r1 r2 he hs h1 h ih =>
    have := hs.2.2
    have := ih h1
    omega
end S1

set_option maxHeartbeats 4000000
namespace S1
open PySem PySem.Spec PyProof.Rows L2 Ev
local macro_rules
  | `(tactic| fail) => `(tactic| first
    | (refine (?_ : Ev.XE _ _ _ _ _); first | refine wVar rfl ?_ | refine wCst ?_ | refine wCallc rfl ?_ | refine wIdx ?_ | refine wBin ?_ | refine wCmp ?_ | refine wTup ?_ | refine wBlt ?_ | refine wNot ?_ | refine wAndE ?_ | refine wOrE ?_ | refine wIfE ?_ | refine wChain ?_ | refine wLst ?_ | refine wNewl ?_ | refine wNewc ?_ | refine wSlTo ?_ | refine wSlFrom ?_ | refine wSlBoth ?_ | refine wOnes ?_ | refine wCallkc rfl ?_ | refine wCalllc rfl rfl ?_ | refine wComp ?_ | refine wGenL rfl ?_ | refine wNeg ?_ | refine wInv ?_ | refine wBlen ?_)
    | (refine (?_ : Ev.XL _ _ _ _ _); first | refine wCons ?_ | refine wNil ?_)
    | (refine (?_ : Ev.XS _ _ _ _ _ _); first | refine yIf ?_ | refine yRet ?_ | refine yAsg ?_ | refine yNil ?_ | refine yPar ?_ | refine yTup ?_ | refine yExpr ?_ | refine yFor ?_ | refine yRetN ?_ | refine yAug rfl ?_ | refine yPass ?_ | refine yBrk ?_ | refine yCont ?_ | refine yWhile ?_)
    | (refine (?_ : Ev.PT _ _ _); first | refine tBl ?_ | refine tTup ?_ | refine tNon ?_)
    | (refine (?_ : Ev.PC _ _ _ _ _); first | refine pEqS ?_ | refine pEqN ?_ | refine pLt ?_ | refine pLe ?_ | refine pGt ?_ | refine pGe ?_ | refine pNeN ?_ | refine pNeS ?_ | refine pIsN ?_ | refine pIsNotN ?_ | refine zLt ?_ | refine zGt ?_ | refine zLe ?_ | refine zGe ?_ | refine pInT rfl ?_)
    | (refine (?_ : Ev.PI _ _ _ _); first | refine pTupI rfl ?_ | refine pLstI rfl ?_ | refine pRefI (by assumption) rfl ?_ | refine pTupZ rfl ?_)
    | (refine (?_ : Ev.PB _ _ _ _ _); first | refine pAdd ?_ | refine pCatT (Nat.le_of_ble_eq_true rfl) ?_ | refine zAnd32 ?_ | refine zAnd16 ?_ | refine zAnd16i ?_ | refine zAnd8 ?_ | refine zAnd5 ?_ | refine zAnd4 ?_ | refine pAnd ?_ | refine pOr ?_ | refine pXor ?_ | refine pShr ?_ | refine pSub (by omega) ?_ | refine pMod (by omega) ?_ | refine pDiv (by omega) (by omega) ?_ | refine pMul (by omega) ?_ | refine pShl (by omega) (by omega) ?_ | refine pPow (by omega) (by omega) ?_ | refine zAdd ?_ | refine zSub ?_ | refine zMul (by omega) ?_ | refine zMod (by omega) ?_ | refine zDiv (by omega) (by omega) ?_)
    | (refine (?_ : Ev.PF _ _ _ _); first | refine pLenT ?_ | refine pIntN ?_ | refine pIntB ?_ | refine pLenL ?_ | refine pMinN ?_ | refine pMaxN ?_ | refine pIsiNI ?_ | refine pIsiNB ?_ | refine pIsiTT ?_ | refine pIsiSS ?_ | refine pTupL ?_ | refine zInt ?_ | refine zAbs ?_ | refine zDm (by omega) (by omega) ?_ | refine pTupR (by assumption) ?_ | refine pLenR (by assumption) ?_ | refine pLenS ?_ | refine pAllT ?_)
    | (refine (?_ : Ev.RQ _ _ _ _); first | refine rqR ?_ | refine rqN ?_)
    | (refine (?_ : Ev.PL _ _ _ _ _); first | refine sFromT ?_ | refine sToT ?_ | refine sFromL ?_ | refine sToL ?_ | refine sToR ?_ | refine sMidT (by omega) (Nat.le_of_ble_eq_true rfl) ?_)
    | (refine (?_ : Ev.PR _ _ _ _); first | refine rT ?_ | refine rL ?_ | refine rN (by omega) ?_ | refine rN2 (by omega) (by omega) ?_ | refine rEn ?_ | refine rZip ?_)
    | (refine (?_ : Ev.LQ _ _ _ _ _ _ _); first | refine lqN ?_ | refine lqR ?_)
    | (refine (?_ : Ev.TQ _ _ _ _ _ _ _ _ _ _ _); first | refine tqN ?_ | refine tqC ?_ | refine tqB ?_ | refine tqR ?_)
    | (refine (?_ : Ev.WP _ _); refine WP.mk rfl ?_)
    | refine ifT rfl ?_
    | refine ifF rfl ?_
    | refine ifT' rfl ?_
    | refine ifF' rfl ?_
    | refine aLen (Nat.le_of_ble_eq_true rfl) ?_
    | refine Exists.intro _ (And.intro rfl ?_)
    | refine ifT (by decide +kernel) ?_
    | refine ifF (by decide +kernel) ?_
    | refine ifT' (by decide +kernel) ?_
    | refine ifF' (by decide +kernel) ?_)
local macro_rules
  | `(tactic| fail) => `(tactic| first
    | refine wGlobc rfl S1C.g_FIELDS ?_
    | refine wGlobc rfl S1C.g_BOUNDS ?_
    | refine wGlobc rfl S1C.g_WORDS ?_
    | refine wGlobc rfl S1C.g_CHANGES ?_
    | refine wGlobc rfl S1C.g_CONDITIONS ?_
    | refine wGlobc rfl S1C.g_HELPERS ?_
    | refine wGlobc rfl S1C.g_FAULTS ?_)
local macro_rules
  | `(tactic| eq_refl) => `(tactic| first
    | fail
    | refine ifT (by assumption) ?_
    | refine ifF (by assumption) ?_
    | refine ifT' (by assumption) ?_
    | refine ifF' (by assumption) ?_
    | refine pTupI (by assumption) ?_
    | refine pTupZ (by assumption) ?_
    | refine ifT (decide_eq_true (by (try simp only [List.length_map]); omega)) ?_
    | refine ifF (decide_eq_false (by (try simp only [List.length_map]); omega)) ?_
    | refine ifT' (decide_eq_true (by (try simp only [List.length_map]); omega)) ?_
    | refine ifF' (decide_eq_false (by (try simp only [List.length_map]); omega)) ?_
    | refine ifT (by simp only [Bool.not_eq_true', decide_eq_false_iff_not, List.length_map]; omega) ?_
    | refine ifF (by simp only [Bool.not_eq_false', decide_eq_true_eq, List.length_map]; omega) ?_
    | refine ifT' (by simp only [Bool.not_eq_true', decide_eq_false_iff_not, List.length_map]; omega) ?_
    | refine ifF' (by simp only [Bool.not_eq_false', decide_eq_true_eq, List.length_map]; omega) ?_)
variable {L : Lw} {k : Nat} {S : Sto} {j : Nat} {M : List (Nat × MO)}
/-! the law's beginning and end -/
def t_jarN (c : Nat) : List T := [(.asg (.name 2) (.bin .Add (.cst (dn c)) (.bin .Mult (.cst (dn 7919)) (.var 1)))), (.for' [3] true 0 [(.sl (.var 0) false true (.cst .non) (.cst (dn 10)))] [(.asg (.name 2) (.bin .Mod (.blt .int [(.bin .Add (.bin .Add (.bin .Mult (.var 2) (.cst (dn 52361))) (.bin .Mult (.bin .Mod (.blt .int [(.var 3)]) (.cst (dn 2147483399))) (.cst (dn 11)))) (.cst (dn 3)))]) (.cst (dn 2147483399))))]), (.asg (.name 4) (.ife (.cmp .Lt (.var 1) (.blt .len [(.var 0)])) (.blt .int [(.idx (.var 0) (.var 1))]) (.cst (dn 0)))), (.ret (.newl [(.ife (.or' (.cmp .Lt (.var 4) (.cst (dn 0))) (.cmp .GtE (.var 4) (.bin .Pow (.cst (dn 10)) (.cst (dn 15))))) (.blt .abs [(.var 4)]) (.cst (dn 0))), (.var 2), (.cst (dn 0))]))]
class JART (L : Lw) (c : outParam Nat) : Prop where
  f : L.df "_law_jar" = some ⟨["script", "turn"], 5, t_jarN c⟩
theorem c_jar {c : Nat} [J : JART L c] {ns : List Int} {t : Nat} : XC L (k + 1) "_law_jar" [.rls (ns.map D.int), dn t] S fun d S' => d = .ref S.length ∧ ∃ a b c : Int, S' = S ++ [.lst [.int a, .int b, .int c]] := by
  refine (wFnL J.f rfl ?_)
  show XS _ _ (t_jarN c) [_, _, none, none, none] S _
  unfold t_jarN
  repeat fail
  show XF _ _ _ _ _ _ _ (fillE [some (.rls (ns.map D.int)), some (dn t), none, none, none] [2, 3] [some (.int (((c + 7919 * t : Nat)) : Int)), none]) _ _
  refine xfFillX [2, 3] (fun ds xs S' => S' = S ∧ (∃ s x, xs = [some (.int s), x]) ∧ ∀ d ∈ ds, ∃ z : Int, d = .int z) (fun _ _ _ _ => rfl) ?st ?fin _ _ _ ⟨rfl, ⟨_, _, rfl⟩, fun d hd => ?_⟩
  case st =>
    rintro d0 ds xs S1 ⟨rfl, ⟨s, x, rfl⟩, hd⟩
    obtain ⟨z, rfl⟩ := hd d0 List.mem_cons_self
    repeat fail
    exact .inl ⟨rfl, [_, _], rfl, rfl, ⟨_, _, rfl⟩, fun d hd2 => hd d (List.mem_cons_of_mem _ hd2)⟩
  case fin =>
    rintro xs S1 ⟨rfl, ⟨s, x, rfl⟩, _⟩
    have tail : ∀ i : Int, XS (L.G k) 200 ((t_jarN c).drop 3) [some (.rls (ns.map D.int)), some (dn t), some (.int s), x, some (.int i)] S1 (RQ fun d S' => d = .ref S1.length ∧ ∃ a b c : Int, S' = S1 ++ [.lst [.int a, .int b, .int c]]) := by
      intro i
      show XS _ _ [_] _ _ _
      repeat fail
      refine ifD (fun h => ?_) (fun h => ?_)
      · repeat fail
        refine ifT (decide_eq_true h) ?_
        repeat fail
        exact ⟨rfl, _, _, _, rfl⟩
      · repeat fail
        refine ifD (fun h2 => ?_) (fun h2 => ?_)
        · repeat fail
          exact ⟨rfl, _, _, _, rfl⟩
        · repeat fail
          exact ⟨rfl, _, _, _, rfl⟩
    fail
    refine yAsg (wIfE (wCmp ?_))
    repeat fail
    refine ifD (fun h => ?_) (fun h => ?_)
    · refine wBlt (wCons (wIdx (wVar rfl (wVar rfl ?_))))
      refine pRlsI (d := .int (ns[t]'(by simpa using h))) (by rw [List.getElem?_map, List.getElem?_eq_getElem (by simpa using h)]; rfl) ?_
      fail
      fail
      exact tail _
    · fail
      exact tail _
  obtain ⟨z, _, rfl⟩ := List.mem_map.mp (List.mem_of_mem_take hd)
  exact ⟨z, rfl⟩
def t_lawN (a b : Nat) : List T := [(.ret (.blt .all [(.comp [1] [1] true 1 [(.blt .max [(.cst (dn a)), (.blt .min [(.blt .len [(.var 0)]), (.cst (dn b))])])] false (.cst .non) (.call "_law_right" [(.call "_law_jar" [(.var 0), (.var 1)])]))]))]
theorem c_lawN {c a b N : Nat} [J : JART L c] (ha : a < 900) (hb : b < 900) (hf : L.df "law" = some ⟨["script"], 2, t_lawN a b⟩) (hr : ∀ k j M S, St j M S → XC L (k + N) "_law_right" [.ref j] S fun d _ => d = .bl true) (ns : List Int) : ∃ S', L.cl (k + N + 2) "law" [.rls (ns.map D.int)] [] = some (.bl true, S') := by
  have : XC L (k + N + 2) "law" [.rls (ns.map D.int)] [] fun d _ => d = .bl true := by
    refine (wFnL hf rfl ?_)
    show XS _ _ (t_lawN a b) [_, none] [] _
    unfold t_lawN
    repeat fail
    refine (xpTrue (fun d hd S => ?_) ?_).mono fun l S hl => ?_
    · obtain ⟨i, rfl, _, _⟩ := nums_mem hd
      repeat fail
      refine c_jar.mono ?_
      rintro _ S1 ⟨rfl, a, b, c, rfl⟩
      repeat fail
      rw [show k + N + 1 = k + 1 + N by omega]
      refine (hr (k + 1) S.length [] _ ⟨⟨a, b, c, by simp⟩, by simp, by simp⟩).mono ?_
      rintro _ _ rfl
      rfl
    · rw [nums_len]
      simp only [List.length_nil]
      omega
    · subst hl
      repeat fail
      rfl
  obtain ⟨d, S', e, rfl⟩ := this
  exact ⟨S', e⟩
/-- a run that is begun -/
def begunR (pk : List Nat) (tb : List Tab) (ck wr : Nat) : Run := ⟨List.replicate 8 0, List.replicate 16 0, List.replicate 4 0, 0, pk, tb, ck, 0, .non, wr⟩
theorem begunR_ok {pk : List Nat} {tb : List Tab} {ck wr : Nat} (h1 : pk.length ≤ 256) (h2 : ∀ n ∈ pk, n < 256) (h3 : tb.length ≤ 6) (h4 : ∀ t ∈ tb, t.Ok) (h5 : ck < 65536) (h6 : wr ≤ 1) : (begunR pk tb ck wr).Ok :=
  ⟨⟨rfl, fun n hn => by rw [(List.mem_replicate.mp hn).2]; decide⟩, ⟨rfl, fun n hn => by rw [(List.mem_replicate.mp hn).2]; decide⟩, ⟨rfl, fun n hn => by rw [(List.mem_replicate.mp hn).2]; decide⟩, Nat.zero_le _, ⟨h1, h2⟩, ⟨h3, h4⟩, h5, .non, h6⟩
theorem c_lbegun [B : LBEGT L] {pk : List Nat} {tb : List Tab} {ck wr : Nat} : Tells L (k + 1) "_law_begun" [.tup (pk.map dn), .tup (tb.map Tab.d), dn ck, dn wr] S (begunR pk tb ck wr).d := by
  refine (wFnL B.f__law_begun rfl ?_)
  show XS _ _ t__law_begun [_, _, _, _] S _
  repeat first
    | fail
    | refine pMulT (by simp) (by decide) (by decide) (by decide) ?_
  exact ⟨rfl, rfl⟩
theorem zMax0 {S : Sto} {w : Int} {Q : D → Prop} (q : ∀ n : Nat, Q (dn n)) : PF S .max [dn 0, .int w] Q := by
  refine ⟨_, rfl, ?_⟩
  have e : D.int (if w > ((0 : Nat) : Int) then w else ((0 : Nat) : Int)) = dn (if w > ((0 : Nat) : Int) then w else ((0 : Nat) : Int)).toNat := intDn (by split <;> omega)
  rw [e]
  exact q _
theorem zMinB {S : Sto} {a : Nat} {w : Int} {Q : D → Prop} (h : 0 ≤ w) (q : ∀ n : Nat, n ≤ a → Q (dn n)) : PF S .min [dn a, .int w] Q := by
  refine ⟨_, rfl, ?_⟩
  have e : D.int (if w < (a : Int) then w else (a : Int)) = dn (if w < (a : Int) then w else (a : Int)).toNat := intDn (by split <;> omega)
  rw [e]
  refine q _ ?_
  split <;> omega
/-- a loop over items that keeps the well -/
theorem xfKeep {G : Gb} {w : Nat} {tg : List Nat} {one : Bool} {body : List T} {env : EnvD} {I : D → Prop} (ws : List Nat) {Q : Fl → EnvD → Sto → Prop}
    (st : ∀ (d0 : D) (xs : List (Option D)) (S : Sto), xs.length = ws.length → I d0 → St j M S → WP (bindT tg one d0 (fillE env ws xs)) fun env1 => XS G w body env1 S fun f env2 S2 => f = .nx ∧ (∃ ys, ys.length = ws.length ∧ env2 = fillE env ws ys) ∧ St j M S2)
    (fin : ∀ xs S, xs.length = ws.length → St j M S → Q .nx (fillE env ws xs) S) {ds : List D} {xs : List (Option D)} {S : Sto} (hx : xs.length = ws.length) (hi : ∀ d ∈ ds, I d) (hs : St j M S) : XF (fun _ => true) tg one G w body ds (fillE env ws xs) S Q :=
  xfFill ws (fun ds S => (∀ d ∈ ds, I d) ∧ St j M S) (fun _ _ _ => rfl)
    (fun d0 ds xs S hx h => (st d0 xs S hx (h.1 d0 List.mem_cons_self) h.2).mono fun env1 h1 => h1.mono fun f env2 S2 h2 => ⟨h2.1, h2.2.1, fun d hd => h.1 d (List.mem_cons_of_mem _ hd), h2.2.2⟩)
    (fun xs S hx h => fin xs S hx h.2) ds xs S hx ⟨hi, hs⟩
theorem fOf_in {rows : List Row} {r : Run} {f : Str} (h : fOf rows r = some f) : f ∈ faults := by
  unfold fOf at h
  split at h
  · cases h
    decide +kernel
  · exact flt_in h
end S1

namespace K06
open PySem PySem.Spec PyProof.Rows L2 Ev
def t_is_whole : List T := [(.ret (.and' (.blt .isinstance [(.var 0), (.cst (.ty "int"))]) (.not' (.blt .isinstance [(.var 0), (.cst (.ty "bool"))]))))]
def t_is_between : List T := [(.ret (.and' (.call "is_whole" [(.var 0)]) (.chain .LtE .LtE (.var 1) (.var 0) (.var 2))))]
def t_is_from_nought : List T := [(.ret (.and' (.call "is_whole" [(.var 0)]) (.cmp .GtE (.var 0) (.cst (dn 0)))))]
def t_is_word : List T := [(.ret (.call "is_between" [(.var 0), (.cst (dn 0)), (.cst (dn 65535))]))]
def t_is_flag : List T := [(.ret (.call "is_between" [(.var 0), (.cst (dn 0)), (.cst (dn 1))]))]
def t_is_one_of : List T := [(.ret (.and' (.blt .isinstance [(.var 0), (.cst (.ty "str"))]) (.cmp .In (.var 0) (.var 1))))]
def t_is_tuple : List T := [(.ret (.and' (.blt .isinstance [(.var 0), (.cst (.ty "tuple"))]) (.chain .LtE .LtE (.var 1) (.blt .len [(.var 0)]) (.var 2))))]
def t_are_all : List T := [(.ret (.and' (.call "is_tuple" [(.var 0), (.var 1), (.var 2)]) (.cmp .Is (.call "first_bad" [(.var 0), (.var 3)]) (.cst .non))))]
def t_first_bad : List T := [(.for' [2, 3] false 2 [(.var 0)] [(.ife (.not' (.calll 1 [(.var 3)])) [(.ret (.var 2))] [])]), (.ret (.cst .non))]
def t_combined : List T := [(.ife (.cmp .Eq (.var 0) (.cst (.str "add"))) [(.ret (.bin .BitAnd (.bin .Add (.var 1) (.var 2)) (.cst (dn 65535))))] []), (.ife (.cmp .Eq (.var 0) (.cst (.str "sub"))) [(.ret (.bin .BitAnd (.bin .Sub (.var 1) (.var 2)) (.cst (dn 65535))))] []), (.ife (.cmp .Eq (.var 0) (.cst (.str "and"))) [(.ret (.bin .BitAnd (.var 1) (.var 2)))] []), (.ife (.cmp .Eq (.var 0) (.cst (.str "or"))) [(.ret (.bin .BitOr (.var 1) (.var 2)))] []), (.ife (.cmp .Eq (.var 0) (.cst (.str "xor"))) [(.ret (.bin .BitXor (.var 1) (.var 2)))] []), (.ife (.cmp .Eq (.var 0) (.cst (.str "left"))) [(.ret (.bin .BitAnd (.bin .LShift (.var 1) (.bin .BitAnd (.var 2) (.cst (dn 15)))) (.cst (dn 65535))))] []), (.ret (.bin .RShift (.var 1) (.bin .BitAnd (.var 2) (.cst (dn 15)))))]
def t_related : List T := [(.ife (.cmp .Eq (.var 0) (.cst (.str "same"))) [(.ret (.cmp .Eq (.var 1) (.var 2)))] []), (.ife (.cmp .Eq (.var 0) (.cst (.str "other"))) [(.ret (.cmp .NotEq (.var 1) (.var 2)))] []), (.ife (.cmp .Eq (.var 0) (.cst (.str "below"))) [(.ret (.cmp .Lt (.var 1) (.var 2)))] []), (.ife (.cmp .Eq (.var 0) (.cst (.str "from"))) [(.ret (.cmp .GtE (.var 1) (.var 2)))] []), (.ife (.cmp .Eq (.var 0) (.cst (.str "bit"))) [(.ret (.cmp .NotEq (.bin .BitAnd (.var 1) (.var 2)) (.cst (dn 0))))] []), (.ret (.cmp .Eq (.bin .BitAnd (.var 1) (.var 2)) (.cst (dn 0))))]
def t_ones_in : List T := [(.ret (.ones (.var 0)))]
def t_mixed : List T := [(.ret (.bin .BitAnd (.bin .Add (.bin .Mult (.var 0) (.cst (dn 40503))) (.cst (dn 1))) (.cst (dn 65535))))]
def t_exchanged : List T := [(.ret (.bin .Add (.bin .Add (.sl (.var 0) false true (.cst .non) (.var 1)) (.tup [(.var 2)])) (.sl (.var 0) true false (.bin .Add (.var 1) (.cst (dn 1))) (.cst .non))))]
def t_pair_index : List T := [(.for' [2, 3] false 2 [(.var 0)] [(.ife (.cmp .Eq (.idx (.var 3) (.cst (dn 0))) (.var 1)) [(.ret (.var 2))] [])]), (.ret (.cst .non))]
def t_table_fault : List T := [(.par [2, 3] [(.idx (.var 0) (.cst (dn 0))), (.idx (.var 0) (.neg (.cst (dn 2))))]), (.par [4, 5] [(.idx (.var 1) (.cst (dn 5))), (.idx (.idx (.var 1) (.cst (dn 0))) (.idx (.var 0) (.neg (.cst (dn 1)))))]), (.asg (.name 6) (.ife (.cmp .In (.var 2) (.tup [(.cst (.str "cell")), (.cst (.str "fill")), (.cst (.str "count"))])) (.cst (.str "array")) (.cst (.str "pairs")))), (.ife (.or' (.cmp .GtE (.var 3) (.blt .len [(.var 4)])) (.cmp .NotEq (.idx (.idx (.var 4) (.var 3)) (.cst (dn 0))) (.var 6))) [(.ret (.cst (.str "table")))] []), (.ife (.and' (.cmp .In (.var 2) (.tup [(.cst (.str "fill")), (.cst (.str "count")), (.cst (.str "change"))])) (.cmp .Eq (.idx (.idx (.var 4) (.var 3)) (.cst (dn 1))) (.cst (dn 0)))) [(.ret (.cst (.str "table")))] []), (.asg (.name 7) (.blt .len [(.idx (.idx (.var 4) (.var 3)) (.cst (dn 2)))])), (.ife (.and' (.cmp .Eq (.var 6) (.cst (.str "array"))) (.cmp .GtE (.var 5) (.var 7))) [(.ret (.cst (.str "index")))] []), (.ife (.and' (.cmp .In (.var 2) (.tup [(.cst (.str "value")), (.cst (.str "change"))])) (.not' (.chain .LtE .LtE (.cst (dn 1)) (.var 5) (.var 7)))) [(.ret (.cst (.str "handle")))] []), (.ret (.cst .non))]
def t_packet_fault : List T := [(.par [2, 3] [(.idx (.var 0) (.cst (dn 0))), (.bin .Add (.idx (.idx (.var 1) (.cst (dn 0))) (.idx (.var 0) (.cst (dn 2)))) (.idx (.var 0) (.cst (dn 3))))]), (.ife (.cmp .Eq (.var 2) (.cst (.str "pair"))) [(.aug 3 .Add (.cst (dn 1)))] []), (.ife (.cmp .GtE (.var 3) (.blt .len [(.idx (.var 1) (.cst (dn 4)))])) [(.ret (.cst (.str "packet")))] []), (.ife (.and' (.cmp .Eq (.var 2) (.cst (.str "write"))) (.cmp .Eq (.idx (.var 1) (.cst (dn 9))) (.cst (dn 0)))) [(.ret (.cst (.str "grant")))] []), (.ret (.cst .non))]
def t_next_fault : List T := [(.ife (.cmp .GtE (.idx (.var 1) (.cst (dn 3))) (.blt .len [(.var 0)])) [(.ret (.cst (.str "place")))] []), (.asg (.name 2) (.idx (.var 0) (.idx (.var 1) (.cst (dn 3))))), (.ife (.cmp .In (.idx (.var 2) (.cst (dn 0))) (.tup [(.cst (.str "cell")), (.cst (.str "fill")), (.cst (.str "count")), (.cst (.str "find")), (.cst (.str "value")), (.cst (.str "change"))])) [(.ret (.call "table_fault" [(.var 2), (.var 1)]))] []), (.ife (.cmp .In (.idx (.var 2) (.cst (dn 0))) (.tup [(.cst (.str "byte")), (.cst (.str "pair")), (.cst (.str "write"))])) [(.ret (.call "packet_fault" [(.var 2), (.var 1)]))] []), (.ret (.cst .non))]
def t_set_word : List T := [(.ret (.idx (.var 0) (.cst (dn 2))))]
def t_moved_word : List T := [(.ret (.idx (.idx (.var 1) (.cst (dn 0))) (.idx (.var 0) (.cst (dn 2)))))]
def t_length_word : List T := [(.ret (.blt .len [(.idx (.var 1) (.cst (dn 4)))]))]
def t_taken_word : List T := [(.ret (.idx (.idx (.var 1) (.cst (dn 1))) (.idx (.var 0) (.cst (dn 2)))))]
def t_combined_word : List T := [(.ret (.call "combined" [(.idx (.var 0) (.cst (dn 0))), (.idx (.idx (.var 1) (.cst (dn 0))) (.idx (.var 0) (.cst (dn 1)))), (.idx (.idx (.var 1) (.cst (dn 0))) (.idx (.var 0) (.cst (dn 2))))]))]
def t_combined_number : List T := [(.ret (.call "combined" [(.sl (.idx (.var 0) (.cst (dn 0))) false true (.cst .non) (.neg (.cst (dn 1)))), (.idx (.idx (.var 1) (.cst (dn 0))) (.idx (.var 0) (.cst (dn 1)))), (.idx (.var 0) (.cst (dn 2)))]))]
def t_byte_word : List T := [(.ret (.idx (.idx (.var 1) (.cst (dn 4))) (.bin .Add (.idx (.idx (.var 1) (.cst (dn 0))) (.idx (.var 0) (.cst (dn 2)))) (.idx (.var 0) (.cst (dn 3))))))]
def t_pair_word : List T := [(.asg (.name 2) (.bin .Add (.idx (.idx (.var 1) (.cst (dn 0))) (.idx (.var 0) (.cst (dn 2)))) (.idx (.var 0) (.cst (dn 3))))), (.ret (.bin .Add (.bin .Mult (.cst (dn 256)) (.idx (.idx (.var 1) (.cst (dn 4))) (.var 2))) (.idx (.idx (.var 1) (.cst (dn 4))) (.bin .Add (.var 2) (.cst (dn 1))))))]
def t_cell_word : List T := [(.ret (.idx (.idx (.idx (.idx (.var 1) (.cst (dn 5))) (.idx (.var 0) (.cst (dn 2)))) (.cst (dn 2))) (.idx (.idx (.var 1) (.cst (dn 0))) (.idx (.var 0) (.cst (dn 3))))))]
def t_found_word : List T := [(.asg (.name 2) (.call "pair_index" [(.idx (.idx (.idx (.var 1) (.cst (dn 5))) (.idx (.var 0) (.cst (dn 2)))) (.cst (dn 2))), (.idx (.idx (.var 1) (.cst (dn 0))) (.idx (.var 0) (.cst (dn 3))))])), (.ret (.ife (.cmp .Is (.var 2) (.cst .non)) (.cst (dn 0)) (.bin .Add (.var 2) (.cst (dn 1)))))]
def t_value_word : List T := [(.ret (.idx (.idx (.idx (.idx (.idx (.var 1) (.cst (dn 5))) (.idx (.var 0) (.cst (dn 2)))) (.cst (dn 2))) (.bin .Sub (.idx (.idx (.var 1) (.cst (dn 0))) (.idx (.var 0) (.cst (dn 3)))) (.cst (dn 1)))) (.cst (dn 1))))]
def t_asked_word : List T := [(.ife (.cmp .Eq (.idx (.var 0) (.cst (dn 2))) (.cst (.str "clock"))) [(.ret (.idx (.var 1) (.cst (dn 6))))] []), (.asg (.name 2) (.idx (.idx (.var 1) (.cst (dn 0))) (.idx (.var 0) (.cst (dn 3))))), (.ret (.ife (.cmp .Eq (.idx (.var 0) (.cst (dn 2))) (.cst (.str "ones"))) (.call "ones_in" [(.var 2)]) (.call "mixed" [(.var 2)])))]
def t_with_content : List T := [(.asg (.name 3) (.call "exchanged" [(.idx (.idx (.var 0) (.cst (dn 5))) (.var 1)), (.cst (dn 2)), (.var 2)])), (.ret (.call "exchanged" [(.var 0), (.cst (dn 5)), (.call "exchanged" [(.idx (.var 0) (.cst (dn 5))), (.var 1), (.var 3)])]))]
def t_kept : List T := [(.ret (.call "exchanged" [(.var 1), (.cst (dn 1)), (.call "exchanged" [(.idx (.var 1) (.cst (dn 1))), (.idx (.var 0) (.cst (dn 2))), (.idx (.idx (.var 1) (.cst (dn 0))) (.idx (.var 0) (.cst (dn 1))))])]))]
def t_written : List T := [(.asg (.name 2) (.bin .Add (.idx (.idx (.var 1) (.cst (dn 0))) (.idx (.var 0) (.cst (dn 2)))) (.idx (.var 0) (.cst (dn 3))))), (.ret (.call "exchanged" [(.var 1), (.cst (dn 4)), (.call "exchanged" [(.idx (.var 1) (.cst (dn 4))), (.var 2), (.bin .BitAnd (.idx (.idx (.var 1) (.cst (dn 0))) (.idx (.var 0) (.cst (dn 1)))) (.cst (dn 255)))])]))]
def t_filled : List T := [(.asg (.name 2) (.idx (.idx (.idx (.var 1) (.cst (dn 5))) (.idx (.var 0) (.cst (dn 2)))) (.cst (dn 2)))), (.ret (.call "with_content" [(.var 1), (.idx (.var 0) (.cst (dn 2))), (.call "exchanged" [(.var 2), (.idx (.idx (.var 1) (.cst (dn 0))) (.idx (.var 0) (.cst (dn 3)))), (.idx (.idx (.var 1) (.cst (dn 0))) (.idx (.var 0) (.cst (dn 1))))])]))]
def t_counted : List T := [(.par [2, 3] [(.idx (.idx (.idx (.var 1) (.cst (dn 5))) (.idx (.var 0) (.cst (dn 1)))) (.cst (dn 2))), (.idx (.idx (.var 1) (.cst (dn 0))) (.idx (.var 0) (.cst (dn 2))))]), (.ret (.call "with_content" [(.var 1), (.idx (.var 0) (.cst (dn 1))), (.call "exchanged" [(.var 2), (.var 3), (.bin .BitAnd (.bin .Add (.idx (.var 2) (.var 3)) (.cst (dn 1))) (.cst (dn 65535)))])]))]
def t_changed : List T := [(.par [2, 3] [(.idx (.idx (.idx (.var 1) (.cst (dn 5))) (.idx (.var 0) (.cst (dn 2)))) (.cst (dn 2))), (.bin .Sub (.idx (.idx (.var 1) (.cst (dn 0))) (.idx (.var 0) (.cst (dn 3)))) (.cst (dn 1)))]), (.asg (.name 4) (.tup [(.idx (.idx (.var 2) (.var 3)) (.cst (dn 0))), (.idx (.idx (.var 1) (.cst (dn 0))) (.idx (.var 0) (.cst (dn 1))))])), (.ret (.call "with_content" [(.var 1), (.idx (.var 0) (.cst (dn 2))), (.call "exchanged" [(.var 2), (.var 3), (.var 4)])]))]
def t_begun_again : List T := [(.ret (.call "exchanged" [(.var 1), (.cst (dn 2)), (.call "exchanged" [(.idx (.var 1) (.cst (dn 2))), (.idx (.var 0) (.cst (dn 1))), (.cst (dn 0))])]))]
def t_leads_to : List T := [(.asg (.name 2) (.idx (.var 1) (.cst (dn 0)))), (.ife (.cmp .Eq (.idx (.var 0) (.cst (dn 0))) (.cst (.str "jump"))) [(.ret (.idx (.var 0) (.cst (dn 1))))] []), (.ife (.cmp .Eq (.idx (.var 0) (.cst (dn 0))) (.cst (.str "again"))) [(.ret (.ife (.cmp .Lt (.idx (.idx (.var 1) (.cst (dn 2))) (.idx (.var 0) (.cst (dn 1)))) (.idx (.var 0) (.cst (dn 2)))) (.idx (.var 0) (.cst (dn 3))) (.cst .non)))] []), (.asg (.name 3) (.ife (.cmp .Eq (.idx (.var 0) (.cst (dn 0))) (.cst (.str "when"))) (.idx (.var 2) (.idx (.var 0) (.cst (dn 3)))) (.idx (.var 0) (.cst (dn 3))))), (.ret (.ife (.call "related" [(.idx (.var 0) (.cst (dn 1))), (.idx (.var 2) (.idx (.var 0) (.cst (dn 2)))), (.var 3)]) (.idx (.var 0) (.cst (dn 4))) (.cst .non)))]
def t_gone_on : List T := [(.asg (.name 2) (.call "leads_to" [(.var 0), (.var 1)])), (.ife (.cmp .Is (.var 2) (.cst .non)) [(.ret (.call "exchanged" [(.var 1), (.cst (dn 3)), (.bin .Add (.idx (.var 1) (.cst (dn 3))) (.cst (dn 1)))]))] []), (.ife (.cmp .Eq (.idx (.var 0) (.cst (dn 0))) (.cst (.str "again"))) [(.asg (.name 3) (.idx (.var 1) (.cst (dn 2)))), (.asg (.name 1) (.call "exchanged" [(.var 1), (.cst (dn 2)), (.call "exchanged" [(.var 3), (.idx (.var 0) (.cst (dn 1))), (.bin .Add (.idx (.var 3) (.idx (.var 0) (.cst (dn 1)))) (.cst (dn 1)))])]))] []), (.ret (.call "exchanged" [(.var 1), (.cst (dn 3)), (.var 2)]))]
def t_done : List T := [(.asg (.name 2) (.idx (.var 0) (.cst (dn 0)))), (.ife (.cmp .In (.var 2) (.glob "WORDS")) [(.asg (.name 3) (.idx (.glob "WORDS") (.var 2))), (.asg (.name 4) (.call "exchanged" [(.idx (.var 1) (.cst (dn 0))), (.idx (.var 0) (.cst (dn 1))), (.calll 3 [(.var 0), (.var 1)])])), (.ret (.bin .Add (.bin .Add (.bin .Add (.tup [(.var 4)]) (.sl (.var 1) true true (.cst (dn 1)) (.cst (dn 3)))) (.tup [(.bin .Add (.idx (.var 1) (.cst (dn 3))) (.cst (dn 1)))])) (.sl (.var 1) true false (.cst (dn 4)) (.cst .non))))] []), (.ife (.cmp .In (.var 2) (.glob "CHANGES")) [(.asg (.name 5) (.idx (.glob "CHANGES") (.var 2))), (.ret (.call "exchanged" [(.calll 5 [(.var 0), (.var 1)]), (.cst (dn 3)), (.bin .Add (.idx (.var 1) (.cst (dn 3))) (.cst (dn 1)))]))] []), (.ife (.cmp .Eq (.var 2) (.cst (.str "answer"))) [(.ret (.call "exchanged" [(.var 1), (.cst (dn 8)), (.tup [(.cst (.str "answer")), (.idx (.idx (.var 1) (.cst (dn 0))) (.idx (.var 0) (.cst (dn 1))))])]))] []), (.ret (.call "gone_on" [(.var 0), (.var 1)]))]
def t_stepped : List T := [(.ife (.cmp .IsNot (.idx (.var 1) (.cst (dn 8))) (.cst .non)) [(.ret (.var 1))] []), (.asg (.name 2) (.call "next_fault" [(.var 0), (.var 1)])), (.ife (.cmp .IsNot (.var 2) (.cst .non)) [(.asg (.name 1) (.call "exchanged" [(.var 1), (.cst (dn 8)), (.tup [(.cst (.str "fault")), (.var 2)])]))] [(.asg (.name 1) (.call "done" [(.idx (.var 0) (.idx (.var 1) (.cst (dn 3)))), (.var 1)]))]), (.ret (.call "exchanged" [(.var 1), (.cst (dn 7)), (.bin .Add (.idx (.var 1) (.cst (dn 7))) (.cst (dn 1)))]))]
def t_is_byte : List T := [(.ret (.call "is_between" [(.var 0), (.cst (dn 0)), (.cst (dn 255))]))]
def t_is_packet : List T := [(.ret (.call "are_all" [(.var 0), (.cst (dn 0)), (.cst (dn 256)), (.cst (.fn "is_byte"))]))]
def t_is_pair : List T := [(.ret (.call "are_all" [(.var 0), (.cst (dn 2)), (.cst (dn 2)), (.cst (.fn "is_word"))]))]
def t_are_pairs : List T := [(.ife (.not' (.call "are_all" [(.var 0), (.cst (dn 0)), (.cst (dn 16)), (.cst (.fn "is_pair"))])) [(.ret (.cst (.bl false)))] []), (.asg (.name 1) (.comp [2] [2] true 0 [(.var 0)] false (.cst .non) (.idx (.var 2) (.cst (dn 0))))), (.ret (.gen false [none, none] [0, 1] false 3 [(.var 1), (.sl (.var 1) true false (.cst (dn 1)) (.cst .non))] (.cmp .Lt (.var 0) (.var 1))))]
def t_is_headed : List T := [(.ret (.and' (.call "is_tuple" [(.var 0), (.cst (dn 3)), (.cst (dn 3))]) (.and' (.blt .isinstance [(.idx (.var 0) (.cst (dn 0))), (.cst (.ty "str"))]) (.call "is_flag" [(.idx (.var 0) (.cst (dn 1)))]))))]
def t_is_table : List T := [(.ife (.not' (.call "is_headed" [(.var 0)])) [(.ret (.cst (.bl false)))] []), (.ife (.cmp .Eq (.idx (.var 0) (.cst (dn 0))) (.cst (.str "array"))) [(.ret (.call "are_all" [(.idx (.var 0) (.cst (dn 2))), (.cst (dn 1)), (.cst (dn 32)), (.cst (.fn "is_word"))]))] []), (.ret (.and' (.cmp .Eq (.idx (.var 0) (.cst (dn 0))) (.cst (.str "pairs"))) (.call "are_pairs" [(.idx (.var 0) (.cst (dn 2)))])))]
def t_are_tables : List T := [(.ret (.call "are_all" [(.var 0), (.cst (dn 0)), (.cst (dn 6)), (.cst (.fn "is_table"))]))]
def t_has_fields : List T := [(.ife (.or' (.not' (.blt .isinstance [(.var 0), (.cst (.ty "tuple"))])) (.or' (.not' (.var 0)) (.not' (.blt .isinstance [(.idx (.var 0) (.cst (dn 0))), (.cst (.ty "str"))])))) [(.ret (.cst (.bl false)))] []), (.ret (.and' (.cmp .In (.idx (.var 0) (.cst (dn 0))) (.glob "FIELDS")) (.cmp .Eq (.blt .len [(.var 0)]) (.bin .Add (.cst (dn 1)) (.blt .len [(.idx (.glob "FIELDS") (.idx (.var 0) (.cst (dn 0))))])))))]
def t_is_field : List T := [(.ife (.cmp .Eq (.var 0) (.cst (.str "condition"))) [(.ret (.call "is_one_of" [(.var 1), (.glob "CONDITIONS")]))] []), (.ife (.cmp .Eq (.var 0) (.cst (.str "helper"))) [(.ret (.call "is_one_of" [(.var 1), (.glob "HELPERS")]))] []), (.tup [(.name 2), (.name 3)] (.idx (.glob "BOUNDS") (.var 0))), (.ret (.call "is_between" [(.var 1), (.var 2), (.var 3)]))]
def t_is_row_form : List T := [(.ife (.not' (.call "has_fields" [(.var 0)])) [(.ret (.cst (.bl false)))] []), (.ret (.gen false [none, none] [0, 1] false 3 [(.idx (.glob "FIELDS") (.idx (.var 0) (.cst (dn 0)))), (.sl (.var 0) true false (.cst (dn 1)) (.cst .non))] (.call "is_field" [(.var 0), (.var 1)])))]
def t_is_row : List T := [(.ret (.call "is_row_form" [(.var 0)]))]
def t_is_count : List T := [(.ret (.call "is_between" [(.var 0), (.cst (dn 0)), (.cst (dn 100))]))]
def t_is_end : List T := [(.ife (.cmp .Is (.var 0) (.cst .non)) [(.ret (.cst (.bl true)))] []), (.ife (.or' (.not' (.call "is_tuple" [(.var 0), (.cst (dn 2)), (.cst (dn 2))])) (.not' (.blt .isinstance [(.idx (.var 0) (.cst (dn 0))), (.cst (.ty "str"))]))) [(.ret (.cst (.bl false)))] []), (.ife (.cmp .Eq (.idx (.var 0) (.cst (dn 0))) (.cst (.str "answer"))) [(.ret (.call "is_word" [(.idx (.var 0) (.cst (dn 1)))]))] []), (.ret (.and' (.cmp .Eq (.idx (.var 0) (.cst (dn 0))) (.cst (.str "fault"))) (.call "is_one_of" [(.idx (.var 0) (.cst (dn 1))), (.glob "FAULTS")])))]
def t_run_parts : List T := [(.ret (.tup [(.call "are_all" [(.idx (.var 0) (.cst (dn 0))), (.cst (dn 8)), (.cst (dn 8)), (.cst (.fn "is_word"))]), (.call "are_all" [(.idx (.var 0) (.cst (dn 1))), (.cst (dn 16)), (.cst (dn 16)), (.cst (.fn "is_word"))]), (.call "are_all" [(.idx (.var 0) (.cst (dn 2))), (.cst (dn 4)), (.cst (dn 4)), (.cst (.fn "is_count"))]), (.call "is_between" [(.idx (.var 0) (.cst (dn 3))), (.cst (dn 0)), (.cst (dn 120))]), (.call "is_packet" [(.idx (.var 0) (.cst (dn 4)))]), (.call "are_tables" [(.idx (.var 0) (.cst (dn 5)))]), (.call "is_word" [(.idx (.var 0) (.cst (dn 6)))]), (.call "is_from_nought" [(.idx (.var 0) (.cst (dn 7)))]), (.call "is_end" [(.idx (.var 0) (.cst (dn 8)))]), (.call "is_flag" [(.idx (.var 0) (.cst (dn 9)))])]))]
def t_need_sieve : List T := [(.ife (.not' (.call "is_tuple" [(.var 0), (.cst (dn 1)), (.cst (dn 120))])) [.stop] []), (.asg (.name 1) (.call "first_bad" [(.var 0), (.cst (.fn "is_row"))])), (.ife (.cmp .IsNot (.var 1) (.cst .non)) [.stop] [])]
def t_need_run : List T := [(.ife (.not' (.call "is_tuple" [(.var 0), (.cst (dn 10)), (.cst (dn 10))])) [.stop] []), (.for' [1, 2] false 2 [(.call "run_parts" [(.var 0)])] [(.ife (.not' (.var 2)) [.stop] [])])]
def t_need_steps : List T := [(.ife (.not' (.call "is_between" [(.var 0), (.cst (dn 0)), (.glob "MOST_STEPS")])) [.stop] [])]
def t_run_far : List T := [(.asg (.name 3) (.var 2)), (.while' (.and' (.cmp .Gt (.var 3) (.cst (dn 0))) (.cmp .Is (.idx (.var 1) (.cst (dn 8))) (.cst .non))) [(.asg (.name 1) (.call "stepped" [(.var 0), (.var 1)])), (.aug 3 .Sub (.cst (dn 1)))]), (.ret (.var 1))]
def t_one_step : List T := [(.expr (.call "need_sieve" [(.var 0)])), (.expr (.call "need_run" [(.var 1)])), (.ret (.call "stepped" [(.var 0), (.var 1)]))]
def t_run_on : List T := [(.expr (.call "need_sieve" [(.var 0)])), (.expr (.call "need_run" [(.var 1)])), (.expr (.call "need_steps" [(.var 2)])), (.ret (.call "run_far" [(.var 0), (.var 1), (.var 2)]))]
def t_fault_of : List T := [(.expr (.call "need_sieve" [(.var 0)])), (.expr (.call "need_run" [(.var 1)])), (.ret (.ife (.cmp .IsNot (.idx (.var 1) (.cst (dn 8))) (.cst .non)) (.cst .non) (.call "next_fault" [(.var 0), (.var 1)])))]
def t__law_jar : List T := [(.asg (.name 2) (.bin .Add (.cst (dn 5113)) (.bin .Mult (.cst (dn 7919)) (.var 1)))), (.for' [3] true 0 [(.sl (.var 0) false true (.cst .non) (.cst (dn 10)))] [(.asg (.name 2) (.bin .Mod (.blt .int [(.bin .Add (.bin .Add (.bin .Mult (.var 2) (.cst (dn 52361))) (.bin .Mult (.bin .Mod (.blt .int [(.var 3)]) (.cst (dn 2147483399))) (.cst (dn 11)))) (.cst (dn 3)))]) (.cst (dn 2147483399))))]), (.asg (.name 4) (.ife (.cmp .Lt (.var 1) (.blt .len [(.var 0)])) (.blt .int [(.idx (.var 0) (.var 1))]) (.cst (dn 0)))), (.ret (.newl [(.ife (.or' (.cmp .Lt (.var 4) (.cst (dn 0))) (.cmp .GtE (.var 4) (.bin .Pow (.cst (dn 10)) (.cst (dn 15))))) (.blt .abs [(.var 4)]) (.cst (dn 0))), (.var 2), (.cst (dn 0))]))]
def t__law_dip : List T := [(.ife (.cmp .Gt (.idx (.var 0) (.cst (dn 0))) (.cst (dn 0))) [(.tup [(.sub (.var 0) (.cst (dn 0))), (.name 2)] (.blt .divmod [(.idx (.var 0) (.cst (dn 0))), (.var 1)])), (.ret (.var 2))] []), (.asg (.sub (.var 0) (.cst (dn 2))) (.bin .Add (.idx (.var 0) (.cst (dn 2))) (.cst (dn 1)))), (.asg (.name 3) (.bin .Mod (.blt .int [(.bin .Add (.idx (.var 0) (.cst (dn 1))) (.bin .Mult (.cst (dn 28657)) (.idx (.var 0) (.cst (dn 2)))))]) (.cst (dn 2147483399)))), (.asg (.sub (.var 0) (.cst (dn 1))) (.bin .Mod (.blt .int [(.bin .Add (.bin .Mult (.var 3) (.bin .Add (.bin .Mod (.blt .int [(.var 3)]) (.cst (dn 5003))) (.cst (dn 48271)))) (.bin .Mult (.cst (dn 17)) (.idx (.var 0) (.cst (dn 2)))))]) (.cst (dn 2147483399)))), (.ret (.bin .Mod (.blt .int [(.bin .FloorDiv (.idx (.var 0) (.cst (dn 1))) (.cst (dn 613)))]) (.var 1)))]
def t__law_one_of : List T := [(.ret (.idx (.var 1) (.call "_law_dip" [(.var 0), (.blt .len [(.var 1)])])))]
def t__law_same : List T := [(.ret (.cmp .Eq (.blt .repr [(.var 0)]) (.blt .repr [(.var 1)])))]
def t__law_put : List T := [(.ret (.bin .Add (.bin .Add (.sl (.var 0) false true (.cst .non) (.var 1)) (.tup [(.var 2)])) (.sl (.var 0) true false (.bin .Add (.var 1) (.cst (dn 1))) (.cst .non))))]
def t__law_reckon : List T := [(.ife (.cmp .Eq (.var 0) (.cst (.str "add"))) [(.ret (.bin .Mod (.blt .int [(.bin .Add (.var 1) (.var 2))]) (.cst (dn 65536))))] []), (.ife (.cmp .Eq (.var 0) (.cst (.str "sub"))) [(.ret (.bin .Mod (.blt .int [(.bin .Sub (.var 1) (.var 2))]) (.cst (dn 65536))))] []), (.ife (.cmp .Eq (.var 0) (.cst (.str "and"))) [(.ret (.bin .BitAnd (.var 1) (.var 2)))] []), (.ife (.cmp .Eq (.var 0) (.cst (.str "or"))) [(.ret (.bin .BitOr (.var 1) (.var 2)))] []), (.ife (.cmp .Eq (.var 0) (.cst (.str "xor"))) [(.ret (.bin .BitXor (.var 1) (.var 2)))] []), (.asg (.name 3) (.bin .Mod (.blt .int [(.var 2)]) (.cst (dn 16)))), (.ret (.ife (.cmp .Eq (.var 0) (.cst (.str "left"))) (.bin .Mod (.blt .int [(.bin .LShift (.var 1) (.var 3))]) (.cst (dn 65536))) (.bin .RShift (.var 1) (.var 3))))]
def t__law_holds : List T := [(.asg (.name 3) (.bin .BitAnd (.var 1) (.var 2))), (.asg (.name 4) (.newd [(.inr "same"), (.inr "other"), (.inr "below"), (.inr "from")] [(.cmp .Eq (.var 1) (.var 2)), (.cmp .NotEq (.var 1) (.var 2)), (.cmp .Lt (.var 1) (.var 2)), (.cmp .GtE (.var 1) (.var 2))])), (.update (.var 4) (.newd [(.inr "bit"), (.inr "nobit")] [(.cmp .NotEq (.var 3) (.cst (dn 0))), (.cmp .Eq (.var 3) (.cst (dn 0)))])), (.ret (.idx (.var 4) (.var 0)))]
def t__law_table : List T := [(.asg (.name 2) (.ife (.cmp .Eq (.idx (.var 1) (.cst (dn 0))) (.cst (.str "count"))) (.idx (.var 1) (.cst (dn 1))) (.idx (.var 1) (.cst (dn 2))))), (.ife (.cmp .GtE (.var 2) (.blt .len [(.idx (.var 0) (.cst (dn 5)))])) [(.ret (.cst .non))] []), (.par [3, 4] [(.idx (.idx (.var 0) (.cst (dn 5))) (.var 2)), (.ife (.cmp .In (.idx (.var 1) (.cst (dn 0))) (.tup [(.cst (.str "cell")), (.cst (.str "fill")), (.cst (.str "count"))])) (.cst (.str "array")) (.cst (.str "pairs")))]), (.ife (.or' (.cmp .NotEq (.idx (.var 3) (.cst (dn 0))) (.var 4)) (.and' (.cmp .In (.idx (.var 1) (.cst (dn 0))) (.tup [(.cst (.str "fill")), (.cst (.str "count")), (.cst (.str "change"))])) (.cmp .Eq (.idx (.var 3) (.cst (dn 1))) (.cst (dn 0))))) [(.ret (.cst .non))] []), (.ret (.var 3))]
def t__law_fault : List T := [(.ife (.cmp .GtE (.idx (.var 1) (.cst (dn 3))) (.blt .len [(.var 0)])) [(.ret (.cst (.str "place")))] []), (.asg (.name 2) (.idx (.var 0) (.idx (.var 1) (.cst (dn 3))))), (.ife (.cmp .In (.idx (.var 2) (.cst (dn 0))) (.tup [(.cst (.str "cell")), (.cst (.str "fill")), (.cst (.str "count")), (.cst (.str "find")), (.cst (.str "value")), (.cst (.str "change"))])) [(.par [3, 4] [(.call "_law_table" [(.var 1), (.var 2)]), (.idx (.idx (.var 1) (.cst (dn 0))) (.idx (.var 2) (.bin .Sub (.blt .len [(.var 2)]) (.cst (dn 1)))))]), (.ife (.cmp .Is (.var 3) (.cst .non)) [(.ret (.cst (.str "table")))] []), (.ife (.cmp .Eq (.idx (.var 3) (.cst (dn 0))) (.cst (.str "array"))) [(.ret (.ife (.cmp .GtE (.var 4) (.blt .len [(.idx (.var 3) (.cst (dn 2)))])) (.cst (.str "index")) (.cst .non)))] []), (.ret (.ife (.and' (.cmp .NotEq (.idx (.var 2) (.cst (dn 0))) (.cst (.str "find"))) (.or' (.cmp .Eq (.var 4) (.cst (dn 0))) (.cmp .Gt (.var 4) (.blt .len [(.idx (.var 3) (.cst (dn 2)))])))) (.cst (.str "handle")) (.cst .non)))] []), (.ife (.cmp .In (.idx (.var 2) (.cst (dn 0))) (.tup [(.cst (.str "byte")), (.cst (.str "pair")), (.cst (.str "write"))])) [(.ife (.cmp .GtE (.bin .Add (.bin .Add (.idx (.idx (.var 1) (.cst (dn 0))) (.idx (.var 2) (.cst (dn 2)))) (.idx (.var 2) (.cst (dn 3)))) (.blt .int [(.cmp .Eq (.idx (.var 2) (.cst (dn 0))) (.cst (.str "pair")))])) (.blt .len [(.idx (.var 1) (.cst (dn 4)))])) [(.ret (.cst (.str "packet")))] []), (.ret (.ife (.and' (.cmp .Eq (.idx (.var 2) (.cst (dn 0))) (.cst (.str "write"))) (.cmp .Eq (.idx (.var 1) (.cst (dn 9))) (.cst (dn 0)))) (.cst (.str "grant")) (.cst .non)))] []), (.ret (.cst .non))]
def t__law_set : List T := [(.ret (.bin .Add (.tup [(.call "_law_put" [(.idx (.var 0) (.cst (dn 0))), (.var 1), (.var 2)])]) (.sl (.var 0) true false (.cst (dn 1)) (.cst .non))))]
def t__law_asked : List T := [(.ife (.cmp .Eq (.var 1) (.cst (.str "clock"))) [(.ret (.idx (.var 0) (.cst (dn 6))))] []), (.ret (.ife (.cmp .Eq (.var 1) (.cst (.str "mix"))) (.bin .Mod (.blt .int [(.bin .Add (.bin .Mult (.var 2) (.cst (dn 40503))) (.cst (dn 1)))]) (.cst (dn 65536))) (.blt .len [(.comp [3] [3] true 1 [(.cst (dn 16))] true (.cmp .Eq (.bin .BitAnd (.bin .RShift (.var 2) (.var 3)) (.cst (dn 1))) (.cst (dn 1))) (.var 3))])))]
def t__law_plain : List T := [(.par [2, 3] [(.idx (.var 1) (.cst (dn 0))), (.idx (.var 0) (.cst (dn 0)))]), (.ife (.cmp .In (.var 2) (.tup [(.cst (.str "set")), (.cst (.str "length"))])) [(.ret (.call "_law_set" [(.var 0), (.idx (.var 1) (.cst (dn 1))), (.ife (.cmp .Eq (.var 2) (.cst (.str "set"))) (.idx (.var 1) (.cst (dn 2))) (.blt .len [(.idx (.var 0) (.cst (dn 4)))]))]))] []), (.ife (.cmp .In (.var 2) (.tup [(.cst (.str "move")), (.cst (.str "take"))])) [(.ret (.call "_law_set" [(.var 0), (.idx (.var 1) (.cst (dn 1))), (.ife (.cmp .Eq (.var 2) (.cst (.str "move"))) (.idx (.var 3) (.idx (.var 1) (.cst (dn 2)))) (.idx (.idx (.var 0) (.cst (dn 1))) (.idx (.var 1) (.cst (dn 2)))))]))] []), (.ife (.cmp .Eq (.var 2) (.cst (.str "keep"))) [(.ret (.bin .Add (.bin .Add (.sl (.var 0) false true (.cst .non) (.cst (dn 1))) (.tup [(.call "_law_put" [(.idx (.var 0) (.cst (dn 1))), (.idx (.var 1) (.cst (dn 2))), (.idx (.var 3) (.idx (.var 1) (.cst (dn 1))))])])) (.sl (.var 0) true false (.cst (dn 2)) (.cst .non))))] []), (.ife (.cmp .Eq (.var 2) (.cst (.str "begin"))) [(.ret (.bin .Add (.bin .Add (.sl (.var 0) false true (.cst .non) (.cst (dn 2))) (.tup [(.call "_law_put" [(.idx (.var 0) (.cst (dn 2))), (.idx (.var 1) (.cst (dn 1))), (.cst (dn 0))])])) (.sl (.var 0) true false (.cst (dn 3)) (.cst .non))))] []), (.ife (.cmp .Eq (.var 2) (.cst (.str "ask"))) [(.ret (.call "_law_set" [(.var 0), (.idx (.var 1) (.cst (dn 1))), (.call "_law_asked" [(.var 0), (.idx (.var 1) (.cst (dn 2))), (.idx (.var 3) (.idx (.var 1) (.cst (dn 3))))])]))] []), (.ife (.cmp .In (.var 2) (.tup [(.cst (.str "add")), (.cst (.str "sub")), (.cst (.str "and")), (.cst (.str "or")), (.cst (.str "xor")), (.cst (.str "left")), (.cst (.str "right"))])) [(.ret (.call "_law_set" [(.var 0), (.idx (.var 1) (.cst (dn 1))), (.call "_law_reckon" [(.var 2), (.idx (.var 3) (.idx (.var 1) (.cst (dn 1)))), (.idx (.var 3) (.idx (.var 1) (.cst (dn 2))))])]))] []), (.ife (.cmp .In (.var 2) (.tup [(.cst (.str "addn")), (.cst (.str "andn")), (.cst (.str "orn")), (.cst (.str "xorn")), (.cst (.str "leftn")), (.cst (.str "rightn"))])) [(.ret (.call "_law_set" [(.var 0), (.idx (.var 1) (.cst (dn 1))), (.call "_law_reckon" [(.sl (.var 2) false true (.cst .non) (.bin .Sub (.blt .len [(.var 2)]) (.cst (dn 1)))), (.idx (.var 3) (.idx (.var 1) (.cst (dn 1)))), (.idx (.var 1) (.cst (dn 2)))])]))] []), (.ret (.cst .non))]
def t__law_reach : List T := [(.par [2, 3, 4] [(.idx (.var 1) (.cst (dn 0))), (.idx (.var 0) (.cst (dn 0))), (.idx (.var 0) (.cst (dn 4)))]), (.ife (.cmp .In (.var 2) (.tup [(.cst (.str "byte")), (.cst (.str "pair"))])) [(.asg (.name 5) (.bin .Add (.idx (.var 3) (.idx (.var 1) (.cst (dn 2)))) (.idx (.var 1) (.cst (dn 3))))), (.ret (.call "_law_set" [(.var 0), (.idx (.var 1) (.cst (dn 1))), (.ife (.cmp .Eq (.var 2) (.cst (.str "byte"))) (.idx (.var 4) (.var 5)) (.bin .Add (.bin .Mult (.idx (.var 4) (.var 5)) (.cst (dn 256))) (.idx (.var 4) (.bin .Add (.var 5) (.cst (dn 1))))))]))] []), (.ife (.cmp .Eq (.var 2) (.cst (.str "write"))) [(.asg (.name 6) (.call "_law_put" [(.var 4), (.bin .Add (.idx (.var 3) (.idx (.var 1) (.cst (dn 2)))) (.idx (.var 1) (.cst (dn 3)))), (.bin .Mod (.blt .int [(.idx (.var 3) (.idx (.var 1) (.cst (dn 1))))]) (.cst (dn 256)))])), (.ret (.bin .Add (.bin .Add (.sl (.var 0) false true (.cst .non) (.cst (dn 4))) (.tup [(.var 6)])) (.sl (.var 0) true false (.cst (dn 5)) (.cst .non))))] []), (.asg (.name 7) (.ife (.cmp .Eq (.var 2) (.cst (.str "count"))) (.idx (.var 1) (.cst (dn 1))) (.idx (.var 1) (.cst (dn 2))))), (.tup [(.name 8), (.name 9)] (.tup [(.idx (.idx (.var 0) (.cst (dn 5))) (.var 7)), (.idx (.var 3) (.idx (.var 1) (.bin .Sub (.blt .len [(.var 1)]) (.cst (dn 1)))))])), (.asg (.name 10) (.idx (.var 8) (.cst (dn 2)))), (.ife (.cmp .Eq (.var 2) (.cst (.str "find"))) [(.asg (.name 11) (.comp [5] [5] true 1 [(.blt .len [(.var 10)])] true (.cmp .Eq (.idx (.idx (.var 10) (.var 5)) (.cst (dn 0))) (.var 9)) (.bin .Add (.var 5) (.cst (dn 1))))), (.ret (.call "_law_set" [(.var 0), (.idx (.var 1) (.cst (dn 1))), (.ife (.cmp .NotEq (.var 11) (.lst [])) (.idx (.var 11) (.cst (dn 0))) (.cst (dn 0)))]))] []), (.ife (.cmp .In (.var 2) (.tup [(.cst (.str "cell")), (.cst (.str "value"))])) [(.ret (.call "_law_set" [(.var 0), (.idx (.var 1) (.cst (dn 1))), (.ife (.cmp .Eq (.var 2) (.cst (.str "cell"))) (.idx (.var 10) (.var 9)) (.idx (.idx (.var 10) (.bin .Sub (.var 9) (.cst (dn 1)))) (.cst (dn 1))))]))] []), (.ife (.cmp .Eq (.var 2) (.cst (.str "change"))) [(.asg (.name 6) (.call "_law_put" [(.var 10), (.bin .Sub (.var 9) (.cst (dn 1))), (.tup [(.idx (.idx (.var 10) (.bin .Sub (.var 9) (.cst (dn 1)))) (.cst (dn 0))), (.idx (.var 3) (.idx (.var 1) (.cst (dn 1))))])]))] [(.asg (.name 6) (.call "_law_put" [(.var 10), (.var 9), (.ife (.cmp .Eq (.var 2) (.cst (.str "fill"))) (.idx (.var 3) (.idx (.var 1) (.cst (dn 1)))) (.bin .Mod (.blt .int [(.bin .Add (.idx (.var 10) (.var 9)) (.cst (dn 1)))]) (.cst (dn 65536))))]))]), (.ret (.bin .Add (.bin .Add (.sl (.var 0) false true (.cst .non) (.cst (dn 5))) (.tup [(.call "_law_put" [(.idx (.var 0) (.cst (dn 5))), (.var 7), (.bin .Add (.sl (.var 8) false true (.cst .non) (.cst (dn 2))) (.tup [(.var 6)]))])])) (.sl (.var 0) true false (.cst (dn 6)) (.cst .non))))]
def t__law_way : List T := [(.par [2, 3, 4] [(.idx (.var 1) (.cst (dn 0))), (.idx (.var 0) (.cst (dn 0))), (.bin .Add (.idx (.var 0) (.cst (dn 3))) (.cst (dn 1)))]), (.ife (.cmp .Eq (.var 2) (.cst (.str "answer"))) [(.ret (.bin .Add (.bin .Add (.sl (.var 0) false true (.cst .non) (.cst (dn 8))) (.tup [(.tup [(.cst (.str "answer")), (.idx (.var 3) (.idx (.var 1) (.cst (dn 1))))])])) (.sl (.var 0) true false (.cst (dn 9)) (.cst .non))))] []), (.ife (.cmp .Eq (.var 2) (.cst (.str "jump"))) [(.asg (.name 4) (.idx (.var 1) (.cst (dn 1))))] [(.ife (.cmp .In (.var 2) (.tup [(.cst (.str "when")), (.cst (.str "whenn"))])) [(.asg (.name 5) (.ife (.cmp .Eq (.var 2) (.cst (.str "when"))) (.idx (.var 3) (.idx (.var 1) (.cst (dn 3)))) (.idx (.var 1) (.cst (dn 3))))), (.asg (.name 4) (.ife (.call "_law_holds" [(.idx (.var 1) (.cst (dn 1))), (.idx (.var 3) (.idx (.var 1) (.cst (dn 2)))), (.var 5)]) (.idx (.var 1) (.cst (dn 4))) (.var 4)))] [(.ife (.cmp .Lt (.idx (.idx (.var 0) (.cst (dn 2))) (.idx (.var 1) (.cst (dn 1)))) (.idx (.var 1) (.cst (dn 2)))) [(.asg (.name 0) (.bin .Add (.bin .Add (.sl (.var 0) false true (.cst .non) (.cst (dn 2))) (.tup [(.call "_law_put" [(.idx (.var 0) (.cst (dn 2))), (.idx (.var 1) (.cst (dn 1))), (.bin .Add (.idx (.idx (.var 0) (.cst (dn 2))) (.idx (.var 1) (.cst (dn 1)))) (.cst (dn 1)))])])) (.sl (.var 0) true false (.cst (dn 3)) (.cst .non)))), (.asg (.name 4) (.idx (.var 1) (.cst (dn 3))))] [])])]), (.ret (.bin .Add (.bin .Add (.sl (.var 0) false true (.cst .non) (.cst (dn 3))) (.tup [(.var 4)])) (.sl (.var 0) true false (.cst (dn 4)) (.cst .non))))]
def t__law_step : List T := [(.ife (.cmp .IsNot (.idx (.var 1) (.cst (dn 8))) (.cst .non)) [(.ret (.var 1))] []), (.par [2, 3] [(.call "_law_fault" [(.var 0), (.var 1)]), (.bin .Add (.idx (.var 1) (.cst (dn 7))) (.cst (dn 1)))]), (.ife (.cmp .IsNot (.var 2) (.cst .non)) [(.ret (.bin .Add (.bin .Add (.sl (.var 1) false true (.cst .non) (.cst (dn 7))) (.tup [(.var 3), (.tup [(.cst (.str "fault")), (.var 2)])])) (.sl (.var 1) true false (.cst (dn 9)) (.cst .non))))] []), (.asg (.name 4) (.idx (.var 0) (.idx (.var 1) (.cst (dn 3))))), (.ife (.cmp .In (.idx (.var 4) (.cst (dn 0))) (.tup [(.cst (.str "jump")), (.cst (.str "when")), (.cst (.str "whenn")), (.cst (.str "again")), (.cst (.str "answer"))])) [(.asg (.name 5) (.call "_law_way" [(.var 1), (.var 4)]))] [(.asg (.name 5) (.call "_law_plain" [(.var 1), (.var 4)])), (.asg (.name 5) (.ife (.cmp .Is (.var 5) (.cst .non)) (.call "_law_reach" [(.var 1), (.var 4)]) (.var 5))), (.asg (.name 5) (.bin .Add (.bin .Add (.sl (.var 5) false true (.cst .non) (.cst (dn 3))) (.tup [(.bin .Add (.idx (.var 1) (.cst (dn 3))) (.cst (dn 1)))])) (.sl (.var 5) true false (.cst (dn 4)) (.cst .non))))]), (.ret (.bin .Add (.bin .Add (.sl (.var 5) false true (.cst .non) (.cst (dn 7))) (.tup [(.var 3)])) (.sl (.var 5) true false (.cst (dn 8)) (.cst .non))))]
def t__law_run : List T := [(.for' [3] true 1 [(.var 2)] [(.ife (.cmp .IsNot (.idx (.var 1) (.cst (dn 8))) (.cst .non)) [(.ret (.var 1))] []), (.asg (.name 1) (.call "_law_step" [(.var 0), (.var 1)]))]), (.ret (.var 1))]
def t__law_begun : List T := [(.ret (.tup [(.bin .Mult (.tup [(.cst (dn 0))]) (.cst (dn 8))), (.bin .Mult (.tup [(.cst (dn 0))]) (.cst (dn 16))), (.bin .Mult (.tup [(.cst (dn 0))]) (.cst (dn 4))), (.cst (dn 0)), (.var 0), (.var 1), (.var 2), (.cst (dn 0)), (.cst .non), (.var 3)]))]
def t__law_word : List T := [(.asg (.name 1) (.call "_law_dip" [(.var 0), (.cst (dn 8))])), (.ife (.cmp .Lt (.var 1) (.cst (dn 4))) [(.ret (.call "_law_dip" [(.var 0), (.cst (dn 12))]))] []), (.ife (.cmp .Eq (.var 1) (.cst (dn 4))) [(.ret (.call "_law_one_of" [(.var 0), (.lst [(.cst (dn 255)), (.cst (dn 256)), (.cst (dn 257)), (.cst (dn 32767)), (.cst (dn 32768)), (.cst (dn 65535)), (.cst (dn 65534)), (.cst (dn 65280))])]))] []), (.ret (.ife (.cmp .Lt (.var 1) (.cst (dn 7))) (.call "_law_dip" [(.var 0), (.cst (dn 300))]) (.call "_law_dip" [(.var 0), (.cst (dn 65536))])))]
def t__law_bytes : List T := [(.asg (.name 2) (.newl [])), (.for' [3] true 1 [(.var 1)] [(.append (.var 2) (.ife (.cmp .Gt (.call "_law_dip" [(.var 0), (.cst (dn 3))]) (.cst (dn 0))) (.call "_law_one_of" [(.var 0), (.lst [(.cst (dn 0)), (.cst (dn 1)), (.cst (dn 2)), (.cst (dn 7)), (.cst (dn 69)), (.cst (dn 128)), (.cst (dn 254)), (.cst (dn 255))])]) (.call "_law_dip" [(.var 0), (.cst (dn 256))])))]), (.ret (.blt .tuple [(.var 2)]))]
def t__law_right : List T := [(.asg (.name 1) (.call "_law_one_of" [(.var 0), (.lst [(.cst (dn 0)), (.cst (dn 1)), (.cst (dn 2)), (.cst (dn 3)), (.cst (dn 4)), (.cst (dn 5)), (.cst (dn 6)), (.cst (dn 7)), (.cst (dn 8)), (.cst (dn 255)), (.cst (dn 256))])])), (.par [2, 3] [(.call "_law_bytes" [(.var 0), (.var 1)]), (.bin .FloorDiv (.call "_law_dip" [(.var 0), (.cst (dn 3))]) (.cst (dn 2)))]), (.for' [4] true 0 [(.tup [(.cst (.str "byte")), (.cst (.str "pair")), (.cst (.str "write"))])] [(.for' [5] true 0 [(.tup [(.neg (.cst (dn 3))), (.neg (.cst (dn 2))), (.neg (.cst (dn 1))), (.cst (dn 0)), (.cst (dn 1)), (.bin .Sub (.cst (dn 65536)) (.var 1)), (.cst (dn 65300))])] [(.for' [6] true 1 [(.cst (dn 2))] [(.asg (.name 7) (.call "_law_one_of" [(.var 0), (.lst [(.cst (dn 0)), (.cst (dn 1)), (.cst (dn 2)), (.cst (dn 255)), (.cst (dn 254)), (.cst (dn 3))])])), (.asg (.name 8) (.blt .min [(.cst (dn 65535)), (.blt .max [(.cst (dn 0)), (.bin .Sub (.bin .Add (.var 1) (.var 5)) (.var 7))])])), (.asg (.name 9) (.call "_law_begun" [(.var 2), (.tup []), (.call "_law_word" [(.var 0)]), (.var 3)])), (.asg (.name 9) (.bin .Add (.tup [(.bin .Add (.tup [(.var 8), (.call "_law_word" [(.var 0)])]) (.sl (.idx (.var 9) (.cst (dn 0))) true false (.cst (dn 2)) (.cst .non)))]) (.sl (.var 9) true false (.cst (dn 1)) (.cst .non)))), (.asg (.name 10) (.tup [(.tup [(.var 4), (.ife (.cmp .Eq (.var 4) (.cst (.str "write"))) (.cst (dn 1)) (.cst (dn 2))), (.cst (dn 0)), (.var 7)]), (.tup [(.cst (.str "answer")), (.cst (dn 2))])])), (.asg (.name 11) (.call "_law_step" [(.var 10), (.var 9)])), (.ife (.not' (.call "_law_same" [(.lst [(.call "one_step" [(.var 10), (.var 9)]), (.call "fault_of" [(.var 10), (.var 9)])]), (.lst [(.var 11), (.call "_law_fault" [(.var 10), (.var 9)])])])) [(.ret (.cst (.bl false)))] []), (.ife (.not' (.call "_law_same" [(.call "run_on" [(.var 10), (.var 9), (.cst (dn 2))]), (.call "_law_run" [(.var 10), (.var 9), (.cst (dn 2))])])) [(.ret (.cst (.bl false)))] [])])])]), (.ret (.cst (.bl true)))]
def t_law : List T := [(.ret (.blt .all [(.comp [1] [1] true 1 [(.blt .max [(.cst (dn 1)), (.blt .min [(.blt .len [(.var 0)]), (.cst (dn 3))])])] false (.cst .non) (.call "_law_right" [(.call "_law_jar" [(.var 0), (.var 1)])]))]))]
def lookF (x : Str) : List (Str × Df) → Option Df
  | [] => none
  | (y, d) :: r => if y = x then some d else lookF x r
def df (x : Str) : Option Df := lookF x (([("is_whole", ⟨["value"], 1, t_is_whole⟩), ("is_between", ⟨["value", "least", "most"], 3, t_is_between⟩), ("is_from_nought", ⟨["value"], 1, t_is_from_nought⟩), ("is_word", ⟨["value"], 1, t_is_word⟩), ("is_flag", ⟨["value"], 1, t_is_flag⟩), ("is_one_of", ⟨["value", "texts"], 2, t_is_one_of⟩), ("is_tuple", ⟨["value", "least", "most"], 3, t_is_tuple⟩), ("are_all", ⟨["value", "least", "most", "is_good"], 4, t_are_all⟩), ("first_bad", ⟨["values", "is_good"], 4, t_first_bad⟩), ("combined", ⟨["op", "one", "two"], 3, t_combined⟩), ("related", ⟨["condition", "one", "two"], 3, t_related⟩), ("ones_in", ⟨["number"], 1, t_ones_in⟩), ("mixed", ⟨["word"], 1, t_mixed⟩), ("exchanged", ⟨["row", "index", "value"], 3, t_exchanged⟩), ("pair_index", ⟨["pairs", "key"], 4, t_pair_index⟩), ("table_fault", ⟨["row", "run"], 8, t_table_fault⟩), ("packet_fault", ⟨["row", "run"], 4, t_packet_fault⟩), ("next_fault", ⟨["sieve", "run"], 3, t_next_fault⟩), ("set_word", ⟨["row", "run"], 2, t_set_word⟩), ("moved_word", ⟨["row", "run"], 2, t_moved_word⟩)] : List (Str × Df)) ++ ([("length_word", ⟨["row", "run"], 2, t_length_word⟩), ("taken_word", ⟨["row", "run"], 2, t_taken_word⟩), ("combined_word", ⟨["row", "run"], 2, t_combined_word⟩), ("combined_number", ⟨["row", "run"], 2, t_combined_number⟩), ("byte_word", ⟨["row", "run"], 2, t_byte_word⟩), ("pair_word", ⟨["row", "run"], 3, t_pair_word⟩), ("cell_word", ⟨["row", "run"], 2, t_cell_word⟩), ("found_word", ⟨["row", "run"], 3, t_found_word⟩), ("value_word", ⟨["row", "run"], 2, t_value_word⟩), ("asked_word", ⟨["row", "run"], 3, t_asked_word⟩), ("with_content", ⟨["run", "t", "content"], 4, t_with_content⟩), ("kept", ⟨["row", "run"], 2, t_kept⟩), ("written", ⟨["row", "run"], 3, t_written⟩), ("filled", ⟨["row", "run"], 3, t_filled⟩), ("counted", ⟨["row", "run"], 4, t_counted⟩), ("changed", ⟨["row", "run"], 5, t_changed⟩), ("begun_again", ⟨["row", "run"], 2, t_begun_again⟩), ("leads_to", ⟨["row", "run"], 4, t_leads_to⟩), ("gone_on", ⟨["row", "run"], 4, t_gone_on⟩), ("done", ⟨["row", "run"], 6, t_done⟩)] : List (Str × Df)) ++ ([("stepped", ⟨["sieve", "run"], 3, t_stepped⟩), ("is_byte", ⟨["value"], 1, t_is_byte⟩), ("is_packet", ⟨["value"], 1, t_is_packet⟩), ("is_pair", ⟨["value"], 1, t_is_pair⟩), ("are_pairs", ⟨["value"], 3, t_are_pairs⟩), ("is_headed", ⟨["value"], 1, t_is_headed⟩), ("is_table", ⟨["value"], 1, t_is_table⟩), ("are_tables", ⟨["value"], 1, t_are_tables⟩), ("has_fields", ⟨["value"], 1, t_has_fields⟩), ("is_field", ⟨["kind", "value"], 4, t_is_field⟩), ("is_row_form", ⟨["value"], 1, t_is_row_form⟩), ("is_row", ⟨["value"], 1, t_is_row⟩), ("is_count", ⟨["value"], 1, t_is_count⟩), ("is_end", ⟨["value"], 1, t_is_end⟩), ("run_parts", ⟨["value"], 1, t_run_parts⟩), ("need_sieve", ⟨["sieve"], 2, t_need_sieve⟩), ("need_run", ⟨["run"], 3, t_need_run⟩), ("need_steps", ⟨["steps"], 1, t_need_steps⟩), ("run_far", ⟨["sieve", "run", "steps"], 4, t_run_far⟩), ("one_step", ⟨["sieve", "run"], 2, t_one_step⟩)] : List (Str × Df)) ++ ([("run_on", ⟨["sieve", "run", "steps"], 3, t_run_on⟩), ("fault_of", ⟨["sieve", "run"], 2, t_fault_of⟩), ("_law_jar", ⟨["script", "turn"], 5, t__law_jar⟩), ("_law_dip", ⟨["jar", "top"], 4, t__law_dip⟩), ("_law_one_of", ⟨["jar", "some"], 2, t__law_one_of⟩), ("_law_same", ⟨["told", "due"], 2, t__law_same⟩), ("_law_put", ⟨["line", "at", "thing"], 3, t__law_put⟩), ("_law_reckon", ⟨["op", "one", "two"], 4, t__law_reckon⟩), ("_law_holds", ⟨["condition", "one", "two"], 5, t__law_holds⟩), ("_law_table", ⟨["run", "row"], 5, t__law_table⟩), ("_law_fault", ⟨["sieve", "run"], 5, t__law_fault⟩), ("_law_set", ⟨["run", "at", "word"], 3, t__law_set⟩), ("_law_asked", ⟨["run", "help_word", "word"], 4, t__law_asked⟩), ("_law_plain", ⟨["run", "row"], 4, t__law_plain⟩), ("_law_reach", ⟨["run", "row"], 12, t__law_reach⟩), ("_law_way", ⟨["run", "row"], 6, t__law_way⟩), ("_law_step", ⟨["sieve", "run"], 6, t__law_step⟩), ("_law_run", ⟨["sieve", "run", "many"], 4, t__law_run⟩), ("_law_begun", ⟨["packet", "tables", "clock", "writable"], 4, t__law_begun⟩), ("_law_word", ⟨["jar"], 2, t__law_word⟩)] : List (Str × Df)) ++ ([("_law_bytes", ⟨["jar", "many"], 4, t__law_bytes⟩), ("_law_right", ⟨["jar"], 12, t__law_right⟩), ("law", ⟨["script"], 2, t_law⟩)] : List (Str × Df)))
theorem f_is_whole : df "is_whole" = some ⟨["value"], 1, t_is_whole⟩ := by kernel_rfl
theorem a_is_whole : df d_is_whole.name = some ⟨d_is_whole.ps, d_is_whole.N.length, cSs pg.fuel (pg.cc d_is_whole) d_is_whole.body⟩ := by kernel_rfl
theorem f_is_between : df "is_between" = some ⟨["value", "least", "most"], 3, t_is_between⟩ := by kernel_rfl
theorem a_is_between : df d_is_between.name = some ⟨d_is_between.ps, d_is_between.N.length, cSs pg.fuel (pg.cc d_is_between) d_is_between.body⟩ := by kernel_rfl
theorem f_is_from_nought : df "is_from_nought" = some ⟨["value"], 1, t_is_from_nought⟩ := by kernel_rfl
theorem a_is_from_nought : df d_is_from_nought.name = some ⟨d_is_from_nought.ps, d_is_from_nought.N.length, cSs pg.fuel (pg.cc d_is_from_nought) d_is_from_nought.body⟩ := by kernel_rfl
theorem f_is_word : df "is_word" = some ⟨["value"], 1, t_is_word⟩ := by kernel_rfl
theorem a_is_word : df d_is_word.name = some ⟨d_is_word.ps, d_is_word.N.length, cSs pg.fuel (pg.cc d_is_word) d_is_word.body⟩ := by kernel_rfl
theorem f_is_flag : df "is_flag" = some ⟨["value"], 1, t_is_flag⟩ := by kernel_rfl
theorem a_is_flag : df d_is_flag.name = some ⟨d_is_flag.ps, d_is_flag.N.length, cSs pg.fuel (pg.cc d_is_flag) d_is_flag.body⟩ := by kernel_rfl
theorem f_is_one_of : df "is_one_of" = some ⟨["value", "texts"], 2, t_is_one_of⟩ := by kernel_rfl
theorem a_is_one_of : df d_is_one_of.name = some ⟨d_is_one_of.ps, d_is_one_of.N.length, cSs pg.fuel (pg.cc d_is_one_of) d_is_one_of.body⟩ := by kernel_rfl
theorem f_is_tuple : df "is_tuple" = some ⟨["value", "least", "most"], 3, t_is_tuple⟩ := by kernel_rfl
theorem a_is_tuple : df d_is_tuple.name = some ⟨d_is_tuple.ps, d_is_tuple.N.length, cSs pg.fuel (pg.cc d_is_tuple) d_is_tuple.body⟩ := by kernel_rfl
theorem f_are_all : df "are_all" = some ⟨["value", "least", "most", "is_good"], 4, t_are_all⟩ := by kernel_rfl
theorem a_are_all : df d_are_all.name = some ⟨d_are_all.ps, d_are_all.N.length, cSs pg.fuel (pg.cc d_are_all) d_are_all.body⟩ := by kernel_rfl
theorem f_first_bad : df "first_bad" = some ⟨["values", "is_good"], 4, t_first_bad⟩ := by kernel_rfl
theorem a_first_bad : df d_first_bad.name = some ⟨d_first_bad.ps, d_first_bad.N.length, cSs pg.fuel (pg.cc d_first_bad) d_first_bad.body⟩ := by kernel_rfl
theorem f_combined : df "combined" = some ⟨["op", "one", "two"], 3, t_combined⟩ := by kernel_rfl
theorem a_combined : df d_combined.name = some ⟨d_combined.ps, d_combined.N.length, cSs pg.fuel (pg.cc d_combined) d_combined.body⟩ := by kernel_rfl
theorem f_related : df "related" = some ⟨["condition", "one", "two"], 3, t_related⟩ := by kernel_rfl
theorem a_related : df d_related.name = some ⟨d_related.ps, d_related.N.length, cSs pg.fuel (pg.cc d_related) d_related.body⟩ := by kernel_rfl
theorem f_ones_in : df "ones_in" = some ⟨["number"], 1, t_ones_in⟩ := by kernel_rfl
theorem a_ones_in : df d_ones_in.name = some ⟨d_ones_in.ps, d_ones_in.N.length, cSs pg.fuel (pg.cc d_ones_in) d_ones_in.body⟩ := by kernel_rfl
theorem f_mixed : df "mixed" = some ⟨["word"], 1, t_mixed⟩ := by kernel_rfl
theorem a_mixed : df d_mixed.name = some ⟨d_mixed.ps, d_mixed.N.length, cSs pg.fuel (pg.cc d_mixed) d_mixed.body⟩ := by kernel_rfl
theorem f_exchanged : df "exchanged" = some ⟨["row", "index", "value"], 3, t_exchanged⟩ := by kernel_rfl
theorem a_exchanged : df d_exchanged.name = some ⟨d_exchanged.ps, d_exchanged.N.length, cSs pg.fuel (pg.cc d_exchanged) d_exchanged.body⟩ := by kernel_rfl
theorem f_pair_index : df "pair_index" = some ⟨["pairs", "key"], 4, t_pair_index⟩ := by kernel_rfl
theorem a_pair_index : df d_pair_index.name = some ⟨d_pair_index.ps, d_pair_index.N.length, cSs pg.fuel (pg.cc d_pair_index) d_pair_index.body⟩ := by kernel_rfl
theorem f_table_fault : df "table_fault" = some ⟨["row", "run"], 8, t_table_fault⟩ := by kernel_rfl
theorem a_table_fault : df d_table_fault.name = some ⟨d_table_fault.ps, d_table_fault.N.length, cSs pg.fuel (pg.cc d_table_fault) d_table_fault.body⟩ := by kernel_rfl
theorem f_packet_fault : df "packet_fault" = some ⟨["row", "run"], 4, t_packet_fault⟩ := by kernel_rfl
theorem a_packet_fault : df d_packet_fault.name = some ⟨d_packet_fault.ps, d_packet_fault.N.length, cSs pg.fuel (pg.cc d_packet_fault) d_packet_fault.body⟩ := by kernel_rfl
theorem f_next_fault : df "next_fault" = some ⟨["sieve", "run"], 3, t_next_fault⟩ := by kernel_rfl
theorem a_next_fault : df d_next_fault.name = some ⟨d_next_fault.ps, d_next_fault.N.length, cSs pg.fuel (pg.cc d_next_fault) d_next_fault.body⟩ := by kernel_rfl
theorem f_set_word : df "set_word" = some ⟨["row", "run"], 2, t_set_word⟩ := by kernel_rfl
theorem a_set_word : df d_set_word.name = some ⟨d_set_word.ps, d_set_word.N.length, cSs pg.fuel (pg.cc d_set_word) d_set_word.body⟩ := by kernel_rfl
theorem f_moved_word : df "moved_word" = some ⟨["row", "run"], 2, t_moved_word⟩ := by kernel_rfl
theorem a_moved_word : df d_moved_word.name = some ⟨d_moved_word.ps, d_moved_word.N.length, cSs pg.fuel (pg.cc d_moved_word) d_moved_word.body⟩ := by kernel_rfl
theorem f_length_word : df "length_word" = some ⟨["row", "run"], 2, t_length_word⟩ := by kernel_rfl
theorem a_length_word : df d_length_word.name = some ⟨d_length_word.ps, d_length_word.N.length, cSs pg.fuel (pg.cc d_length_word) d_length_word.body⟩ := by kernel_rfl
theorem f_taken_word : df "taken_word" = some ⟨["row", "run"], 2, t_taken_word⟩ := by kernel_rfl
theorem a_taken_word : df d_taken_word.name = some ⟨d_taken_word.ps, d_taken_word.N.length, cSs pg.fuel (pg.cc d_taken_word) d_taken_word.body⟩ := by kernel_rfl
theorem f_combined_word : df "combined_word" = some ⟨["row", "run"], 2, t_combined_word⟩ := by kernel_rfl
theorem a_combined_word : df d_combined_word.name = some ⟨d_combined_word.ps, d_combined_word.N.length, cSs pg.fuel (pg.cc d_combined_word) d_combined_word.body⟩ := by kernel_rfl
theorem f_combined_number : df "combined_number" = some ⟨["row", "run"], 2, t_combined_number⟩ := by kernel_rfl
theorem a_combined_number : df d_combined_number.name = some ⟨d_combined_number.ps, d_combined_number.N.length, cSs pg.fuel (pg.cc d_combined_number) d_combined_number.body⟩ := by kernel_rfl
theorem f_byte_word : df "byte_word" = some ⟨["row", "run"], 2, t_byte_word⟩ := by kernel_rfl
theorem a_byte_word : df d_byte_word.name = some ⟨d_byte_word.ps, d_byte_word.N.length, cSs pg.fuel (pg.cc d_byte_word) d_byte_word.body⟩ := by kernel_rfl
theorem f_pair_word : df "pair_word" = some ⟨["row", "run"], 3, t_pair_word⟩ := by kernel_rfl
theorem a_pair_word : df d_pair_word.name = some ⟨d_pair_word.ps, d_pair_word.N.length, cSs pg.fuel (pg.cc d_pair_word) d_pair_word.body⟩ := by kernel_rfl
theorem f_cell_word : df "cell_word" = some ⟨["row", "run"], 2, t_cell_word⟩ := by kernel_rfl
theorem a_cell_word : df d_cell_word.name = some ⟨d_cell_word.ps, d_cell_word.N.length, cSs pg.fuel (pg.cc d_cell_word) d_cell_word.body⟩ := by kernel_rfl
theorem f_found_word : df "found_word" = some ⟨["row", "run"], 3, t_found_word⟩ := by kernel_rfl
theorem a_found_word : df d_found_word.name = some ⟨d_found_word.ps, d_found_word.N.length, cSs pg.fuel (pg.cc d_found_word) d_found_word.body⟩ := by kernel_rfl
theorem f_value_word : df "value_word" = some ⟨["row", "run"], 2, t_value_word⟩ := by kernel_rfl
theorem a_value_word : df d_value_word.name = some ⟨d_value_word.ps, d_value_word.N.length, cSs pg.fuel (pg.cc d_value_word) d_value_word.body⟩ := by kernel_rfl
theorem f_asked_word : df "asked_word" = some ⟨["row", "run"], 3, t_asked_word⟩ := by kernel_rfl
theorem a_asked_word : df d_asked_word.name = some ⟨d_asked_word.ps, d_asked_word.N.length, cSs pg.fuel (pg.cc d_asked_word) d_asked_word.body⟩ := by kernel_rfl
theorem f_with_content : df "with_content" = some ⟨["run", "t", "content"], 4, t_with_content⟩ := by kernel_rfl
theorem a_with_content : df d_with_content.name = some ⟨d_with_content.ps, d_with_content.N.length, cSs pg.fuel (pg.cc d_with_content) d_with_content.body⟩ := by kernel_rfl
theorem f_kept : df "kept" = some ⟨["row", "run"], 2, t_kept⟩ := by kernel_rfl
theorem a_kept : df d_kept.name = some ⟨d_kept.ps, d_kept.N.length, cSs pg.fuel (pg.cc d_kept) d_kept.body⟩ := by kernel_rfl
theorem f_written : df "written" = some ⟨["row", "run"], 3, t_written⟩ := by kernel_rfl
theorem a_written : df d_written.name = some ⟨d_written.ps, d_written.N.length, cSs pg.fuel (pg.cc d_written) d_written.body⟩ := by kernel_rfl
theorem f_filled : df "filled" = some ⟨["row", "run"], 3, t_filled⟩ := by kernel_rfl
theorem a_filled : df d_filled.name = some ⟨d_filled.ps, d_filled.N.length, cSs pg.fuel (pg.cc d_filled) d_filled.body⟩ := by kernel_rfl
theorem f_counted : df "counted" = some ⟨["row", "run"], 4, t_counted⟩ := by kernel_rfl
theorem a_counted : df d_counted.name = some ⟨d_counted.ps, d_counted.N.length, cSs pg.fuel (pg.cc d_counted) d_counted.body⟩ := by kernel_rfl
theorem f_changed : df "changed" = some ⟨["row", "run"], 5, t_changed⟩ := by kernel_rfl
theorem a_changed : df d_changed.name = some ⟨d_changed.ps, d_changed.N.length, cSs pg.fuel (pg.cc d_changed) d_changed.body⟩ := by kernel_rfl
theorem f_begun_again : df "begun_again" = some ⟨["row", "run"], 2, t_begun_again⟩ := by kernel_rfl
theorem a_begun_again : df d_begun_again.name = some ⟨d_begun_again.ps, d_begun_again.N.length, cSs pg.fuel (pg.cc d_begun_again) d_begun_again.body⟩ := by kernel_rfl
theorem f_leads_to : df "leads_to" = some ⟨["row", "run"], 4, t_leads_to⟩ := by kernel_rfl
theorem a_leads_to : df d_leads_to.name = some ⟨d_leads_to.ps, d_leads_to.N.length, cSs pg.fuel (pg.cc d_leads_to) d_leads_to.body⟩ := by kernel_rfl
theorem f_gone_on : df "gone_on" = some ⟨["row", "run"], 4, t_gone_on⟩ := by kernel_rfl
theorem a_gone_on : df d_gone_on.name = some ⟨d_gone_on.ps, d_gone_on.N.length, cSs pg.fuel (pg.cc d_gone_on) d_gone_on.body⟩ := by kernel_rfl
theorem f_done : df "done" = some ⟨["row", "run"], 6, t_done⟩ := by kernel_rfl
theorem a_done : df d_done.name = some ⟨d_done.ps, d_done.N.length, cSs pg.fuel (pg.cc d_done) d_done.body⟩ := by kernel_rfl
theorem f_stepped : df "stepped" = some ⟨["sieve", "run"], 3, t_stepped⟩ := by kernel_rfl
theorem a_stepped : df d_stepped.name = some ⟨d_stepped.ps, d_stepped.N.length, cSs pg.fuel (pg.cc d_stepped) d_stepped.body⟩ := by kernel_rfl
theorem f_is_byte : df "is_byte" = some ⟨["value"], 1, t_is_byte⟩ := by kernel_rfl
theorem a_is_byte : df d_is_byte.name = some ⟨d_is_byte.ps, d_is_byte.N.length, cSs pg.fuel (pg.cc d_is_byte) d_is_byte.body⟩ := by kernel_rfl
theorem f_is_packet : df "is_packet" = some ⟨["value"], 1, t_is_packet⟩ := by kernel_rfl
theorem a_is_packet : df d_is_packet.name = some ⟨d_is_packet.ps, d_is_packet.N.length, cSs pg.fuel (pg.cc d_is_packet) d_is_packet.body⟩ := by kernel_rfl
theorem f_is_pair : df "is_pair" = some ⟨["value"], 1, t_is_pair⟩ := by kernel_rfl
theorem a_is_pair : df d_is_pair.name = some ⟨d_is_pair.ps, d_is_pair.N.length, cSs pg.fuel (pg.cc d_is_pair) d_is_pair.body⟩ := by kernel_rfl
theorem f_are_pairs : df "are_pairs" = some ⟨["value"], 3, t_are_pairs⟩ := by kernel_rfl
theorem a_are_pairs : df d_are_pairs.name = some ⟨d_are_pairs.ps, d_are_pairs.N.length, cSs pg.fuel (pg.cc d_are_pairs) d_are_pairs.body⟩ := by kernel_rfl
theorem f_is_headed : df "is_headed" = some ⟨["value"], 1, t_is_headed⟩ := by kernel_rfl
theorem a_is_headed : df d_is_headed.name = some ⟨d_is_headed.ps, d_is_headed.N.length, cSs pg.fuel (pg.cc d_is_headed) d_is_headed.body⟩ := by kernel_rfl
theorem f_is_table : df "is_table" = some ⟨["value"], 1, t_is_table⟩ := by kernel_rfl
theorem a_is_table : df d_is_table.name = some ⟨d_is_table.ps, d_is_table.N.length, cSs pg.fuel (pg.cc d_is_table) d_is_table.body⟩ := by kernel_rfl
theorem f_are_tables : df "are_tables" = some ⟨["value"], 1, t_are_tables⟩ := by kernel_rfl
theorem a_are_tables : df d_are_tables.name = some ⟨d_are_tables.ps, d_are_tables.N.length, cSs pg.fuel (pg.cc d_are_tables) d_are_tables.body⟩ := by kernel_rfl
theorem f_has_fields : df "has_fields" = some ⟨["value"], 1, t_has_fields⟩ := by kernel_rfl
theorem a_has_fields : df d_has_fields.name = some ⟨d_has_fields.ps, d_has_fields.N.length, cSs pg.fuel (pg.cc d_has_fields) d_has_fields.body⟩ := by kernel_rfl
theorem f_is_field : df "is_field" = some ⟨["kind", "value"], 4, t_is_field⟩ := by kernel_rfl
theorem a_is_field : df d_is_field.name = some ⟨d_is_field.ps, d_is_field.N.length, cSs pg.fuel (pg.cc d_is_field) d_is_field.body⟩ := by kernel_rfl
theorem f_is_row_form : df "is_row_form" = some ⟨["value"], 1, t_is_row_form⟩ := by kernel_rfl
theorem a_is_row_form : df d_is_row_form.name = some ⟨d_is_row_form.ps, d_is_row_form.N.length, cSs pg.fuel (pg.cc d_is_row_form) d_is_row_form.body⟩ := by kernel_rfl
theorem f_is_row : df "is_row" = some ⟨["value"], 1, t_is_row⟩ := by kernel_rfl
theorem a_is_row : df d_is_row.name = some ⟨d_is_row.ps, d_is_row.N.length, cSs pg.fuel (pg.cc d_is_row) d_is_row.body⟩ := by kernel_rfl
theorem f_is_count : df "is_count" = some ⟨["value"], 1, t_is_count⟩ := by kernel_rfl
theorem a_is_count : df d_is_count.name = some ⟨d_is_count.ps, d_is_count.N.length, cSs pg.fuel (pg.cc d_is_count) d_is_count.body⟩ := by kernel_rfl
theorem f_is_end : df "is_end" = some ⟨["value"], 1, t_is_end⟩ := by kernel_rfl
theorem a_is_end : df d_is_end.name = some ⟨d_is_end.ps, d_is_end.N.length, cSs pg.fuel (pg.cc d_is_end) d_is_end.body⟩ := by kernel_rfl
theorem f_run_parts : df "run_parts" = some ⟨["value"], 1, t_run_parts⟩ := by kernel_rfl
theorem a_run_parts : df d_run_parts.name = some ⟨d_run_parts.ps, d_run_parts.N.length, cSs pg.fuel (pg.cc d_run_parts) d_run_parts.body⟩ := by kernel_rfl
theorem f_need_sieve : df "need_sieve" = some ⟨["sieve"], 2, t_need_sieve⟩ := by kernel_rfl
theorem a_need_sieve : df d_need_sieve.name = some ⟨d_need_sieve.ps, d_need_sieve.N.length, cSs pg.fuel (pg.cc d_need_sieve) d_need_sieve.body⟩ := by kernel_rfl
theorem f_need_run : df "need_run" = some ⟨["run"], 3, t_need_run⟩ := by kernel_rfl
theorem a_need_run : df d_need_run.name = some ⟨d_need_run.ps, d_need_run.N.length, cSs pg.fuel (pg.cc d_need_run) d_need_run.body⟩ := by kernel_rfl
theorem f_need_steps : df "need_steps" = some ⟨["steps"], 1, t_need_steps⟩ := by kernel_rfl
theorem a_need_steps : df d_need_steps.name = some ⟨d_need_steps.ps, d_need_steps.N.length, cSs pg.fuel (pg.cc d_need_steps) d_need_steps.body⟩ := by kernel_rfl
theorem f_run_far : df "run_far" = some ⟨["sieve", "run", "steps"], 4, t_run_far⟩ := by kernel_rfl
theorem a_run_far : df d_run_far.name = some ⟨d_run_far.ps, d_run_far.N.length, cSs pg.fuel (pg.cc d_run_far) d_run_far.body⟩ := by kernel_rfl
theorem f_one_step : df "one_step" = some ⟨["sieve", "run"], 2, t_one_step⟩ := by kernel_rfl
theorem a_one_step : df d_one_step.name = some ⟨d_one_step.ps, d_one_step.N.length, cSs pg.fuel (pg.cc d_one_step) d_one_step.body⟩ := by kernel_rfl
theorem f_run_on : df "run_on" = some ⟨["sieve", "run", "steps"], 3, t_run_on⟩ := by kernel_rfl
theorem a_run_on : df d_run_on.name = some ⟨d_run_on.ps, d_run_on.N.length, cSs pg.fuel (pg.cc d_run_on) d_run_on.body⟩ := by kernel_rfl
theorem f_fault_of : df "fault_of" = some ⟨["sieve", "run"], 2, t_fault_of⟩ := by kernel_rfl
theorem a_fault_of : df d_fault_of.name = some ⟨d_fault_of.ps, d_fault_of.N.length, cSs pg.fuel (pg.cc d_fault_of) d_fault_of.body⟩ := by kernel_rfl
theorem f__law_jar : df "_law_jar" = some ⟨["script", "turn"], 5, t__law_jar⟩ := by kernel_rfl
theorem a__law_jar : df d__law_jar.name = some ⟨d__law_jar.ps, d__law_jar.N.length, cSs pg.fuel (pg.cc d__law_jar) d__law_jar.body⟩ := by kernel_rfl
theorem f__law_dip : df "_law_dip" = some ⟨["jar", "top"], 4, t__law_dip⟩ := by kernel_rfl
theorem a__law_dip : df d__law_dip.name = some ⟨d__law_dip.ps, d__law_dip.N.length, cSs pg.fuel (pg.cc d__law_dip) d__law_dip.body⟩ := by kernel_rfl
theorem f__law_one_of : df "_law_one_of" = some ⟨["jar", "some"], 2, t__law_one_of⟩ := by kernel_rfl
theorem a__law_one_of : df d__law_one_of.name = some ⟨d__law_one_of.ps, d__law_one_of.N.length, cSs pg.fuel (pg.cc d__law_one_of) d__law_one_of.body⟩ := by kernel_rfl
theorem f__law_same : df "_law_same" = some ⟨["told", "due"], 2, t__law_same⟩ := by kernel_rfl
theorem a__law_same : df d__law_same.name = some ⟨d__law_same.ps, d__law_same.N.length, cSs pg.fuel (pg.cc d__law_same) d__law_same.body⟩ := by kernel_rfl
theorem f__law_put : df "_law_put" = some ⟨["line", "at", "thing"], 3, t__law_put⟩ := by kernel_rfl
theorem a__law_put : df d__law_put.name = some ⟨d__law_put.ps, d__law_put.N.length, cSs pg.fuel (pg.cc d__law_put) d__law_put.body⟩ := by kernel_rfl
theorem f__law_reckon : df "_law_reckon" = some ⟨["op", "one", "two"], 4, t__law_reckon⟩ := by kernel_rfl
theorem a__law_reckon : df d__law_reckon.name = some ⟨d__law_reckon.ps, d__law_reckon.N.length, cSs pg.fuel (pg.cc d__law_reckon) d__law_reckon.body⟩ := by kernel_rfl
theorem f__law_holds : df "_law_holds" = some ⟨["condition", "one", "two"], 5, t__law_holds⟩ := by kernel_rfl
theorem a__law_holds : df d__law_holds.name = some ⟨d__law_holds.ps, d__law_holds.N.length, cSs pg.fuel (pg.cc d__law_holds) d__law_holds.body⟩ := by kernel_rfl
theorem f__law_table : df "_law_table" = some ⟨["run", "row"], 5, t__law_table⟩ := by kernel_rfl
theorem a__law_table : df d__law_table.name = some ⟨d__law_table.ps, d__law_table.N.length, cSs pg.fuel (pg.cc d__law_table) d__law_table.body⟩ := by kernel_rfl
theorem f__law_fault : df "_law_fault" = some ⟨["sieve", "run"], 5, t__law_fault⟩ := by kernel_rfl
theorem a__law_fault : df d__law_fault.name = some ⟨d__law_fault.ps, d__law_fault.N.length, cSs pg.fuel (pg.cc d__law_fault) d__law_fault.body⟩ := by kernel_rfl
theorem f__law_set : df "_law_set" = some ⟨["run", "at", "word"], 3, t__law_set⟩ := by kernel_rfl
theorem a__law_set : df d__law_set.name = some ⟨d__law_set.ps, d__law_set.N.length, cSs pg.fuel (pg.cc d__law_set) d__law_set.body⟩ := by kernel_rfl
theorem f__law_asked : df "_law_asked" = some ⟨["run", "help_word", "word"], 4, t__law_asked⟩ := by kernel_rfl
theorem a__law_asked : df d__law_asked.name = some ⟨d__law_asked.ps, d__law_asked.N.length, cSs pg.fuel (pg.cc d__law_asked) d__law_asked.body⟩ := by kernel_rfl
theorem f__law_plain : df "_law_plain" = some ⟨["run", "row"], 4, t__law_plain⟩ := by kernel_rfl
theorem a__law_plain : df d__law_plain.name = some ⟨d__law_plain.ps, d__law_plain.N.length, cSs pg.fuel (pg.cc d__law_plain) d__law_plain.body⟩ := by kernel_rfl
theorem f__law_reach : df "_law_reach" = some ⟨["run", "row"], 12, t__law_reach⟩ := by kernel_rfl
theorem a__law_reach : df d__law_reach.name = some ⟨d__law_reach.ps, d__law_reach.N.length, cSs pg.fuel (pg.cc d__law_reach) d__law_reach.body⟩ := by kernel_rfl
theorem f__law_way : df "_law_way" = some ⟨["run", "row"], 6, t__law_way⟩ := by kernel_rfl
theorem a__law_way : df d__law_way.name = some ⟨d__law_way.ps, d__law_way.N.length, cSs pg.fuel (pg.cc d__law_way) d__law_way.body⟩ := by kernel_rfl
theorem f__law_step : df "_law_step" = some ⟨["sieve", "run"], 6, t__law_step⟩ := by kernel_rfl
theorem a__law_step : df d__law_step.name = some ⟨d__law_step.ps, d__law_step.N.length, cSs pg.fuel (pg.cc d__law_step) d__law_step.body⟩ := by kernel_rfl
theorem f__law_run : df "_law_run" = some ⟨["sieve", "run", "many"], 4, t__law_run⟩ := by kernel_rfl
theorem a__law_run : df d__law_run.name = some ⟨d__law_run.ps, d__law_run.N.length, cSs pg.fuel (pg.cc d__law_run) d__law_run.body⟩ := by kernel_rfl
theorem f__law_begun : df "_law_begun" = some ⟨["packet", "tables", "clock", "writable"], 4, t__law_begun⟩ := by kernel_rfl
theorem a__law_begun : df d__law_begun.name = some ⟨d__law_begun.ps, d__law_begun.N.length, cSs pg.fuel (pg.cc d__law_begun) d__law_begun.body⟩ := by kernel_rfl
theorem f__law_word : df "_law_word" = some ⟨["jar"], 2, t__law_word⟩ := by kernel_rfl
theorem a__law_word : df d__law_word.name = some ⟨d__law_word.ps, d__law_word.N.length, cSs pg.fuel (pg.cc d__law_word) d__law_word.body⟩ := by kernel_rfl
theorem f__law_bytes : df "_law_bytes" = some ⟨["jar", "many"], 4, t__law_bytes⟩ := by kernel_rfl
theorem a__law_bytes : df d__law_bytes.name = some ⟨d__law_bytes.ps, d__law_bytes.N.length, cSs pg.fuel (pg.cc d__law_bytes) d__law_bytes.body⟩ := by kernel_rfl
theorem f__law_right : df "_law_right" = some ⟨["jar"], 12, t__law_right⟩ := by kernel_rfl
theorem a__law_right : df d__law_right.name = some ⟨d__law_right.ps, d__law_right.N.length, cSs pg.fuel (pg.cc d__law_right) d__law_right.body⟩ := by kernel_rfl
theorem f_law : df "law" = some ⟨["script"], 2, t_law⟩ := by kernel_rfl
theorem a_law : df d_law.name = some ⟨d_law.ps, d_law.N.length, cSs pg.fuel (pg.cc d_law) d_law.body⟩ := by kernel_rfl
theorem lookF_mem {x : Str} {e : Df} : ∀ {l : List (Str × Df)}, lookF x l = some e → x ∈ l.map (·.1)
  | [], h => by cases h
  | (y, d) :: r, h => by
    simp only [lookF] at h
    split at h
    · rename_i q
      subst q
      exact List.mem_cons_self
    · exact List.mem_cons_of_mem _ (lookF_mem h)
theorem dom : ∀ g e, df g = some e → ∃ d ∈ pg.ds, d.name = g := by
  intro g e h
  have h2 : g ∈ pg.ds.map (·.name) := lookF_mem h
  obtain ⟨d, h3, h4⟩ := List.mem_map.mp h2
  exact ⟨d, h3, h4⟩
theorem ag : Ag pg df := by
  refine ⟨dom, fun d hd => ?_⟩
  simp only [pg, List.mem_cons, List.not_mem_nil, or_false] at hd
  rcases hd with rfl | rfl | rfl | rfl | rfl | rfl | rfl | rfl | rfl | rfl | rfl | rfl | rfl | rfl | rfl | rfl | rfl | rfl | rfl | rfl | rfl | rfl | rfl | rfl | rfl | rfl | rfl | rfl | rfl | rfl | rfl | rfl | rfl | rfl | rfl | rfl | rfl | rfl | rfl | rfl | rfl | rfl | rfl | rfl | rfl | rfl | rfl | rfl | rfl | rfl | rfl | rfl | rfl | rfl | rfl | rfl | rfl | rfl | rfl | rfl | rfl | rfl | rfl | rfl | rfl | rfl | rfl | rfl | rfl | rfl | rfl | rfl | rfl | rfl | rfl | rfl | rfl | rfl | rfl | rfl | rfl | rfl | rfl
  · exact a_is_whole
  · exact a_is_between
  · exact a_is_from_nought
  · exact a_is_word
  · exact a_is_flag
  · exact a_is_one_of
  · exact a_is_tuple
  · exact a_are_all
  · exact a_first_bad
  · exact a_combined
  · exact a_related
  · exact a_ones_in
  · exact a_mixed
  · exact a_exchanged
  · exact a_pair_index
  · exact a_table_fault
  · exact a_packet_fault
  · exact a_next_fault
  · exact a_set_word
  · exact a_moved_word
  · exact a_length_word
  · exact a_taken_word
  · exact a_combined_word
  · exact a_combined_number
  · exact a_byte_word
  · exact a_pair_word
  · exact a_cell_word
  · exact a_found_word
  · exact a_value_word
  · exact a_asked_word
  · exact a_with_content
  · exact a_kept
  · exact a_written
  · exact a_filled
  · exact a_counted
  · exact a_changed
  · exact a_begun_again
  · exact a_leads_to
  · exact a_gone_on
  · exact a_done
  · exact a_stepped
  · exact a_is_byte
  · exact a_is_packet
  · exact a_is_pair
  · exact a_are_pairs
  · exact a_is_headed
  · exact a_is_table
  · exact a_are_tables
  · exact a_has_fields
  · exact a_is_field
  · exact a_is_row_form
  · exact a_is_row
  · exact a_is_count
  · exact a_is_end
  · exact a_run_parts
  · exact a_need_sieve
  · exact a_need_run
  · exact a_need_steps
  · exact a_run_far
  · exact a_one_step
  · exact a_run_on
  · exact a_fault_of
  · exact a__law_jar
  · exact a__law_dip
  · exact a__law_one_of
  · exact a__law_same
  · exact a__law_put
  · exact a__law_reckon
  · exact a__law_holds
  · exact a__law_table
  · exact a__law_fault
  · exact a__law_set
  · exact a__law_asked
  · exact a__law_plain
  · exact a__law_reach
  · exact a__law_way
  · exact a__law_step
  · exact a__law_run
  · exact a__law_begun
  · exact a__law_word
  · exact a__law_bytes
  · exact a__law_right
  · exact a_law
end K06

namespace K06
open PySem PySem.Spec PyProof.Rows L2 Ev
def gl (g : Str) : Option D := lookD g cs
def W : Lw := ⟨df, gl⟩
instance hS1T : S1.S1T W := ⟨f_is_whole, f_is_between, f_is_from_nought, f_is_word, f_is_flag, f_is_one_of, f_is_tuple, f_are_all, f_first_bad, f_combined, f_related, f_ones_in, f_mixed, f_exchanged, f_pair_index, f_table_fault, f_packet_fault, f_next_fault, f_set_word, f_moved_word, f_length_word, f_taken_word, f_combined_word, f_combined_number, f_byte_word, f_pair_word, f_cell_word, f_found_word, f_value_word, f_asked_word, f_with_content, f_kept, f_written, f_filled, f_counted, f_changed, f_begun_again, f_leads_to, f_gone_on, f_done, f_stepped, f_is_byte, f_is_packet, f_is_pair, f_are_pairs, f_is_headed, f_is_table, f_are_tables, f_has_fields, f_is_field, f_is_row_form, f_is_row, f_is_count, f_is_end, f_run_parts, f_need_sieve, f_need_run, f__law_dip, f__law_one_of, f__law_same, f__law_put, f__law_reckon, f__law_holds, f__law_table, f__law_fault, f__law_set, f__law_asked, f__law_plain, f__law_reach, f__law_way, f__law_step, f__law_word⟩
instance hFART : S1.FART W := ⟨f_need_steps, f_run_far, f_run_on⟩
instance hONET : S1.ONET W := ⟨f_one_step⟩
instance hFOFT : S1.FOFT W := ⟨f_fault_of⟩
instance hLRUNT : S1.LRUNT W := ⟨f__law_run⟩
instance hLBEGT : S1.LBEGT W := ⟨f__law_begun⟩
instance hLBYTT : S1.LBYTT W := ⟨f__law_bytes⟩
instance hS1C : S1.S1C W := ⟨by kernel_rfl, by kernel_rfl, by kernel_rfl, by kernel_rfl, by kernel_rfl, by kernel_rfl, by kernel_rfl⟩
instance hS1M : S1.S1M W := ⟨by kernel_rfl⟩
instance hJ : S1.JART W 5113 := ⟨f__law_jar⟩
end K06

set_option maxHeartbeats 4000000
namespace K06
open PySem PySem.Spec PyProof.Rows L2 Ev S1
local macro_rules
  | `(tactic| fail) => `(tactic| first
    | (refine (?_ : Ev.XE _ _ _ _ _); first | refine wVar rfl ?_ | refine wCst ?_ | refine wCallc rfl ?_ | refine wIdx ?_ | refine wBin ?_ | refine wCmp ?_ | refine wTup ?_ | refine wBlt ?_ | refine wNot ?_ | refine wAndE ?_ | refine wOrE ?_ | refine wIfE ?_ | refine wChain ?_ | refine wLst ?_ | refine wNewl ?_ | refine wNewc ?_ | refine wSlTo ?_ | refine wSlFrom ?_ | refine wSlBoth ?_ | refine wOnes ?_ | refine wCallkc rfl ?_ | refine wCalllc rfl rfl ?_ | refine wComp ?_ | refine wGenL rfl ?_ | refine wNeg ?_ | refine wInv ?_ | refine wBlen ?_)
    | (refine (?_ : Ev.XL _ _ _ _ _); first | refine wCons ?_ | refine wNil ?_)
    | (refine (?_ : Ev.XS _ _ _ _ _ _); first | refine yIf ?_ | refine yRet ?_ | refine yAsg ?_ | refine yNil ?_ | refine yPar ?_ | refine yTup ?_ | refine yExpr ?_ | refine yFor ?_ | refine yRetN ?_ | refine yAug rfl ?_ | refine yPass ?_ | refine yBrk ?_ | refine yCont ?_ | refine yWhile ?_)
    | (refine (?_ : Ev.PT _ _ _); first | refine tBl ?_ | refine tTup ?_ | refine tNon ?_)
    | (refine (?_ : Ev.PC _ _ _ _ _); first | refine pEqS ?_ | refine pEqN ?_ | refine pLt ?_ | refine pLe ?_ | refine pGt ?_ | refine pGe ?_ | refine pNeN ?_ | refine pNeS ?_ | refine pIsN ?_ | refine pIsNotN ?_ | refine zLt ?_ | refine zGt ?_ | refine zLe ?_ | refine zGe ?_ | refine pInT rfl ?_)
    | (refine (?_ : Ev.PI _ _ _ _); first | refine pTupI rfl ?_ | refine pLstI rfl ?_ | refine pRefI (by assumption) rfl ?_ | refine pTupZ rfl ?_)
    | (refine (?_ : Ev.PB _ _ _ _ _); first | refine pAdd ?_ | refine pCatT (Nat.le_of_ble_eq_true rfl) ?_ | refine zAnd32 ?_ | refine zAnd16 ?_ | refine zAnd16i ?_ | refine zAnd8 ?_ | refine zAnd5 ?_ | refine zAnd4 ?_ | refine pAnd ?_ | refine pOr ?_ | refine pXor ?_ | refine pShr ?_ | refine pSub (by omega) ?_ | refine pMod (by omega) ?_ | refine pDiv (by omega) (by omega) ?_ | refine pMul (by omega) ?_ | refine pShl (by omega) (by omega) ?_ | refine pPow (by omega) (by omega) ?_ | refine zAdd ?_ | refine zSub ?_ | refine zMul (by omega) ?_ | refine zMod (by omega) ?_ | refine zDiv (by omega) (by omega) ?_)
    | (refine (?_ : Ev.PF _ _ _ _); first | refine pLenT ?_ | refine pIntN ?_ | refine pIntB ?_ | refine pLenL ?_ | refine pMinN ?_ | refine pMaxN ?_ | refine pIsiNI ?_ | refine pIsiNB ?_ | refine pIsiTT ?_ | refine pIsiSS ?_ | refine pTupL ?_ | refine zInt ?_ | refine zAbs ?_ | refine zDm (by omega) (by omega) ?_ | refine pTupR (by assumption) ?_ | refine pLenR (by assumption) ?_ | refine pLenS ?_ | refine pAllT ?_)
    | (refine (?_ : Ev.RQ _ _ _ _); first | refine rqR ?_ | refine rqN ?_)
    | (refine (?_ : Ev.PL _ _ _ _ _); first | refine sFromT ?_ | refine sToT ?_ | refine sFromL ?_ | refine sToL ?_ | refine sToR ?_ | refine sMidT (by omega) (Nat.le_of_ble_eq_true rfl) ?_)
    | (refine (?_ : Ev.PR _ _ _ _); first | refine rT ?_ | refine rL ?_ | refine rN (by omega) ?_ | refine rN2 (by omega) (by omega) ?_ | refine rEn ?_ | refine rZip ?_)
    | (refine (?_ : Ev.LQ _ _ _ _ _ _ _); first | refine lqN ?_ | refine lqR ?_)
    | (refine (?_ : Ev.TQ _ _ _ _ _ _ _ _ _ _ _); first | refine tqN ?_ | refine tqC ?_ | refine tqB ?_ | refine tqR ?_)
    | (refine (?_ : Ev.WP _ _); refine WP.mk rfl ?_)
    | refine ifT rfl ?_
    | refine ifF rfl ?_
    | refine ifT' rfl ?_
    | refine ifF' rfl ?_
    | refine aLen (Nat.le_of_ble_eq_true rfl) ?_
    | refine Exists.intro _ (And.intro rfl ?_)
    | refine ifT (by decide +kernel) ?_
    | refine ifF (by decide +kernel) ?_
    | refine ifT' (by decide +kernel) ?_
    | refine ifF' (by decide +kernel) ?_)
local macro_rules
  | `(tactic| fail) => `(tactic| first
    | refine wGlobc rfl S1C.g_FIELDS ?_
    | refine wGlobc rfl S1C.g_BOUNDS ?_
    | refine wGlobc rfl S1C.g_WORDS ?_
    | refine wGlobc rfl S1C.g_CHANGES ?_
    | refine wGlobc rfl S1C.g_CONDITIONS ?_
    | refine wGlobc rfl S1C.g_HELPERS ?_
    | refine wGlobc rfl S1C.g_FAULTS ?_)
local macro_rules
  | `(tactic| eq_refl) => `(tactic| first
    | fail
    | refine ifT (by assumption) ?_
    | refine ifF (by assumption) ?_
    | refine ifT' (by assumption) ?_
    | refine ifF' (by assumption) ?_
    | refine pTupI (by assumption) ?_
    | refine pTupZ (by assumption) ?_
    | refine ifT (decide_eq_true (by (try simp only [List.length_map]); omega)) ?_
    | refine ifF (decide_eq_false (by (try simp only [List.length_map]); omega)) ?_
    | refine ifT' (decide_eq_true (by (try simp only [List.length_map]); omega)) ?_
    | refine ifF' (decide_eq_false (by (try simp only [List.length_map]); omega)) ?_
    | refine ifT (by simp only [Bool.not_eq_true', decide_eq_false_iff_not, List.length_map]; omega) ?_
    | refine ifF (by simp only [Bool.not_eq_false', decide_eq_true_eq, List.length_map]; omega) ?_
    | refine ifT' (by simp only [Bool.not_eq_true', decide_eq_false_iff_not, List.length_map]; omega) ?_
    | refine ifF' (by simp only [Bool.not_eq_false', decide_eq_true_eq, List.length_map]; omega) ?_)
variable {k : Nat} {S : Sto} {j : Nat} {M : List (Nat × MO)}
theorem c_right (h : St j M S) : XC W (k + 20) "_law_right" [.ref j] S fun d _ => d = .bl true := by
  refine (wFnL f__law_right rfl ?_)
  show XS _ _ t__law_right [_, none, none, none, none, none, none, none, none, none, none, none] S _
  repeat fail
  refine (c_oneN (ns := [0, 1, 2, 3, 4, 5, 6, 7, 8, 255, 256]) (n := 257) h (by decide) (by decide) (by decide)).go ?_
  rintro _ S1 ⟨size, rfl, hsz⟩ h1
  repeat fail
  refine (c_bytes h1 (by omega)).go ?_
  rintro _ S2 ⟨pk, rfl, hl, hp⟩ h2
  repeat fail
  refine (c_dip h2 (by decide) (by decide)).go ?_
  rintro _ S3 ⟨w0, rfl, hw0⟩ h3
  repeat fail
  have hw : w0 / 2 ≤ 1 := by omega
  generalize w0 / 2 = wr at *
  show XF _ _ _ _ _ _ _ (fillE [some (.ref j), some (dn size), some (.tup (pk.map dn)), some (dn wr), none, none, none, none, none, none, none, none] [4, 5, 6, 7, 8, 9, 10, 11] [none, none, none, none, none, none, none, none]) _ _
  refine xfKeep (j := j) (M := M) (I := fun d => ∃ o, d = .str o ∧ o ∈ mems) [4, 5, 6, 7, 8, 9, 10, 11] ?st1 ?fin1 rfl ?it1 h3
  case it1 =>
    intro d hd
    simp only [List.mem_cons, List.not_mem_nil, or_false] at hd
    rcases hd with rfl | rfl | rfl <;> exact ⟨_, rfl, by simp [mems]⟩
  case fin1 =>
    intro xs S4 hx hs
    match xs, hx with
    | [x4, x5, x6, x7, x8, x9, x10, x11], _ =>
      repeat fail
      rfl
  case st1 =>
    rintro _ xs S4 hx ⟨o, rfl, ho⟩ h4
    match xs, hx with
    | [x4, x5, x6, x7, x8, x9, x10, x11], _ =>
      repeat fail
      show XF _ _ _ _ _ _ _ (fillE [some (.ref j), some (dn size), some (.tup (pk.map dn)), some (dn wr), some (.str o), x5, x6, x7, x8, x9, x10, x11] [5, 6, 7, 8, 9, 10, 11] [x5, x6, x7, x8, x9, x10, x11]) _ _
      refine xfKeep (j := j) (M := M) (I := fun d => ∃ z : Int, d = .int z) [5, 6, 7, 8, 9, 10, 11] ?st2 ?fin2 rfl ?it2 h4
      case it2 =>
        intro d hd
        simp only [List.mem_cons, List.not_mem_nil, or_false] at hd
        rcases hd with rfl | rfl | rfl | rfl | rfl | rfl | rfl <;> exact ⟨_, rfl⟩
      case fin2 =>
        intro xs S5 hx hs
        match xs, hx with
        | [y5, y6, y7, y8, y9, y10, y11], _ =>
          refine .nx (yNil ⟨rfl, ⟨[_, y5, y6, y7, y8, y9, y10, y11], rfl, rfl⟩, hs⟩)
      case st2 =>
        rintro _ xs S5 hx ⟨z, rfl⟩ h5
        match xs, hx with
        | [y5, y6, y7, y8, y9, y10, y11], _ =>
          repeat fail
          show XF _ _ _ _ _ _ _ (fillE [some (.ref j), some (dn size), some (.tup (pk.map dn)), some (dn wr), some (.str o), some (.int z), y6, y7, y8, y9, y10, y11] [6, 7, 8, 9, 10, 11] [y6, y7, y8, y9, y10, y11]) _ _
          refine xfKeep (j := j) (M := M) (I := fun d => True) [6, 7, 8, 9, 10, 11] ?st3 ?fin3 rfl (fun _ _ => trivial) h5
          case fin3 =>
            intro xs S6 hx hs
            match xs, hx with
            | [z6, z7, z8, z9, z10, z11], _ =>
              refine .nx (yNil ⟨rfl, ⟨[_, z6, z7, z8, z9, z10, z11], rfl, rfl⟩, hs⟩)
          case st3 =>
            rintro d0 xs S6 hx _ h6
            match xs, hx with
            | [z6, z7, z8, z9, z10, z11], _ =>
              repeat fail
              refine (c_oneN (ns := [0, 1, 2, 255, 254, 3]) (n := 256) h6 (by decide) (by decide) (by decide)).go ?_
              rintro _ S7 ⟨more, rfl, hmo⟩ h7
              repeat fail
              refine zMax0 fun st0 => ?_
              repeat fail
              have hst : min 65535 st0 < 65536 := by omega
              generalize min 65535 st0 = start at *
              refine (c_word h7).go ?_
              rintro _ S8 ⟨w1, rfl, hw1⟩ h8
              repeat fail
              refine (c_lbegun (pk := pk) (tb := []) (ck := w1) (wr := wr)).go ?_
              repeat fail
              refine (c_word h8).go ?_
              rintro _ S9 ⟨w2, rfl, hw2⟩ h9
              repeat fail
              have key : ∀ a, a < 8 → ∃ (rows : List _root_.S1.Row) (r : _root_.S1.Run), rows = [_root_.S1.Row.mem o a 0 more, _root_.S1.Row.answer 2] ∧ r = ⟨start :: w2 :: List.replicate 6 0, List.replicate 16 0, List.replicate 4 0, 0, pk, [], w1, 0, .non, wr⟩ ∧ r.Ok ∧ (∀ x ∈ rows, x.Ok) := fun a ha =>
                ⟨_, _, rfl, rfl, ⟨⟨rfl, fun n hn => by
                  rcases List.mem_cons.mp hn with rfl | hn
                  · exact hst
                  rcases List.mem_cons.mp hn with rfl | hn
                  · exact hw2
                  rw [(List.mem_replicate.mp hn).2]
                  decide⟩, ⟨rfl, fun n hn => by rw [(List.mem_replicate.mp hn).2]; decide⟩, ⟨rfl, fun n hn => by rw [(List.mem_replicate.mp hn).2]; decide⟩, Nat.zero_le _, ⟨show pk.length ≤ 256 by omega, hp⟩, ⟨Nat.zero_le _, fun _ h => nomatch h⟩, hw1, .non, hw⟩, fun x hx => by
                  simp only [List.mem_cons, List.not_mem_nil, or_false] at hx
                  rcases hx with rfl | rfl
                  · exact ⟨ho, ha, by decide, hmo⟩
                  · exact (by decide : (2 : Nat) < 8)⟩
              have tail : ∀ a, a < 8 → XS (W.G (k + 19)) 200 (([(.asg (.name 11) (.call "_law_step" [(.var 10), (.var 9)])), (.ife (.not' (.call "_law_same" [(.lst [(.call "one_step" [(.var 10), (.var 9)]), (.call "fault_of" [(.var 10), (.var 9)])]), (.lst [(.var 11), (.call "_law_fault" [(.var 10), (.var 9)])])])) [(.ret (.cst (.bl false)))] []), (.ife (.not' (.call "_law_same" [(.call "run_on" [(.var 10), (.var 9), (.cst (dn 2))]), (.call "_law_run" [(.var 10), (.var 9), (.cst (dn 2))])])) [(.ret (.cst (.bl false)))] [])] : List T))
                  [some (.ref j), some (dn size), some (.tup (pk.map dn)), some (dn wr), some (.str o), some (.int z), some d0, some (dn more), some (dn start), some (_root_.S1.Run.d ⟨start :: w2 :: List.replicate 6 0, List.replicate 16 0, List.replicate 4 0, 0, pk, [], w1, 0, .non, wr⟩), some (.tup ([_root_.S1.Row.mem o a 0 more, _root_.S1.Row.answer 2].map _root_.S1.Row.d)), z11] S9
                  fun f env2 S2 => f = .nx ∧ (∃ ys, ys.length = [6, 7, 8, 9, 10, 11].length ∧ env2 = fillE [some (.ref j), some (dn size), some (.tup (pk.map dn)), some (dn wr), some (.str o), some (.int z), y6, y7, y8, y9, y10, y11] [6, 7, 8, 9, 10, 11] ys) ∧ Ev.St j M S2 := by
                intro a ha
                obtain ⟨rows, r, e1, e2, hr, hrows⟩ := key a ha
                have hen : r.en = .non := by rw [e2]
                have hst0 : r.st = 0 := by rw [e2]
                have l1 : 1 ≤ rows.length := by rw [e1]; simp
                have l2 : rows.length ≤ 120 := by rw [e1]; simp
                rw [← e1, ← e2]
                clear key e1 e2
                obtain ⟨r1, k1, s1⟩ := steps_both (L := W) hr hrows l2
                obtain ⟨r2, k2, f2⟩ := far_ex (L := W) hrows l2 2 r hr
                have t1 := s1.2.2
                have t2 := far_st hr f2
                repeat fail
                refine (s1.2.1 _ _).mono ?_
                rintro _ S10 ⟨rfl, N, rfl⟩
                have h10 := stApp h9 N
                repeat fail
                refine (c_one_step hr hrows l1 l2 s1).go ?_
                repeat fail
                refine (c_fault_of hr hen hrows l1 l2).go ?_
                repeat fail
                refine (flt_ex hr hrows _ _).2.go ?_
                repeat fail
                refine (same_two (md_run k1 (by omega)) ((md_opt fun f hf => fOf_in hf).mono (by decide) (by decide)) (by decide) (by decide) _ _).go ?_
                repeat fail
                refine (c_run_on (by decide) hr hrows l1 l2 f2).go ?_
                repeat fail
                refine (c_lrun (by decide) hr f2).mono ?_
                rintro _ S11 ⟨rfl, N2, rfl⟩
                repeat fail
                refine (same_run k2 (by omega) _ _).go ?_
                repeat fail
                exact ⟨rfl, ⟨[_, _, _, _, _, _], rfl, rfl⟩, stApp h10 N2⟩
              refine ifD (fun c => ?_) (fun c => ?_)
              · iterate 17 fail
                exact tail 1 (by decide)
              · iterate 17 fail
                exact tail 2 (by decide)
theorem c_law (ns : List Int) : ∃ S', W.cl (k + 22) "law" [.rls (ns.map D.int)] [] = some (.bl true, S') :=
  c_lawN (L := W) (N := 20) (a := 1) (b := 3) (by decide) (by decide) f_law (fun _ _ _ _ h => c_right h) ns
end K06

open PySem PySem.W PySem.Calls PyProof.Rows
set_option maxHeartbeats 0 in
theorem PySem.Challenge.cw_suresieves_k06_packets_ends_writes_holds : PySem.Challenge.rw_suresieves_k06_packets_ends_writes.Holds := by
  refine K06.early ?_
  refine Ev.law_walk (l := PySem.Challenge.rw_suresieves_k06_packets_ends_writes) (k := 22) (wf := 200) (x := "script") (dl := K06.d_law) K06.tx K06.ag ?_ rfl (by kernel_rfl) rfl (by kernel_rfl) ⟨rfl, by decide, by decide⟩ ?_
  · simp [K06.pg]
  · exact fun ns _ => K06.c_law (k := 0) ns


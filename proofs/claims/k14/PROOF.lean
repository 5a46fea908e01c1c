import PyProof.Rows.All
import HandS.Words
import Wide.All
import OpenK.AllK
import Wide.FinOn
import PyProof.EqAt
import PyProof.EqKinds
import PyProof.TupleCall
import HandS.ForMost
import HandS.ForExc
import HandS.Evl
import HandS.Flow
import HandS.ExcInit
import HandS.ExcIs
import HandS.IsInst
import HandS.MakeKwOnly
import HandS.ExcField
import KE.KExcInit
import KE.KExcIs
import HandS.Ends
import KE.DataEq
import KE.GoesEnum
import HandS.TupAny
import HandS.Property
import HandS.Star
import HandS.Defaults
import HandS.FStr
import HandS.GenList
import PyProof.ReprRoads
import HandS.Conv
import HandS.Gcd
import KE.KMathGC
import HandS.SetFor
import HandS.Strs
import HandS.SortInts
import HandS.Iter
import HandS.Dict
import HandS.DictComp
import HandS.TupSets
import HandS.Style
import HandS.Text
import HandS.More
import HandS.Replace
import PyProof.StrBlock2
import HandS.SetKeys
import HandS.SortRule
import KE.KDictCopyH
import PyProof.DictMoreH
import HandS.Comp
import KE.KDictList
import HandS.Wide
import HandS.Head3
import PySem.Challenge.RW_evertreads_k14_whole_times_on_a_square
set_option Elab.async false
set_option linter.all false
namespace Vd
open PySem L2
def keyS (e : DictEntry) : Str := match e.key with
  | .str x _ => x
  | _ => Str.empty
end Vd
set_option Elab.async false
set_option linter.all false
set_option maxRecDepth 100000
set_option maxHeartbeats 4000000
namespace K2
open PySem L2
def top (i : Nat) : Stmt := PySem.Challenge.pw_evertreads_k14_whole_times_on_a_square.main.body.getD i (.Pass ⟨0, 0, 0, 0⟩)
abbrev s_is_integer : Stmt := top 9
abbrev s_is_within : Stmt := top 10
abbrev s_first_unfit : Stmt := top 11
abbrev s_is_pair : Stmt := top 12
abbrev s_is_square : Stmt := top 13
abbrev s_is_time : Stmt := top 14
abbrev s_lane_of : Stmt := top 26
abbrev s_square_in : Stmt := top 27
abbrev s_lanes_trodden : Stmt := top 28
abbrev s_place : Stmt := top 35
abbrev s_holds : Stmt := top 36
abbrev s_primes_of : Stmt := top 39
abbrev s_repeats : Stmt := top 41
abbrev s_shortest : Stmt := top 42
abbrev s_marked_from : Stmt := top 43
abbrev s_is_row : Stmt := top 134
abbrev s_is_order : Stmt := top 135
abbrev s_is_way : Stmt := top 136
abbrev s_turned_way : Stmt := top 137
abbrev s_one_run : Stmt := top 138
abbrev s_ways_gone : Stmt := top 139
abbrev s_offsets_along : Stmt := top 140
abbrev s_Times___init__ : Stmt := inClass (top 142) 0
abbrev s_Times_period : Stmt := inClass (top 142) 1
abbrev s_Times_numbers : Stmt := inClass (top 142) 3
abbrev s_Times_first : Stmt := inClass (top 142) 4
abbrev s_Times_endless : Stmt := inClass (top 142) 5
abbrev s_Times_many : Stmt := inClass (top 142) 6
abbrev s_Times__least_from : Stmt := inClass (top 142) 8
abbrev s_Times___contains__ : Stmt := inClass (top 142) 9
abbrev s_Times___eq__ : Stmt := inClass (top 142) 13
abbrev s_Times___bool__ : Stmt := inClass (top 142) 14
abbrev s_unchecked : Stmt := top 143
abbrev s_Walker___init__ : Stmt := inClass (top 148) 0
abbrev s_Walker_start : Stmt := inClass (top 148) 2
abbrev s_Walker_period : Stmt := inClass (top 148) 4
abbrev s_Walker_drift : Stmt := inClass (top 148) 5
abbrev s_Walker_closed : Stmt := inClass (top 148) 6
abbrev s_Walker_at : Stmt := inClass (top 148) 8
abbrev s_Walker_times : Stmt := inClass (top 148) 10
abbrev s_from_start : Stmt := top 149
abbrev s_to_start : Stmt := top 150
abbrev s_square_at : Stmt := top 151
abbrev s__law_cup : Stmt := top 154
abbrev s__law_sip : Stmt := top 155
abbrev s__law_pick : Stmt := top 156
abbrev s__law_row : Stmt := top 157
abbrev s__law_start : Stmt := top 158
abbrev s__law_steps : Stmt := top 159
abbrev s__law_on : Stmt := top 160
abbrev s__law_path : Stmt := top 161
abbrev s__law_four : Stmt := top 162
abbrev s__law_some : Stmt := top 163
abbrev s__law_when : Stmt := top 165
abbrev s__law_due : Stmt := top 166
abbrev s__law_spot : Stmt := top 167
abbrev s__law_right : Stmt := top 168
abbrev s_law : Stmt := top 169
end K2
set_option Elab.async false
set_option linter.all false
set_option maxRecDepth 100000
set_option maxHeartbeats 4000000
namespace K2
open PySem PySem.W PyProof.Rows
def hn0 : List PySem.Str := [("_wall" : PySem.Str), ("MOST_ORDERS" : PySem.Str), ("MOST_STEPS" : PySem.Str), ("MOST_COUNT" : PySem.Str), ("MOST_PERIOD" : PySem.Str), ("MOST_MOVE" : PySem.Str), ("GREATEST" : PySem.Str), ("is_integer" : PySem.Str), ("is_within" : PySem.Str), ("first_unfit" : PySem.Str), ("is_pair" : PySem.Str), ("is_square" : PySem.Str), ("is_time" : PySem.Str), ("WrongValue" : PySem.Str), ("InvalidRow" : PySem.Str), ("InvalidSquare" : PySem.Str), ("InvalidWay" : PySem.Str), ("InvalidTime" : PySem.Str), ("InvalidCount" : PySem.Str), ("InvalidPeriod" : PySem.Str), ("InvalidMarks" : PySem.Str), ("InvalidParts" : PySem.Str), ("lane_of" : PySem.Str), ("square_in" : PySem.Str), ("lanes_trodden" : PySem.Str), ("slope_of" : PySem.Str), ("line_through" : PySem.Str), ("square_on" : PySem.Str), ("crossing" : PySem.Str), ("place" : PySem.Str)]
def hn1 : List PySem.Str := [("holds" : PySem.Str), ("holds_rows" : PySem.Str), ("primes_of" : PySem.Str), ("common_multiple" : PySem.Str), ("repeats" : PySem.Str), ("shortest" : PySem.Str), ("marked_from" : PySem.Str), ("stretched" : PySem.Str), ("inverse" : PySem.Str), ("by_remainder" : PySem.Str), ("in_both" : PySem.Str), ("left_over" : PySem.Str), ("in_either" : PySem.Str), ("repeated" : PySem.Str), ("window" : PySem.Str), ("least" : PySem.Str), ("full" : PySem.Str), ("ones" : PySem.Str), ("places" : PySem.Str), ("raised" : PySem.Str), ("BOTH" : PySem.Str), ("EITHER" : PySem.Str), ("FIRST" : PySem.Str), ("ONE" : PySem.Str), ("NEVER" : PySem.Str), ("MOST_TABLED" : PySem.Str), ("plain" : PySem.Str), ("holds_rules" : PySem.Str), ("told" : PySem.Str), ("common_period" : PySem.Str)]
def hn2 : List PySem.Str := [("tabled" : PySem.Str), ("answers" : PySem.Str), ("layers" : PySem.Str), ("joined" : PySem.Str), ("joined_rules" : PySem.Str), ("MOST_BITS" : PySem.Str), ("seen_along" : PySem.Str), ("gathered" : PySem.Str), ("taken" : PySem.Str), ("loosened" : PySem.Str), ("deciding" : PySem.Str), ("primes_in" : PySem.Str), ("shared_prime" : PySem.Str), ("leave_some" : PySem.Str), ("parted" : PySem.Str), ("left_in_bits" : PySem.Str), ("left_of" : PySem.Str), ("FEW_MARKS" : PySem.Str), ("sides" : PySem.Str), ("meeting_point" : PySem.Str), ("followers" : PySem.Str), ("holds_any" : PySem.Str), ("cases" : PySem.Str), ("seen_from" : PySem.Str), ("many_in" : PySem.Str), ("many_in_cases" : PySem.Str), ("NOTHING" : PySem.Str), ("MOST_WRITTEN" : PySem.Str), ("track_of" : PySem.Str), ("rule_about" : PySem.Str)]
def hn3 : List PySem.Str := [("simplified" : PySem.Str), ("written_short" : PySem.Str), ("rule_at" : PySem.Str), ("on_track" : PySem.Str), ("joined_tracks" : PySem.Str), ("endless_track" : PySem.Str), ("stretches" : PySem.Str), ("many_on" : PySem.Str), ("more_on" : PySem.Str), ("laid" : PySem.Str), ("slopes_of" : PySem.Str), ("crossings" : PySem.Str), ("tracks_over" : PySem.Str), ("settled" : PySem.Str), ("in_field" : PySem.Str), ("joined_fields" : PySem.Str), ("endless_field" : PySem.Str), ("told_by_tracks" : PySem.Str), ("many_in_field" : PySem.Str), ("any_in_field" : PySem.Str), ("MOST_PARTS" : PySem.Str), ("Squares" : PySem.Str), ("is_ray" : PySem.Str), ("with_field" : PySem.Str), ("of_parts" : PySem.Str), ("WAYS" : PySem.Str), ("MOVES" : PySem.Str), ("TURNS" : PySem.Str), ("is_row" : PySem.Str), ("is_order" : PySem.Str)]
def hn4 : List PySem.Str := [("is_way" : PySem.Str), ("turned_way" : PySem.Str), ("one_run" : PySem.Str), ("ways_gone" : PySem.Str), ("offsets_along" : PySem.Str), ("Times" : PySem.Str), ("unchecked" : PySem.Str), ("merged" : PySem.Str), ("joined_times" : PySem.Str), ("Walker" : PySem.Str), ("from_start" : PySem.Str), ("to_start" : PySem.Str), ("square_at" : PySem.Str), ("along_lanes" : PySem.Str), ("_law_cup" : PySem.Str), ("_law_sip" : PySem.Str), ("_law_pick" : PySem.Str), ("_law_row" : PySem.Str), ("_law_start" : PySem.Str), ("_law_steps" : PySem.Str), ("_law_on" : PySem.Str), ("_law_path" : PySem.Str), ("_law_four" : PySem.Str), ("_law_some" : PySem.Str), ("_law_far" : PySem.Str), ("_law_when" : PySem.Str), ("_law_due" : PySem.Str), ("_law_spot" : PySem.Str), ("_law_right" : PySem.Str)]
def hnames : List PySem.Str := hn0 ++ (hn1 ++ (hn2 ++ (hn3 ++ (hn4))))
def hrow : OpenRow := OpenLaw.row PySem.Challenge.rw_evertreads_k14_whole_times_on_a_square
def hview : Program := view hrow.prog [0, 169]
end K2
namespace K2
open PySem PySem.W PyProof.Rows
def hlist : List Addr := [3, 55, 56, 62, 63, 69, 70, 76, 77, 83, 84, 90, 91, 269, 270, 276, 277, 281, 282, 316, 317, 323, 324, 330, 331, 342, 343, 349, 350, 356, 357, 843, 844, 845, 846, 847, 848, 852, 853, 857, 858, 864, 865, 871, 872, 878, 879, 885, 886, 892, 893, 901, 902, 906, 907, 913, 914, 915, 929, 930, 931, 937, 938, 939, 945, 946, 947, 953, 954, 955, 968, 969, 975, 976, 997, 998, 1004, 1005, 1012, 1013, 1023, 1024, 1044, 1045, 1051, 1052, 1066, 1067, 1068, 1082, 1083, 1084, 1090, 1091, 1092, 1098, 1099, 1100, 1111, 1112, 1123, 1124, 1168, 1169, 1179, 1180, 1186, 1187, 1193, 1194, 1205, 1206, 1212, 1213, 1219, 1220, 1224, 1225, 1231, 1232, 1236, 1237, 1243, 1244, 1250, 1251, 1255, 1256, 1262, 1263, 1276, 1277, 1281, 1282, 1288, 1289, 1293, 1294, 1298, 1299]
noncomputable def hwhole (w : World) : Option (Shared × SharedT) := HandSHeadRun.wholeF (fun p => HandSHeadRun.stepQ (HandSHeadRun.denQ HandSHeadRun.tabQ) p w) HandSHeadRun.fenceQ 14000 hrow.prog
noncomputable def hget (w : World) (a : Addr) : Option Obj := match hwhole w with
  | some x => HandSHeadRun.getT x.2 a
  | none => none
def hpart (g : Addr → Option Obj) : List Addr → Frag
  | [] => []
  | a :: r => match g a with
    | some z => (a, z) :: hpart g r
    | none => hpart g r
theorem hpart_at {g : Addr → Option Obj} {a : Addr} {z : Obj} : ∀ l : List Addr, (hpart g l).lookup a = some z → g a = some z
  | [], e => nomatch (show (none : Option Obj) = some z from e)
  | b :: r, e => by
    unfold hpart at e
    cases hb : g b with
    | none =>
      rw [hb] at e
      exact hpart_at r e
    | some y =>
      rw [hb] at e
      have e2 : (match a == b with | true => some y | false => (hpart g r).lookup a) = some z := e
      cases q : (a == b) with
      | true =>
        rw [q] at e2
        have eo : y = z := Option.some.inj e2
        rw [beq_iff_eq.mp q, hb, eo]
      | false =>
        rw [q] at e2
        exact hpart_at r e2
theorem hpart_eq {g g' : Addr → Option Obj} : ∀ {l : List Addr}, l.map g = l.map g' → hpart g l = hpart g' l
  | [], _ => rfl
  | a :: r, e => by
    rw [List.map_cons, List.map_cons] at e
    obtain ⟨e1, e2⟩ := List.cons.inj e
    unfold hpart
    rw [e1, hpart_eq e2]
noncomputable def hK (w : World) : Frag := hpart (hget w) hlist
noncomputable def hhook : Hook := ⟨List (Option Obj), fun s => hlist.map s.heap.get?, fun w => hlist.map (hget w), fun w h => (hK w).In h, fun w s e => by
  show (hpart (hget w) hlist).In s.heap
  rw [← hpart_eq e]
  exact fun a z q => hpart_at hlist q, fun w h h' x k a z q => k a z (x a z q)⟩
def hlooksA (w : World) : Prop := (hwhole w).map (fun x => staticsOk (importedModules hrow.prog.main.body) x.1.heap x.2.abs.heap && namesBound hrow.prog x.2.abs.heap) = some true
def hlooksC (w : World) : Prop := (hwhole w).map (fun x => gensDone x.2.abs && laidKept x.1.heap x.2.abs.heap) = some true
def hlooksB (w : World) : Prop := (hwhole w).map (fun x => HandSHeadRun.seenQ hview hnames (importedModules hrow.prog.main.body) (fun s => xlAt hview [] s && recOk hrow.toRowW.records s) x.2.abs) = some (openGood hview hnames)
theorem hlooksA_f (w : World) : hlooksA (w.withFollow "special-get-raises" false) := by
  unfold hlooksA
  kernel_rfl
theorem hlooksA_t (w : World) : hlooksA (w.withFollow "special-get-raises" true) := by
  unfold hlooksA
  kernel_rfl
theorem hlooksC_f (w : World) : hlooksC (w.withFollow "special-get-raises" false) := by
  unfold hlooksC
  kernel_rfl
theorem hlooksC_t (w : World) : hlooksC (w.withFollow "special-get-raises" true) := by
  unfold hlooksC
  kernel_rfl
theorem hlooksB_f (w : World) : hlooksB (w.withFollow "special-get-raises" false) := by
  unfold hlooksB
  kernel_rfl
theorem hlooksB_t (w : World) : hlooksB (w.withFollow "special-get-raises" true) := by
  unfold hlooksB
  kernel_rfl
theorem hrun (w : World) : HandSHeadRun.RunEqI hrow hview hhook (fun s => hlist.map (HandSHeadRun.getT s)) 14000 hnames w := by
  have zA : hlooksA w := byRow2 "special-get-raises" (P := hlooksA) hlooksA_f hlooksA_t w
  have zC : hlooksC w := byRow2 "special-get-raises" (P := hlooksC) hlooksC_f hlooksC_t w
  have zB : hlooksB w := byRow2 "special-get-raises" (P := hlooksB) hlooksB_f hlooksB_t w
  show (hwhole w).map (fun x => (HandSHeadRun.looksF hrow.prog x.1.heap x.2.abs, HandSHeadRun.seenQ hview hnames (importedModules hrow.prog.main.body) (fun s => xlAt hview [] s && recOk hrow.toRowW.records s) x.2.abs, hlist.map (HandSHeadRun.getT x.2))) = some (true, openGood hview hnames, hlist.map (hget w))
  unfold hlooksA at zA
  unfold hlooksC at zC
  unfold hlooksB at zB
  unfold hget
  cases e : hwhole w with
  | none =>
    rw [e] at zA
    cases zA
  | some x =>
    rw [e] at zA zB zC
    have a1 : (staticsOk (importedModules hrow.prog.main.body) x.1.heap x.2.abs.heap && namesBound hrow.prog x.2.abs.heap) = true := Option.some.inj zA
    have a2 : (gensDone x.2.abs && laidKept x.1.heap x.2.abs.heap) = true := Option.some.inj zC
    have a : HandSHeadRun.looksF hrow.prog x.1.heap x.2.abs = true := by
      unfold HandSHeadRun.looksF
      rw [Bool.and_assoc, a1, a2]
      rfl
    have b : HandSHeadRun.seenQ hview hnames (importedModules hrow.prog.main.body) (fun s => xlAt hview [] s && recOk hrow.toRowW.records s) x.2.abs = openGood hview hnames := Option.some.inj zB
    show some (_, _, _) = some (_, _, _)
    rw [a, b]
def hoC (K : Frag) (a : Addr) : Value := match K.lookup a with
  | some z => z.cls
  | none => .none
def hoD (K : Frag) (a : Addr) : Option Addr := match K.lookup a with
  | some z => z.dict
  | none => none
def hoS (K : Frag) (a : Addr) : Array (Option Value) := match K.lookup a with
  | some z => z.slots
  | none => #[]
def hfK (K : Frag) (a : Addr) : Value := match K.lookup a with
  | some ⟨_, _, .func f, _⟩ => f.kwdefaults
  | _ => .none
def hfDoc (K : Frag) (a : Addr) : Value := match K.lookup a with
  | some ⟨_, _, .func f, _⟩ => f.doc
  | _ => .none
def hfPm (K : Frag) (a : Addr) : Value := match K.lookup a with
  | some ⟨_, _, .func f, _⟩ => f.pyModule
  | _ => .none
def hfAn (K : Frag) (a : Addr) : Option Addr := match K.lookup a with
  | some ⟨_, _, .func f, _⟩ => f.annotations
  | _ => none
def hfCd (K : Frag) (a : Addr) : Value := match K.lookup a with
  | some ⟨_, _, .func f, _⟩ => f.code
  | _ => .none
def hfCt (K : Frag) (a : Addr) : Value := match K.lookup a with
  | some ⟨_, _, .func f, _⟩ => f.closureTuple
  | _ => .none
def hqN (K : Frag) (a : Addr) : Nat := match K.lookup a with
  | some ⟨_, _, .seq _ n, _⟩ => n
  | _ => 0
def htok : Value → Tok
  | .int _ t => t
  | .str _ t => t
  | _ => 0
def hqT (K : Frag) (a : Addr) (i : Nat) : Tok := match K.lookup a with
  | some ⟨_, _, .seq l _, _⟩ => htok (l.toList.getD i .none)
  | _ => 0
def hdE (K : Frag) (a : Addr) : Array DictEntry := match K.lookup a with
  | some ⟨_, _, .dict es _, _⟩ => es
  | _ => #[]
def hdN (K : Frag) (a : Addr) : Nat := match K.lookup a with
  | some ⟨_, _, .dict _ n, _⟩ => n
  | _ => 0
def hvT (K : Frag) (a : Addr) (x : Str) : Tok := match nsIn K a x with
  | some (some v) => htok v
  | _ => 0
def hrT (K : Frag) (a : Addr) : List Value := match recIn K a "property" with
  | some l => l.tail
  | none => []
def hkT (K : Frag) (a : Addr) (i : Nat) : Tok := match (hdE K a).toList[i]? with
  | some e => htok e.key
  | none => 0
def hkV (K : Frag) (a : Addr) (i : Nat) : Value := match (hdE K a).toList[i]? with
  | some e => e.val
  | none => .none
theorem hkeys {P : Params} : ∀ {l : List DictEntry} {m : List (Str × Tok × Value)}, l = m.map (fun q => ⟨PyData.keyHash P q.1, .str q.1 q.2.1, q.2.2⟩) → KeysLit P l
  | _, [], e => by
    rw [e]
    exact True.intro
  | _, q :: m, e => by
    rw [e]
    exact ⟨⟨_, _, rfl, rfl⟩, hkeys (l := m.map (fun q => ⟨PyData.keyHash P q.1, .str q.1 q.2.1, q.2.2⟩)) rfl⟩
open L2 Vd
abbrev HF0 (w : World) (K : Frag) : Prop := (PySem.W.nsIn K PySem.mainGlobals "is_integer" = some (some (.ref 56))) ∧
  (K.lookup 56 = some ⟨(hoC K 56), (hoD K 56), .func (PySem.W.fnOf "is_integer" "is_integer" (defArgs s_is_integer) (defBody s_is_integer) (defScope s_is_integer) .none (hfK K 56) (hfDoc K 56) (hfPm K 56) (hfAn K 56) (hfCd K 56) (hfCt K 56)), (hoS K 56)⟩) ∧
  (PySem.W.codeIn K (hfCd K 56) "is_integer" = true) ∧
  (PySem.W.keepIn K (.ref 56) = true) ∧
  (PySem.W.nsIn K PySem.mainGlobals "is_within" = some (some (.ref 63))) ∧
  (K.lookup 63 = some ⟨(hoC K 63), (hoD K 63), .func (PySem.W.fnOf "is_within" "is_within" (defArgs s_is_within) (defBody s_is_within) (defScope s_is_within) .none (hfK K 63) (hfDoc K 63) (hfPm K 63) (hfAn K 63) (hfCd K 63) (hfCt K 63)), (hoS K 63)⟩) ∧
  (PySem.W.codeIn K (hfCd K 63) "is_within" = true) ∧
  (PySem.W.keepIn K (.ref 63) = true) ∧
  (PySem.W.nsIn K PySem.mainGlobals "is_pair" = some (some (.ref 77))) ∧
  (K.lookup 77 = some ⟨(hoC K 77), (hoD K 77), .func (PySem.W.fnOf "is_pair" "is_pair" (defArgs s_is_pair) (defBody s_is_pair) (defScope s_is_pair) .none (hfK K 77) (hfDoc K 77) (hfPm K 77) (hfAn K 77) (hfCd K 77) (hfCt K 77)), (hoS K 77)⟩) ∧
  (PySem.W.codeIn K (hfCd K 77) "is_pair" = true) ∧
  (PySem.W.keepIn K (.ref 77) = true) ∧
  (PySem.W.nsIn K PySem.mainGlobals "is_square" = some (some (.ref 84))) ∧
  (K.lookup 84 = some ⟨(hoC K 84), (hoD K 84), .func (PySem.W.fnOf "is_square" "is_square" (defArgs s_is_square) (defBody s_is_square) (defScope s_is_square) .none (hfK K 84) (hfDoc K 84) (hfPm K 84) (hfAn K 84) (hfCd K 84) (hfCt K 84)), (hoS K 84)⟩) ∧
  (PySem.W.codeIn K (hfCd K 84) "is_square" = true) ∧
  (PySem.W.keepIn K (.ref 84) = true) ∧
  (PySem.W.nsIn K PySem.mainGlobals "is_time" = some (some (.ref 91))) ∧
  (K.lookup 91 = some ⟨(hoC K 91), (hoD K 91), .func (PySem.W.fnOf "is_time" "is_time" (defArgs s_is_time) (defBody s_is_time) (defScope s_is_time) .none (hfK K 91) (hfDoc K 91) (hfPm K 91) (hfAn K 91) (hfCd K 91) (hfCt K 91)), (hoS K 91)⟩) ∧
  (PySem.W.codeIn K (hfCd K 91) "is_time" = true) ∧
  (PySem.W.keepIn K (.ref 91) = true) ∧
  (PySem.W.nsIn K PySem.mainGlobals "is_order" = some (some (.ref 858))) ∧
  (K.lookup 858 = some ⟨(hoC K 858), (hoD K 858), .func (PySem.W.fnOf "is_order" "is_order" (defArgs s_is_order) (defBody s_is_order) (defScope s_is_order) .none (hfK K 858) (hfDoc K 858) (hfPm K 858) (hfAn K 858) (hfCd K 858) (hfCt K 858)), (hoS K 858)⟩) ∧
  (PySem.W.codeIn K (hfCd K 858) "is_order" = true) ∧
  (PySem.W.keepIn K (.ref 858) = true) ∧
  (PySem.W.nsIn K PySem.mainGlobals "is_row" = some (some (.ref 853))) ∧
  (K.lookup 853 = some ⟨(hoC K 853), (hoD K 853), .func (PySem.W.fnOf "is_row" "is_row" (defArgs s_is_row) (defBody s_is_row) (defScope s_is_row) .none (hfK K 853) (hfDoc K 853) (hfPm K 853) (hfAn K 853) (hfCd K 853) (hfCt K 853)), (hoS K 853)⟩) ∧
  (PySem.W.codeIn K (hfCd K 853) "is_row" = true) ∧
  (PySem.W.keepIn K (.ref 853) = true) ∧
  (PySem.W.nsIn K PySem.mainGlobals "is_way" = some (some (.ref 865))) ∧
  (K.lookup 865 = some ⟨(hoC K 865), (hoD K 865), .func (PySem.W.fnOf "is_way" "is_way" (defArgs s_is_way) (defBody s_is_way) (defScope s_is_way) .none (hfK K 865) (hfDoc K 865) (hfPm K 865) (hfAn K 865) (hfCd K 865) (hfCt K 865)), (hoS K 865)⟩)
abbrev HF1 (w : World) (K : Frag) : Prop := (PySem.W.codeIn K (hfCd K 865) "is_way" = true) ∧
  (PySem.W.keepIn K (.ref 865) = true) ∧
  (PySem.W.nsIn K PySem.mainGlobals "turned_way" = some (some (.ref 872))) ∧
  (K.lookup 872 = some ⟨(hoC K 872), (hoD K 872), .func (PySem.W.fnOf "turned_way" "turned_way" (defArgs s_turned_way) (defBody s_turned_way) (defScope s_turned_way) .none (hfK K 872) (hfDoc K 872) (hfPm K 872) (hfAn K 872) (hfCd K 872) (hfCt K 872)), (hoS K 872)⟩) ∧
  (PySem.W.codeIn K (hfCd K 872) "turned_way" = true) ∧
  (PySem.W.keepIn K (.ref 872) = true) ∧
  (PySem.W.nsIn K PySem.mainGlobals "one_run" = some (some (.ref 879))) ∧
  (K.lookup 879 = some ⟨(hoC K 879), (hoD K 879), .func (PySem.W.fnOf "one_run" "one_run" (defArgs s_one_run) (defBody s_one_run) (defScope s_one_run) .none (hfK K 879) (hfDoc K 879) (hfPm K 879) (hfAn K 879) (hfCd K 879) (hfCt K 879)), (hoS K 879)⟩) ∧
  (PySem.W.codeIn K (hfCd K 879) "one_run" = true) ∧
  (PySem.W.keepIn K (.ref 879) = true) ∧
  (PySem.W.nsIn K PySem.mainGlobals "ways_gone" = some (some (.ref 886))) ∧
  (K.lookup 886 = some ⟨(hoC K 886), (hoD K 886), .func (PySem.W.fnOf "ways_gone" "ways_gone" (defArgs s_ways_gone) (defBody s_ways_gone) (defScope s_ways_gone) .none (hfK K 886) (hfDoc K 886) (hfPm K 886) (hfAn K 886) (hfCd K 886) (hfCt K 886)), (hoS K 886)⟩) ∧
  (PySem.W.codeIn K (hfCd K 886) "ways_gone" = true) ∧
  (PySem.W.keepIn K (.ref 886) = true) ∧
  (PySem.W.nsIn K PySem.mainGlobals "offsets_along" = some (some (.ref 893))) ∧
  (K.lookup 893 = some ⟨(hoC K 893), (hoD K 893), .func (PySem.W.fnOf "offsets_along" "offsets_along" (defArgs s_offsets_along) (defBody s_offsets_along) (defScope s_offsets_along) .none (hfK K 893) (hfDoc K 893) (hfPm K 893) (hfAn K 893) (hfCd K 893) (hfCt K 893)), (hoS K 893)⟩) ∧
  (PySem.W.codeIn K (hfCd K 893) "offsets_along" = true) ∧
  (PySem.W.keepIn K (.ref 893) = true) ∧
  (PySem.W.nsIn K PySem.mainGlobals "lane_of" = some (some (.ref 270))) ∧
  (K.lookup 270 = some ⟨(hoC K 270), (hoD K 270), .func (PySem.W.fnOf "lane_of" "lane_of" (defArgs s_lane_of) (defBody s_lane_of) (defScope s_lane_of) .none (hfK K 270) (hfDoc K 270) (hfPm K 270) (hfAn K 270) (hfCd K 270) (hfCt K 270)), (hoS K 270)⟩) ∧
  (PySem.W.codeIn K (hfCd K 270) "lane_of" = true) ∧
  (PySem.W.keepIn K (.ref 270) = true) ∧
  (PySem.W.nsIn K PySem.mainGlobals "square_in" = some (some (.ref 277))) ∧
  (K.lookup 277 = some ⟨(hoC K 277), (hoD K 277), .func (PySem.W.fnOf "square_in" "square_in" (defArgs s_square_in) (defBody s_square_in) (defScope s_square_in) .none (hfK K 277) (hfDoc K 277) (hfPm K 277) (hfAn K 277) (hfCd K 277) (hfCt K 277)), (hoS K 277)⟩) ∧
  (PySem.W.codeIn K (hfCd K 277) "square_in" = true) ∧
  (PySem.W.keepIn K (.ref 277) = true) ∧
  (PySem.W.nsIn K PySem.mainGlobals "lanes_trodden" = some (some (.ref 282))) ∧
  (K.lookup 282 = some ⟨(hoC K 282), (hoD K 282), .func (PySem.W.fnOf "lanes_trodden" "lanes_trodden" (defArgs s_lanes_trodden) (defBody s_lanes_trodden) (defScope s_lanes_trodden) .none (hfK K 282) (hfDoc K 282) (hfPm K 282) (hfAn K 282) (hfCd K 282) (hfCt K 282)), (hoS K 282)⟩) ∧
  (PySem.W.codeIn K (hfCd K 282) "lanes_trodden" = true) ∧
  (PySem.W.keepIn K (.ref 282) = true)
abbrev HF2 (w : World) (K : Frag) : Prop := (PySem.W.nsIn K PySem.mainGlobals "from_start" = some (some (.ref 1180))) ∧
  (K.lookup 1180 = some ⟨(hoC K 1180), (hoD K 1180), .func (PySem.W.fnOf "from_start" "from_start" (defArgs s_from_start) (defBody s_from_start) (defScope s_from_start) .none (hfK K 1180) (hfDoc K 1180) (hfPm K 1180) (hfAn K 1180) (hfCd K 1180) (hfCt K 1180)), (hoS K 1180)⟩) ∧
  (PySem.W.codeIn K (hfCd K 1180) "from_start" = true) ∧
  (PySem.W.keepIn K (.ref 1180) = true) ∧
  (PySem.W.nsIn K PySem.mainGlobals "to_start" = some (some (.ref 1187))) ∧
  (K.lookup 1187 = some ⟨(hoC K 1187), (hoD K 1187), .func (PySem.W.fnOf "to_start" "to_start" (defArgs s_to_start) (defBody s_to_start) (defScope s_to_start) .none (hfK K 1187) (hfDoc K 1187) (hfPm K 1187) (hfAn K 1187) (hfCd K 1187) (hfCt K 1187)), (hoS K 1187)⟩) ∧
  (PySem.W.codeIn K (hfCd K 1187) "to_start" = true) ∧
  (PySem.W.keepIn K (.ref 1187) = true) ∧
  (PySem.W.nsIn K PySem.mainGlobals "square_at" = some (some (.ref 1194))) ∧
  (K.lookup 1194 = some ⟨(hoC K 1194), (hoD K 1194), .func (PySem.W.fnOf "square_at" "square_at" (defArgs s_square_at) (defBody s_square_at) (defScope s_square_at) .none (hfK K 1194) (hfDoc K 1194) (hfPm K 1194) (hfAn K 1194) (hfCd K 1194) (hfCt K 1194)), (hoS K 1194)⟩) ∧
  (PySem.W.codeIn K (hfCd K 1194) "square_at" = true) ∧
  (PySem.W.keepIn K (.ref 1194) = true) ∧
  (PySem.W.nsIn K PySem.mainGlobals "first_unfit" = some (some (.ref 70))) ∧
  (K.lookup 70 = some ⟨(hoC K 70), (hoD K 70), .func (PySem.W.fnOf "first_unfit" "first_unfit" (defArgs s_first_unfit) (defBody s_first_unfit) (defScope s_first_unfit) .none (hfK K 70) (hfDoc K 70) (hfPm K 70) (hfAn K 70) (hfCd K 70) (hfCt K 70)), (hoS K 70)⟩) ∧
  (PySem.W.codeIn K (hfCd K 70) "first_unfit" = true) ∧
  (PySem.W.keepIn K (.ref 70) = true) ∧
  (PySem.W.nsIn K PySem.mainGlobals "place" = some (some (.ref 317))) ∧
  (K.lookup 317 = some ⟨(hoC K 317), (hoD K 317), .func (PySem.W.fnOf "place" "place" (defArgs s_place) (defBody s_place) (defScope s_place) .none (hfK K 317) (hfDoc K 317) (hfPm K 317) (hfAn K 317) (hfCd K 317) (hfCt K 317)), (hoS K 317)⟩) ∧
  (PySem.W.codeIn K (hfCd K 317) "place" = true) ∧
  (PySem.W.keepIn K (.ref 317) = true) ∧
  (PySem.W.nsIn K PySem.mainGlobals "holds_rows" = some (some (.ref 324))) ∧
  (K.lookup 324 = some ⟨(hoC K 324), (hoD K 324), .func (PySem.W.fnOf "holds" "holds" (defArgs s_holds) (defBody s_holds) (defScope s_holds) .none (hfK K 324) (hfDoc K 324) (hfPm K 324) (hfAn K 324) (hfCd K 324) (hfCt K 324)), (hoS K 324)⟩) ∧
  (PySem.W.codeIn K (hfCd K 324) "holds" = true) ∧
  (PySem.W.keepIn K (.ref 324) = true) ∧
  (PySem.W.nsIn K PySem.mainGlobals "primes_of" = some (some (.ref 331))) ∧
  (K.lookup 331 = some ⟨(hoC K 331), (hoD K 331), .func (PySem.W.fnOf "primes_of" "primes_of" (defArgs s_primes_of) (defBody s_primes_of) (defScope s_primes_of) .none (hfK K 331) (hfDoc K 331) (hfPm K 331) (hfAn K 331) (hfCd K 331) (hfCt K 331)), (hoS K 331)⟩) ∧
  (PySem.W.codeIn K (hfCd K 331) "primes_of" = true) ∧
  (PySem.W.keepIn K (.ref 331) = true) ∧
  (PySem.W.nsIn K PySem.mainGlobals "repeats" = some (some (.ref 343))) ∧
  (K.lookup 343 = some ⟨(hoC K 343), (hoD K 343), .func (PySem.W.fnOf "repeats" "repeats" (defArgs s_repeats) (defBody s_repeats) (defScope s_repeats) .none (hfK K 343) (hfDoc K 343) (hfPm K 343) (hfAn K 343) (hfCd K 343) (hfCt K 343)), (hoS K 343)⟩)
abbrev HF3 (w : World) (K : Frag) : Prop := (PySem.W.codeIn K (hfCd K 343) "repeats" = true) ∧
  (PySem.W.keepIn K (.ref 343) = true) ∧
  (PySem.W.nsIn K PySem.mainGlobals "shortest" = some (some (.ref 350))) ∧
  (K.lookup 350 = some ⟨(hoC K 350), (hoD K 350), .func (PySem.W.fnOf "shortest" "shortest" (defArgs s_shortest) (defBody s_shortest) (defScope s_shortest) .none (hfK K 350) (hfDoc K 350) (hfPm K 350) (hfAn K 350) (hfCd K 350) (hfCt K 350)), (hoS K 350)⟩) ∧
  (PySem.W.codeIn K (hfCd K 350) "shortest" = true) ∧
  (PySem.W.keepIn K (.ref 350) = true) ∧
  (PySem.W.nsIn K PySem.mainGlobals "marked_from" = some (some (.ref 357))) ∧
  (K.lookup 357 = some ⟨(hoC K 357), (hoD K 357), .func (PySem.W.fnOf "marked_from" "marked_from" (defArgs s_marked_from) (defBody s_marked_from) (defScope s_marked_from) .none (hfK K 357) (hfDoc K 357) (hfPm K 357) (hfAn K 357) (hfCd K 357) (hfCt K 357)), (hoS K 357)⟩) ∧
  (PySem.W.codeIn K (hfCd K 357) "marked_from" = true) ∧
  (PySem.W.keepIn K (.ref 357) = true) ∧
  (PySem.W.nsIn K PySem.mainGlobals "unchecked" = some (some (.ref 1024))) ∧
  (K.lookup 1024 = some ⟨(hoC K 1024), (hoD K 1024), .func (PySem.W.fnOf "unchecked" "unchecked" (defArgs s_unchecked) (defBody s_unchecked) (defScope s_unchecked) .none (hfK K 1024) (hfDoc K 1024) (hfPm K 1024) (hfAn K 1024) (hfCd K 1024) (hfCt K 1024)), (hoS K 1024)⟩) ∧
  (PySem.W.codeIn K (hfCd K 1024) "unchecked" = true) ∧
  (PySem.W.keepIn K (.ref 1024) = true) ∧
  (PySem.W.nsIn K PySem.mainGlobals "_law_cup" = some (some (.ref 1206))) ∧
  (K.lookup 1206 = some ⟨(hoC K 1206), (hoD K 1206), .func (PySem.W.fnOf "_law_cup" "_law_cup" (defArgs s__law_cup) (defBody s__law_cup) (defScope s__law_cup) .none (hfK K 1206) (hfDoc K 1206) (hfPm K 1206) (hfAn K 1206) (hfCd K 1206) (hfCt K 1206)), (hoS K 1206)⟩) ∧
  (PySem.W.codeIn K (hfCd K 1206) "_law_cup" = true) ∧
  (PySem.W.keepIn K (.ref 1206) = true) ∧
  (PySem.W.nsIn K PySem.mainGlobals "_law_sip" = some (some (.ref 1213))) ∧
  (K.lookup 1213 = some ⟨(hoC K 1213), (hoD K 1213), .func (PySem.W.fnOf "_law_sip" "_law_sip" (defArgs s__law_sip) (defBody s__law_sip) (defScope s__law_sip) .none (hfK K 1213) (hfDoc K 1213) (hfPm K 1213) (hfAn K 1213) (hfCd K 1213) (hfCt K 1213)), (hoS K 1213)⟩) ∧
  (PySem.W.codeIn K (hfCd K 1213) "_law_sip" = true) ∧
  (PySem.W.keepIn K (.ref 1213) = true) ∧
  (PySem.W.nsIn K PySem.mainGlobals "_law_pick" = some (some (.ref 1220))) ∧
  (K.lookup 1220 = some ⟨(hoC K 1220), (hoD K 1220), .func (PySem.W.fnOf "_law_pick" "_law_pick" (defArgs s__law_pick) (defBody s__law_pick) (defScope s__law_pick) .none (hfK K 1220) (hfDoc K 1220) (hfPm K 1220) (hfAn K 1220) (hfCd K 1220) (hfCt K 1220)), (hoS K 1220)⟩) ∧
  (PySem.W.codeIn K (hfCd K 1220) "_law_pick" = true) ∧
  (PySem.W.keepIn K (.ref 1220) = true) ∧
  (PySem.W.nsIn K PySem.mainGlobals "_law_row" = some (some (.ref 1225))) ∧
  (K.lookup 1225 = some ⟨(hoC K 1225), (hoD K 1225), .func (PySem.W.fnOf "_law_row" "_law_row" (defArgs s__law_row) (defBody s__law_row) (defScope s__law_row) .none (hfK K 1225) (hfDoc K 1225) (hfPm K 1225) (hfAn K 1225) (hfCd K 1225) (hfCt K 1225)), (hoS K 1225)⟩) ∧
  (PySem.W.codeIn K (hfCd K 1225) "_law_row" = true) ∧
  (PySem.W.keepIn K (.ref 1225) = true)
abbrev HF4 (w : World) (K : Frag) : Prop := (PySem.W.nsIn K PySem.mainGlobals "_law_start" = some (some (.ref 1232))) ∧
  (K.lookup 1232 = some ⟨(hoC K 1232), (hoD K 1232), .func (PySem.W.fnOf "_law_start" "_law_start" (defArgs s__law_start) (defBody s__law_start) (defScope s__law_start) .none (hfK K 1232) (hfDoc K 1232) (hfPm K 1232) (hfAn K 1232) (hfCd K 1232) (hfCt K 1232)), (hoS K 1232)⟩) ∧
  (PySem.W.codeIn K (hfCd K 1232) "_law_start" = true) ∧
  (PySem.W.keepIn K (.ref 1232) = true) ∧
  (PySem.W.nsIn K PySem.mainGlobals "_law_steps" = some (some (.ref 1237))) ∧
  (K.lookup 1237 = some ⟨(hoC K 1237), (hoD K 1237), .func (PySem.W.fnOf "_law_steps" "_law_steps" (defArgs s__law_steps) (defBody s__law_steps) (defScope s__law_steps) .none (hfK K 1237) (hfDoc K 1237) (hfPm K 1237) (hfAn K 1237) (hfCd K 1237) (hfCt K 1237)), (hoS K 1237)⟩) ∧
  (PySem.W.codeIn K (hfCd K 1237) "_law_steps" = true) ∧
  (PySem.W.keepIn K (.ref 1237) = true) ∧
  (PySem.W.nsIn K PySem.mainGlobals "_law_on" = some (some (.ref 1244))) ∧
  (K.lookup 1244 = some ⟨(hoC K 1244), (hoD K 1244), .func (PySem.W.fnOf "_law_on" "_law_on" (defArgs s__law_on) (defBody s__law_on) (defScope s__law_on) .none (hfK K 1244) (hfDoc K 1244) (hfPm K 1244) (hfAn K 1244) (hfCd K 1244) (hfCt K 1244)), (hoS K 1244)⟩) ∧
  (PySem.W.codeIn K (hfCd K 1244) "_law_on" = true) ∧
  (PySem.W.keepIn K (.ref 1244) = true) ∧
  (PySem.W.nsIn K PySem.mainGlobals "_law_path" = some (some (.ref 1251))) ∧
  (K.lookup 1251 = some ⟨(hoC K 1251), (hoD K 1251), .func (PySem.W.fnOf "_law_path" "_law_path" (defArgs s__law_path) (defBody s__law_path) (defScope s__law_path) .none (hfK K 1251) (hfDoc K 1251) (hfPm K 1251) (hfAn K 1251) (hfCd K 1251) (hfCt K 1251)), (hoS K 1251)⟩) ∧
  (PySem.W.codeIn K (hfCd K 1251) "_law_path" = true) ∧
  (PySem.W.keepIn K (.ref 1251) = true) ∧
  (PySem.W.nsIn K PySem.mainGlobals "_law_four" = some (some (.ref 1256))) ∧
  (K.lookup 1256 = some ⟨(hoC K 1256), (hoD K 1256), .func (PySem.W.fnOf "_law_four" "_law_four" (defArgs s__law_four) (defBody s__law_four) (defScope s__law_four) .none (hfK K 1256) (hfDoc K 1256) (hfPm K 1256) (hfAn K 1256) (hfCd K 1256) (hfCt K 1256)), (hoS K 1256)⟩) ∧
  (PySem.W.codeIn K (hfCd K 1256) "_law_four" = true) ∧
  (PySem.W.keepIn K (.ref 1256) = true) ∧
  (PySem.W.nsIn K PySem.mainGlobals "_law_some" = some (some (.ref 1263))) ∧
  (K.lookup 1263 = some ⟨(hoC K 1263), (hoD K 1263), .func (PySem.W.fnOf "_law_some" "_law_some" (defArgs s__law_some) (defBody s__law_some) (defScope s__law_some) .none (hfK K 1263) (hfDoc K 1263) (hfPm K 1263) (hfAn K 1263) (hfCd K 1263) (hfCt K 1263)), (hoS K 1263)⟩) ∧
  (PySem.W.codeIn K (hfCd K 1263) "_law_some" = true) ∧
  (PySem.W.keepIn K (.ref 1263) = true) ∧
  (PySem.W.nsIn K PySem.mainGlobals "_law_when" = some (some (.ref 1277))) ∧
  (K.lookup 1277 = some ⟨(hoC K 1277), (hoD K 1277), .func (PySem.W.fnOf "_law_when" "_law_when" (defArgs s__law_when) (defBody s__law_when) (defScope s__law_when) .none (hfK K 1277) (hfDoc K 1277) (hfPm K 1277) (hfAn K 1277) (hfCd K 1277) (hfCt K 1277)), (hoS K 1277)⟩) ∧
  (PySem.W.codeIn K (hfCd K 1277) "_law_when" = true) ∧
  (PySem.W.keepIn K (.ref 1277) = true) ∧
  (PySem.W.nsIn K PySem.mainGlobals "_law_due" = some (some (.ref 1282))) ∧
  (K.lookup 1282 = some ⟨(hoC K 1282), (hoD K 1282), .func (PySem.W.fnOf "_law_due" "_law_due" (defArgs s__law_due) (defBody s__law_due) (defScope s__law_due) .none (hfK K 1282) (hfDoc K 1282) (hfPm K 1282) (hfAn K 1282) (hfCd K 1282) (hfCt K 1282)), (hoS K 1282)⟩)
abbrev HF5 (w : World) (K : Frag) : Prop := (PySem.W.codeIn K (hfCd K 1282) "_law_due" = true) ∧
  (PySem.W.keepIn K (.ref 1282) = true) ∧
  (PySem.W.nsIn K PySem.mainGlobals "_law_spot" = some (some (.ref 1289))) ∧
  (K.lookup 1289 = some ⟨(hoC K 1289), (hoD K 1289), .func (PySem.W.fnOf "_law_spot" "_law_spot" (defArgs s__law_spot) (defBody s__law_spot) (defScope s__law_spot) .none (hfK K 1289) (hfDoc K 1289) (hfPm K 1289) (hfAn K 1289) (hfCd K 1289) (hfCt K 1289)), (hoS K 1289)⟩) ∧
  (PySem.W.codeIn K (hfCd K 1289) "_law_spot" = true) ∧
  (PySem.W.keepIn K (.ref 1289) = true) ∧
  (PySem.W.nsIn K PySem.mainGlobals "_law_right" = some (some (.ref 1294))) ∧
  (K.lookup 1294 = some ⟨(hoC K 1294), (hoD K 1294), .func (PySem.W.fnOf "_law_right" "_law_right" (defArgs s__law_right) (defBody s__law_right) (defScope s__law_right) .none (hfK K 1294) (hfDoc K 1294) (hfPm K 1294) (hfAn K 1294) (hfCd K 1294) (hfCt K 1294)), (hoS K 1294)⟩) ∧
  (PySem.W.codeIn K (hfCd K 1294) "_law_right" = true) ∧
  (PySem.W.keepIn K (.ref 1294) = true) ∧
  (PySem.W.nsIn K PySem.mainGlobals "law" = some (some (.ref 1299))) ∧
  (K.lookup 1299 = some ⟨(hoC K 1299), (hoD K 1299), .func (PySem.W.fnOf "law" "law" (defArgs s_law) (defBody s_law) (defScope s_law) .none (hfK K 1299) (hfDoc K 1299) (hfPm K 1299) (hfAn K 1299) (hfCd K 1299) (hfCt K 1299)), (hoS K 1299)⟩) ∧
  (PySem.W.codeIn K (hfCd K 1299) "law" = true) ∧
  (PySem.W.keepIn K (.ref 1299) = true) ∧
  (PySem.W.nsIn K PySem.mainGlobals "Walker" = some (some (.ref 1169))) ∧
  (PySem.W.plainGet K 1169 Str.empty = true) ∧
  (PySem.W.hasDictIn K 1169 = true) ∧
  (PySem.W.plainOver K 1169 = true) ∧
  (PySem.W.findIn K (.ref 1169) "__setattr__" = some (some (.builtin "object.__setattr__"))) ∧
  (PySem.W.findIn K (.ref 1169) "_row" = some none) ∧
  (PySem.W.findIn K (.ref 1169) "_start" = some none) ∧
  (PySem.W.findIn K (.ref 1169) "_way" = some none) ∧
  (PySem.W.findIn K (.ref 1169) "_ways" = some none) ∧
  (PySem.W.findIn K (.ref 1169) "_offsets" = some none) ∧
  (PySem.W.findIn K (.ref 1169) "_drift" = some none) ∧
  (PySem.W.findIn K (.ref 1169) "_lanes" = some none) ∧
  (PySem.W.makesIn K 1169 = true) ∧
  (PySem.W.keepIn K (.ref 1169) = true) ∧
  (PySem.W.findIn K (.ref 1169) "__init__" = some (some (.ref 1052))) ∧
  (K.lookup 1052 = some ⟨(hoC K 1052), (hoD K 1052), .func (PySem.W.fnOf "__init__" "Walker.__init__" (defArgs s_Walker___init__) (defBody s_Walker___init__) (defScope s_Walker___init__) (.ref 1045) (hfK K 1052) (hfDoc K 1052) (hfPm K 1052) (hfAn K 1052) (hfCd K 1052) (hfCt K 1052)), (hoS K 1052)⟩)
abbrev HF6 (w : World) (K : Frag) : Prop := (PySem.W.codeIn K (hfCd K 1052) "Walker.__init__" = true) ∧
  (PySem.W.isFn K (.ref 1052) = true) ∧
  (PySem.W.keepIn K (.ref 1052) = true) ∧
  (K.lookup 1045 = some ⟨.type "tuple", (hoD K 1045), .seq #[.ref 1044, .str "N" (hqT K 1045 1)] (hqN K 1045), (hoS K 1045)⟩) ∧
  (K.lookup 1044 = some ⟨.type "tuple", (hoD K 1044), .seq #[.int 0 (hqT K 1044 0), .int 0 (hqT K 1044 1)] (hqN K 1044), (hoS K 1044)⟩) ∧
  (PySem.W.findIn K (.ref 1169) "start" = some (some (.ref 1068))) ∧
  (PySem.W.specialIn K (.ref 1068) "__get__" = some (some (.builtin "property.__get__"))) ∧
  (PySem.W.takesIn K (.ref 1068) = some true) ∧
  (PySem.W.recIn K 1068 "property" = some (.ref 1067 :: (hrT K 1068))) ∧
  (K.lookup 1067 = some ⟨(hoC K 1067), (hoD K 1067), .func (PySem.W.fnOf "start" "Walker.start" (defArgs s_Walker_start) (defBody s_Walker_start) (defScope s_Walker_start) .none (hfK K 1067) (hfDoc K 1067) (hfPm K 1067) (hfAn K 1067) (hfCd K 1067) (hfCt K 1067)), (hoS K 1067)⟩) ∧
  (PySem.W.codeIn K (hfCd K 1067) "Walker.start" = true) ∧
  (PySem.W.keepIn K (.ref 1067) = true) ∧
  (PySem.W.findIn K (.ref 1169) "period" = some (some (.ref 1084))) ∧
  (PySem.W.specialIn K (.ref 1084) "__get__" = some (some (.builtin "property.__get__"))) ∧
  (PySem.W.takesIn K (.ref 1084) = some true) ∧
  (PySem.W.recIn K 1084 "property" = some (.ref 1083 :: (hrT K 1084))) ∧
  (K.lookup 1083 = some ⟨(hoC K 1083), (hoD K 1083), .func (PySem.W.fnOf "period" "Walker.period" (defArgs s_Walker_period) (defBody s_Walker_period) (defScope s_Walker_period) .none (hfK K 1083) (hfDoc K 1083) (hfPm K 1083) (hfAn K 1083) (hfCd K 1083) (hfCt K 1083)), (hoS K 1083)⟩) ∧
  (PySem.W.codeIn K (hfCd K 1083) "Walker.period" = true) ∧
  (PySem.W.keepIn K (.ref 1083) = true) ∧
  (PySem.W.findIn K (.ref 1169) "drift" = some (some (.ref 1092))) ∧
  (PySem.W.specialIn K (.ref 1092) "__get__" = some (some (.builtin "property.__get__"))) ∧
  (PySem.W.takesIn K (.ref 1092) = some true) ∧
  (PySem.W.recIn K 1092 "property" = some (.ref 1091 :: (hrT K 1092))) ∧
  (K.lookup 1091 = some ⟨(hoC K 1091), (hoD K 1091), .func (PySem.W.fnOf "drift" "Walker.drift" (defArgs s_Walker_drift) (defBody s_Walker_drift) (defScope s_Walker_drift) .none (hfK K 1091) (hfDoc K 1091) (hfPm K 1091) (hfAn K 1091) (hfCd K 1091) (hfCt K 1091)), (hoS K 1091)⟩) ∧
  (PySem.W.codeIn K (hfCd K 1091) "Walker.drift" = true) ∧
  (PySem.W.keepIn K (.ref 1091) = true) ∧
  (PySem.W.findIn K (.ref 1169) "closed" = some (some (.ref 1100))) ∧
  (PySem.W.specialIn K (.ref 1100) "__get__" = some (some (.builtin "property.__get__"))) ∧
  (PySem.W.takesIn K (.ref 1100) = some true) ∧
  (PySem.W.recIn K 1100 "property" = some (.ref 1099 :: (hrT K 1100)))
abbrev HF7 (w : World) (K : Frag) : Prop := (K.lookup 1099 = some ⟨(hoC K 1099), (hoD K 1099), .func (PySem.W.fnOf "closed" "Walker.closed" (defArgs s_Walker_closed) (defBody s_Walker_closed) (defScope s_Walker_closed) .none (hfK K 1099) (hfDoc K 1099) (hfPm K 1099) (hfAn K 1099) (hfCd K 1099) (hfCt K 1099)), (hoS K 1099)⟩) ∧
  (PySem.W.codeIn K (hfCd K 1099) "Walker.closed" = true) ∧
  (PySem.W.keepIn K (.ref 1099) = true) ∧
  (PySem.W.findIn K (.ref 1169) "at" = some (some (.ref 1112))) ∧
  (PySem.W.isFn K (.ref 1112) = true) ∧
  (K.lookup 1112 = some ⟨(hoC K 1112), (hoD K 1112), .func (PySem.W.fnOf "at" "Walker.at" (defArgs s_Walker_at) (defBody s_Walker_at) (defScope s_Walker_at) .none (hfK K 1112) (hfDoc K 1112) (hfPm K 1112) (hfAn K 1112) (hfCd K 1112) (hfCt K 1112)), (hoS K 1112)⟩) ∧
  (PySem.W.codeIn K (hfCd K 1112) "Walker.at" = true) ∧
  (PySem.W.keepIn K (.ref 1112) = true) ∧
  (PySem.W.findIn K (.ref 1169) "times" = some (some (.ref 1124))) ∧
  (PySem.W.isFn K (.ref 1124) = true) ∧
  (K.lookup 1124 = some ⟨(hoC K 1124), (hoD K 1124), .func (PySem.W.fnOf "times" "Walker.times" (defArgs s_Walker_times) (defBody s_Walker_times) (defScope s_Walker_times) .none (hfK K 1124) (hfDoc K 1124) (hfPm K 1124) (hfAn K 1124) (hfCd K 1124) (hfCt K 1124)), (hoS K 1124)⟩) ∧
  (PySem.W.codeIn K (hfCd K 1124) "Walker.times" = true) ∧
  (PySem.W.keepIn K (.ref 1124) = true) ∧
  (PySem.W.nsIn K PySem.mainGlobals "Times" = some (some (.ref 1013))) ∧
  (PySem.W.plainGet K 1013 Str.empty = true) ∧
  (PySem.W.hasDictIn K 1013 = true) ∧
  (PySem.W.plainOver K 1013 = true) ∧
  (PySem.W.findIn K (.ref 1013) "__setattr__" = some (some (.builtin "object.__setattr__"))) ∧
  (PySem.W.findIn K (.ref 1013) "__class__" = some (some (.builtin "object.__class__"))) ∧
  (PySem.W.specialIn K (.builtin "object.__class__") "__get__" = some (some (.builtin "getset_descriptor.__get__"))) ∧
  (PySem.W.takesIn K (.builtin "object.__class__") = some true) ∧
  (PySem.W.mroIn K 1013 (.type "object") = some true) ∧
  (PySem.W.findIn K (.ref 1013) "_numbers" = some none) ∧
  (PySem.W.findIn K (.ref 1013) "_pattern" = some none) ∧
  (PySem.W.kitOne K (.ref 1013) (.ref 1013) = some true) ∧
  (((["NoneType", "bool", "int", "str", "list", "tuple", "dict"] : List String).all fun t => PySem.W.kitOne K (.type t) (.ref 1013) == some false) = true) ∧
  (PySem.W.notFirst K 1013 (.ref 1013) = true) ∧
  (PySem.W.findIn K (.ref 1013) "__ne__" = some (some (.builtin "object.__ne__"))) ∧
  (PySem.W.subIn K (.ref 1013) (.type "object") = some true) ∧
  (PySem.W.makesIn K 1013 = true)
abbrev HF8 (w : World) (K : Frag) : Prop := (PySem.W.keepIn K (.ref 1013) = true) ∧
  (PySem.W.findIn K (.ref 1013) "__init__" = some (some (.ref 907))) ∧
  (K.lookup 907 = some ⟨(hoC K 907), (hoD K 907), .func (PySem.W.fnOf "__init__" "Times.__init__" (defArgs s_Times___init__) (defBody s_Times___init__) (defScope s_Times___init__) .none (.ref 902) (hfDoc K 907) (hfPm K 907) (hfAn K 907) (hfCd K 907) (hfCt K 907)), (hoS K 907)⟩) ∧
  (PySem.W.codeIn K (hfCd K 907) "Times.__init__" = true) ∧
  (PySem.W.isFn K (.ref 907) = true) ∧
  (PySem.W.nsIn K 902 "period" = some (some (.int 1 (hvT K 902 "period")))) ∧
  (PySem.W.nsIn K 902 "marks" = some (some (.ref 901))) ∧
  (K.lookup 901 = some ⟨.type "tuple", (hoD K 901), .seq #[] (hqN K 901), (hoS K 901)⟩) ∧
  (PySem.W.findIn K (.ref 1013) "period" = some (some (.ref 915))) ∧
  (PySem.W.specialIn K (.ref 915) "__get__" = some (some (.builtin "property.__get__"))) ∧
  (PySem.W.takesIn K (.ref 915) = some true) ∧
  (PySem.W.recIn K 915 "property" = some (.ref 914 :: (hrT K 915))) ∧
  (K.lookup 914 = some ⟨(hoC K 914), (hoD K 914), .func (PySem.W.fnOf "period" "Times.period" (defArgs s_Times_period) (defBody s_Times_period) (defScope s_Times_period) .none (hfK K 914) (hfDoc K 914) (hfPm K 914) (hfAn K 914) (hfCd K 914) (hfCt K 914)), (hoS K 914)⟩) ∧
  (PySem.W.codeIn K (hfCd K 914) "Times.period" = true) ∧
  (PySem.W.keepIn K (.ref 914) = true) ∧
  (PySem.W.findIn K (.ref 1013) "numbers" = some (some (.ref 931))) ∧
  (PySem.W.specialIn K (.ref 931) "__get__" = some (some (.builtin "property.__get__"))) ∧
  (PySem.W.takesIn K (.ref 931) = some true) ∧
  (PySem.W.recIn K 931 "property" = some (.ref 930 :: (hrT K 931))) ∧
  (K.lookup 930 = some ⟨(hoC K 930), (hoD K 930), .func (PySem.W.fnOf "numbers" "Times.numbers" (defArgs s_Times_numbers) (defBody s_Times_numbers) (defScope s_Times_numbers) .none (hfK K 930) (hfDoc K 930) (hfPm K 930) (hfAn K 930) (hfCd K 930) (hfCt K 930)), (hoS K 930)⟩) ∧
  (PySem.W.codeIn K (hfCd K 930) "Times.numbers" = true) ∧
  (PySem.W.keepIn K (.ref 930) = true) ∧
  (PySem.W.findIn K (.ref 1013) "first" = some (some (.ref 939))) ∧
  (PySem.W.specialIn K (.ref 939) "__get__" = some (some (.builtin "property.__get__"))) ∧
  (PySem.W.takesIn K (.ref 939) = some true) ∧
  (PySem.W.recIn K 939 "property" = some (.ref 938 :: (hrT K 939))) ∧
  (K.lookup 938 = some ⟨(hoC K 938), (hoD K 938), .func (PySem.W.fnOf "first" "Times.first" (defArgs s_Times_first) (defBody s_Times_first) (defScope s_Times_first) .none (hfK K 938) (hfDoc K 938) (hfPm K 938) (hfAn K 938) (hfCd K 938) (hfCt K 938)), (hoS K 938)⟩) ∧
  (PySem.W.codeIn K (hfCd K 938) "Times.first" = true) ∧
  (PySem.W.keepIn K (.ref 938) = true) ∧
  (PySem.W.findIn K (.ref 1013) "endless" = some (some (.ref 947)))
abbrev HF9 (w : World) (K : Frag) : Prop := (PySem.W.specialIn K (.ref 947) "__get__" = some (some (.builtin "property.__get__"))) ∧
  (PySem.W.takesIn K (.ref 947) = some true) ∧
  (PySem.W.recIn K 947 "property" = some (.ref 946 :: (hrT K 947))) ∧
  (K.lookup 946 = some ⟨(hoC K 946), (hoD K 946), .func (PySem.W.fnOf "endless" "Times.endless" (defArgs s_Times_endless) (defBody s_Times_endless) (defScope s_Times_endless) .none (hfK K 946) (hfDoc K 946) (hfPm K 946) (hfAn K 946) (hfCd K 946) (hfCt K 946)), (hoS K 946)⟩) ∧
  (PySem.W.codeIn K (hfCd K 946) "Times.endless" = true) ∧
  (PySem.W.keepIn K (.ref 946) = true) ∧
  (PySem.W.findIn K (.ref 1013) "many" = some (some (.ref 955))) ∧
  (PySem.W.specialIn K (.ref 955) "__get__" = some (some (.builtin "property.__get__"))) ∧
  (PySem.W.takesIn K (.ref 955) = some true) ∧
  (PySem.W.recIn K 955 "property" = some (.ref 954 :: (hrT K 955))) ∧
  (K.lookup 954 = some ⟨(hoC K 954), (hoD K 954), .func (PySem.W.fnOf "many" "Times.many" (defArgs s_Times_many) (defBody s_Times_many) (defScope s_Times_many) .none (hfK K 954) (hfDoc K 954) (hfPm K 954) (hfAn K 954) (hfCd K 954) (hfCt K 954)), (hoS K 954)⟩) ∧
  (PySem.W.codeIn K (hfCd K 954) "Times.many" = true) ∧
  (PySem.W.keepIn K (.ref 954) = true) ∧
  (PySem.W.findIn K (.ref 1013) "_least_from" = some (some (.ref 969))) ∧
  (PySem.W.isFn K (.ref 969) = true) ∧
  (K.lookup 969 = some ⟨(hoC K 969), (hoD K 969), .func (PySem.W.fnOf "_least_from" "Times._least_from" (defArgs s_Times__least_from) (defBody s_Times__least_from) (defScope s_Times__least_from) .none (hfK K 969) (hfDoc K 969) (hfPm K 969) (hfAn K 969) (hfCd K 969) (hfCt K 969)), (hoS K 969)⟩) ∧
  (PySem.W.codeIn K (hfCd K 969) "Times._least_from" = true) ∧
  (PySem.W.keepIn K (.ref 969) = true) ∧
  (PySem.W.findIn K (.ref 1013) "__contains__" = some (some (.ref 976))) ∧
  (PySem.W.isFn K (.ref 976) = true) ∧
  (K.lookup 976 = some ⟨(hoC K 976), (hoD K 976), .func (PySem.W.fnOf "__contains__" "Times.__contains__" (defArgs s_Times___contains__) (defBody s_Times___contains__) (defScope s_Times___contains__) .none (hfK K 976) (hfDoc K 976) (hfPm K 976) (hfAn K 976) (hfCd K 976) (hfCt K 976)), (hoS K 976)⟩) ∧
  (PySem.W.codeIn K (hfCd K 976) "Times.__contains__" = true) ∧
  (PySem.W.keepIn K (.ref 976) = true) ∧
  (PySem.W.findIn K (.ref 1013) "__eq__" = some (some (.ref 998))) ∧
  (PySem.W.isFn K (.ref 998) = true) ∧
  (K.lookup 998 = some ⟨(hoC K 998), (hoD K 998), .func (PySem.W.fnOf "__eq__" "Times.__eq__" (defArgs s_Times___eq__) (defBody s_Times___eq__) (defScope s_Times___eq__) .none (hfK K 998) (hfDoc K 998) (hfPm K 998) (hfAn K 998) (hfCd K 998) (hfCt K 998)), (hoS K 998)⟩) ∧
  (PySem.W.codeIn K (hfCd K 998) "Times.__eq__" = true) ∧
  (PySem.W.keepIn K (.ref 998) = true) ∧
  (PySem.W.findIn K (.ref 1013) "__bool__" = some (some (.ref 1005))) ∧
  (PySem.W.isFn K (.ref 1005) = true)
abbrev HF10 (w : World) (K : Frag) : Prop := (K.lookup 1005 = some ⟨(hoC K 1005), (hoD K 1005), .func (PySem.W.fnOf "__bool__" "Times.__bool__" (defArgs s_Times___bool__) (defBody s_Times___bool__) (defScope s_Times___bool__) .none (hfK K 1005) (hfDoc K 1005) (hfPm K 1005) (hfAn K 1005) (hfCd K 1005) (hfCt K 1005)), (hoS K 1005)⟩) ∧
  (PySem.W.codeIn K (hfCd K 1005) "Times.__bool__" = true) ∧
  (PySem.W.keepIn K (.ref 1005) = true) ∧
  (PySem.W.nsIn K PySem.mainGlobals "MOST_PERIOD" = some (some (.int 1000 (hvT K 3 "MOST_PERIOD")))) ∧
  (PySem.W.nsIn K PySem.mainGlobals "TURNS" = some (some (.ref 848))) ∧
  (K.lookup 848 = some ⟨.type "dict", none, .dict (hdE K 848) (hdN K 848), #[]⟩) ∧
  ((hdE K 848).toList = ([("R", hkT K 848 0, hkV K 848 0), ("B", hkT K 848 1, hkV K 848 1), ("L", hkT K 848 2, hkV K 848 2)] : List (Str × Tok × Value)).map (fun q => (⟨PyData.keyHash w.params q.1, .str q.1 q.2.1, q.2.2⟩ : DictEntry))) ∧
  (PySem.W.nsIn K 848 "R" = some (some (.int 1 (hvT K 848 "R")))) ∧
  (PySem.W.nsIn K 848 "B" = some (some (.int 2 (hvT K 848 "B")))) ∧
  (PySem.W.nsIn K 848 "L" = some (some (.int 3 (hvT K 848 "L")))) ∧
  (PySem.W.nsIn K 848 "1" = some none) ∧
  (PySem.W.nsIn K 848 "2" = some none) ∧
  (PySem.W.nsIn K 848 "3" = some none) ∧
  (PySem.W.nsIn K 848 "4" = some none) ∧
  (PySem.W.nsIn K 848 "5" = some none) ∧
  (PySem.W.nsIn K 848 "6" = some none) ∧
  (PySem.W.nsIn K 848 "7" = some none) ∧
  (PySem.W.nsIn K 848 "8" = some none) ∧
  (PySem.W.nsIn K 848 "9" = some none) ∧
  (PySem.W.nsIn K PySem.mainGlobals "MOVES" = some (some (.ref 843))) ∧
  (K.lookup 843 = some ⟨.type "dict", none, .dict (hdE K 843) (hdN K 843), #[]⟩) ∧
  ((hdE K 843).toList = ([("N", hkT K 843 0, hkV K 843 0), ("E", hkT K 843 1, hkV K 843 1), ("S", hkT K 843 2, hkV K 843 2), ("W", hkT K 843 3, hkV K 843 3)] : List (Str × Tok × Value)).map (fun q => (⟨PyData.keyHash w.params q.1, .str q.1 q.2.1, q.2.2⟩ : DictEntry))) ∧
  ((hdE K 843).toList.map keyS = (["N", "E", "S", "W"] : List Str)) ∧
  (PySem.W.nsIn K 843 "N" = some (some (.ref 844))) ∧
  (K.lookup 844 = some ⟨.type "tuple", (hoD K 844), .seq #[.int 0 (hqT K 844 0), .int 1 (hqT K 844 1)] (hqN K 844), (hoS K 844)⟩) ∧
  (PySem.W.nsIn K 843 "E" = some (some (.ref 845))) ∧
  (K.lookup 845 = some ⟨.type "tuple", (hoD K 845), .seq #[.int 1 (hqT K 845 0), .int 0 (hqT K 845 1)] (hqN K 845), (hoS K 845)⟩) ∧
  (PySem.W.nsIn K 843 "S" = some (some (.ref 846))) ∧
  (K.lookup 846 = some ⟨.type "tuple", (hoD K 846), .seq #[.int 0 (hqT K 846 0), .int (-1) (hqT K 846 1)] (hqN K 846), (hoS K 846)⟩) ∧
  (PySem.W.nsIn K 843 "W" = some (some (.ref 847)))
abbrev HF11 (w : World) (K : Frag) : Prop := (K.lookup 847 = some ⟨.type "tuple", (hoD K 847), .seq #[.int (-1) (hqT K 847 0), .int 0 (hqT K 847 1)] (hqN K 847), (hoS K 847)⟩) ∧
  (PySem.W.nsIn K PySem.mainGlobals "WAYS" = some (some (.str "NESW" (hvT K 3 "WAYS")))) ∧
  (PySem.W.nsIn K PySem.mainGlobals "GREATEST" = some (some (.int 1000000000000000000000000000000 (hvT K 3 "GREATEST")))) ∧
  (PySem.W.nsIn K PySem.mainGlobals "MOST_ORDERS" = some (some (.int 8 (hvT K 3 "MOST_ORDERS")))) ∧
  (PySem.W.nsIn K PySem.mainGlobals "MOST_STEPS" = some (some (.int 9 (hvT K 3 "MOST_STEPS")))) ∧
  (PySem.W.nsIn K PySem.mainGlobals "isinstance" = some none) ∧
  (PySem.W.nsIn K PySem.mainGlobals "int" = some none) ∧
  (PySem.W.nsIn K PySem.mainGlobals "bool" = some none) ∧
  (PySem.W.nsIn K PySem.mainGlobals "len" = some none) ∧
  (PySem.W.nsIn K PySem.mainGlobals "tuple" = some none) ∧
  (PySem.W.nsIn K PySem.mainGlobals "str" = some none) ∧
  (PySem.W.nsIn K PySem.mainGlobals "list" = some none) ∧
  (PySem.W.nsIn K PySem.mainGlobals "range" = some none) ∧
  (PySem.W.nsIn K PySem.mainGlobals "abs" = some none) ∧
  (PySem.W.nsIn K PySem.mainGlobals "all" = some none) ∧
  (PySem.W.nsIn K PySem.mainGlobals "any" = some none) ∧
  (PySem.W.nsIn K PySem.mainGlobals "divmod" = some none) ∧
  (PySem.W.nsIn K PySem.mainGlobals "enumerate" = some none) ∧
  (PySem.W.nsIn K PySem.mainGlobals "sorted" = some none) ∧
  (PySem.W.nsIn K PySem.mainGlobals "sum" = some none) ∧
  (PySem.W.nsIn K PySem.mainGlobals "min" = some none) ∧
  (PySem.W.nsIn K PySem.mainGlobals "max" = some none) ∧
  (PySem.W.nsIn K PySem.mainGlobals "repr" = some none)
abbrev HF (w : World) (K : Frag) : Prop := HF0 w K ∧ HF1 w K ∧ HF2 w K ∧ HF3 w K ∧ HF4 w K ∧ HF5 w K ∧ HF6 w K ∧ HF7 w K ∧ HF8 w K ∧ HF9 w K ∧ HF10 w K ∧ HF11 w K
theorem hfacts_f (w : World) : HF (w.withFollow "special-get-raises" false) (hK (w.withFollow "special-get-raises" false)) := by
  refine ⟨⟨?_, ?_, ?_, ?_, ?_, ?_, ?_, ?_, ?_, ?_, ?_, ?_, ?_, ?_, ?_, ?_, ?_, ?_, ?_, ?_, ?_, ?_, ?_, ?_, ?_, ?_, ?_, ?_, ?_, ?_⟩, ⟨?_, ?_, ?_, ?_, ?_, ?_, ?_, ?_, ?_, ?_, ?_, ?_, ?_, ?_, ?_, ?_, ?_, ?_, ?_, ?_, ?_, ?_, ?_, ?_, ?_, ?_, ?_, ?_, ?_, ?_⟩, ⟨?_, ?_, ?_, ?_, ?_, ?_, ?_, ?_, ?_, ?_, ?_, ?_, ?_, ?_, ?_, ?_, ?_, ?_, ?_, ?_, ?_, ?_, ?_, ?_, ?_, ?_, ?_, ?_, ?_, ?_⟩, ⟨?_, ?_, ?_, ?_, ?_, ?_, ?_, ?_, ?_, ?_, ?_, ?_, ?_, ?_, ?_, ?_, ?_, ?_, ?_, ?_, ?_, ?_, ?_, ?_, ?_, ?_, ?_, ?_, ?_, ?_⟩, ⟨?_, ?_, ?_, ?_, ?_, ?_, ?_, ?_, ?_, ?_, ?_, ?_, ?_, ?_, ?_, ?_, ?_, ?_, ?_, ?_, ?_, ?_, ?_, ?_, ?_, ?_, ?_, ?_, ?_, ?_⟩, ⟨?_, ?_, ?_, ?_, ?_, ?_, ?_, ?_, ?_, ?_, ?_, ?_, ?_, ?_, ?_, ?_, ?_, ?_, ?_, ?_, ?_, ?_, ?_, ?_, ?_, ?_, ?_, ?_, ?_, ?_⟩, ⟨?_, ?_, ?_, ?_, ?_, ?_, ?_, ?_, ?_, ?_, ?_, ?_, ?_, ?_, ?_, ?_, ?_, ?_, ?_, ?_, ?_, ?_, ?_, ?_, ?_, ?_, ?_, ?_, ?_, ?_⟩, ⟨?_, ?_, ?_, ?_, ?_, ?_, ?_, ?_, ?_, ?_, ?_, ?_, ?_, ?_, ?_, ?_, ?_, ?_, ?_, ?_, ?_, ?_, ?_, ?_, ?_, ?_, ?_, ?_, ?_, ?_⟩, ⟨?_, ?_, ?_, ?_, ?_, ?_, ?_, ?_, ?_, ?_, ?_, ?_, ?_, ?_, ?_, ?_, ?_, ?_, ?_, ?_, ?_, ?_, ?_, ?_, ?_, ?_, ?_, ?_, ?_, ?_⟩, ⟨?_, ?_, ?_, ?_, ?_, ?_, ?_, ?_, ?_, ?_, ?_, ?_, ?_, ?_, ?_, ?_, ?_, ?_, ?_, ?_, ?_, ?_, ?_, ?_, ?_, ?_, ?_, ?_, ?_, ?_⟩, ⟨?_, ?_, ?_, ?_, ?_, ?_, ?_, ?_, ?_, ?_, ?_, ?_, ?_, ?_, ?_, ?_, ?_, ?_, ?_, ?_, ?_, ?_, ?_, ?_, ?_, ?_, ?_, ?_, ?_, ?_⟩, ⟨?_, ?_, ?_, ?_, ?_, ?_, ?_, ?_, ?_, ?_, ?_, ?_, ?_, ?_, ?_, ?_, ?_, ?_, ?_, ?_, ?_, ?_, ?_⟩⟩ <;> kernel_rfl
theorem hfacts_t (w : World) : HF (w.withFollow "special-get-raises" true) (hK (w.withFollow "special-get-raises" true)) := by
  refine ⟨⟨?_, ?_, ?_, ?_, ?_, ?_, ?_, ?_, ?_, ?_, ?_, ?_, ?_, ?_, ?_, ?_, ?_, ?_, ?_, ?_, ?_, ?_, ?_, ?_, ?_, ?_, ?_, ?_, ?_, ?_⟩, ⟨?_, ?_, ?_, ?_, ?_, ?_, ?_, ?_, ?_, ?_, ?_, ?_, ?_, ?_, ?_, ?_, ?_, ?_, ?_, ?_, ?_, ?_, ?_, ?_, ?_, ?_, ?_, ?_, ?_, ?_⟩, ⟨?_, ?_, ?_, ?_, ?_, ?_, ?_, ?_, ?_, ?_, ?_, ?_, ?_, ?_, ?_, ?_, ?_, ?_, ?_, ?_, ?_, ?_, ?_, ?_, ?_, ?_, ?_, ?_, ?_, ?_⟩, ⟨?_, ?_, ?_, ?_, ?_, ?_, ?_, ?_, ?_, ?_, ?_, ?_, ?_, ?_, ?_, ?_, ?_, ?_, ?_, ?_, ?_, ?_, ?_, ?_, ?_, ?_, ?_, ?_, ?_, ?_⟩, ⟨?_, ?_, ?_, ?_, ?_, ?_, ?_, ?_, ?_, ?_, ?_, ?_, ?_, ?_, ?_, ?_, ?_, ?_, ?_, ?_, ?_, ?_, ?_, ?_, ?_, ?_, ?_, ?_, ?_, ?_⟩, ⟨?_, ?_, ?_, ?_, ?_, ?_, ?_, ?_, ?_, ?_, ?_, ?_, ?_, ?_, ?_, ?_, ?_, ?_, ?_, ?_, ?_, ?_, ?_, ?_, ?_, ?_, ?_, ?_, ?_, ?_⟩, ⟨?_, ?_, ?_, ?_, ?_, ?_, ?_, ?_, ?_, ?_, ?_, ?_, ?_, ?_, ?_, ?_, ?_, ?_, ?_, ?_, ?_, ?_, ?_, ?_, ?_, ?_, ?_, ?_, ?_, ?_⟩, ⟨?_, ?_, ?_, ?_, ?_, ?_, ?_, ?_, ?_, ?_, ?_, ?_, ?_, ?_, ?_, ?_, ?_, ?_, ?_, ?_, ?_, ?_, ?_, ?_, ?_, ?_, ?_, ?_, ?_, ?_⟩, ⟨?_, ?_, ?_, ?_, ?_, ?_, ?_, ?_, ?_, ?_, ?_, ?_, ?_, ?_, ?_, ?_, ?_, ?_, ?_, ?_, ?_, ?_, ?_, ?_, ?_, ?_, ?_, ?_, ?_, ?_⟩, ⟨?_, ?_, ?_, ?_, ?_, ?_, ?_, ?_, ?_, ?_, ?_, ?_, ?_, ?_, ?_, ?_, ?_, ?_, ?_, ?_, ?_, ?_, ?_, ?_, ?_, ?_, ?_, ?_, ?_, ?_⟩, ⟨?_, ?_, ?_, ?_, ?_, ?_, ?_, ?_, ?_, ?_, ?_, ?_, ?_, ?_, ?_, ?_, ?_, ?_, ?_, ?_, ?_, ?_, ?_, ?_, ?_, ?_, ?_, ?_, ?_, ?_⟩, ⟨?_, ?_, ?_, ?_, ?_, ?_, ?_, ?_, ?_, ?_, ?_, ?_, ?_, ?_, ?_, ?_, ?_, ?_, ?_, ?_, ?_, ?_, ?_⟩⟩ <;> kernel_rfl
theorem hfacts (w : World) : HF w (hK w) := byRow2 "special-get-raises" (P := fun w => HF w (hK w)) hfacts_f hfacts_t w
end K2
set_option Elab.async false
set_option linter.all false
namespace Wk
/-- an order: a turn by so many quarters to the right, or so many steps -/
inductive Od where
  | t (k : Nat) | g (n : Nat)
def Od.ok : Od → Prop
  | .t k => 1 ≤ k ∧ k ≤ 3
  | .g n => 1 ≤ n ∧ n ≤ 9
def Od.isGo : Od → Bool
  | .t _ => false
  | .g _ => true
/-- the ways of one run, from the way w on -/
def run : List Od → Nat → List Nat
  | [], _ => []
  | .t k :: l, w => run l ((w + k) % 4)
  | .g n :: l, w => List.replicate n w ++ run l w
/-- the way behind it -/
def fin : List Od → Nat → Nat
  | [], w => w
  | .t k :: l, w => fin l ((w + k) % 4)
  | .g _ :: l, w => fin l w
def tot : List Od → Nat
  | [] => 0
  | .t k :: l => k + tot l
  | .g _ :: l => tot l
def stp : List Od → Nat
  | [] => 0
  | .t _ :: l => stp l
  | .g n :: l => n + stp l
def runs (l : List Od) : Nat → Nat → List Nat
  | 0, _ => []
  | n + 1, w => run l w ++ runs l n (fin l w)
def fins (l : List Od) : Nat → Nat → Nat
  | 0, w => w
  | n + 1, w => fins l n (fin l w)
variable {l : List Od} {w : Nat}
theorem run_len : ∀ (l : List Od) (w : Nat), (run l w).length = stp l
  | [], _ => rfl
  | .t _ :: l, w => run_len l _
  | .g n :: l, w => by
    show (List.replicate n w ++ run l w).length = n + stp l
    rw [List.length_append, List.length_replicate, run_len l w]
theorem runs_len (l : List Od) : ∀ (n w : Nat), (runs l n w).length = n * stp l
  | 0, _ => by rw [Nat.zero_mul]; rfl
  | n + 1, w => by
    show (run l w ++ runs l n (fin l w)).length = _
    rw [List.length_append, run_len, runs_len l n, Nat.succ_mul, Nat.add_comm]
theorem runs_add (l : List Od) : ∀ (m n w : Nat), runs l (m + n) w = runs l m w ++ runs l n (fins l m w)
  | 0, n, w => by rw [Nat.zero_add]; rfl
  | m + 1, n, w => by
    rw [Nat.add_right_comm]
    show run l w ++ runs l (m + n) (fin l w) = (run l w ++ runs l m (fin l w)) ++ _
    rw [runs_add l m n, List.append_assoc]
    rfl
theorem fins_add (l : List Od) : ∀ (m n w : Nat), fins l (m + n) w = fins l n (fins l m w)
  | 0, n, w => by rw [Nat.zero_add]; rfl
  | m + 1, n, w => by
    rw [Nat.add_right_comm]
    exact fins_add l m n (fin l w)
theorem fin_eq : ∀ (l : List Od) (w : Nat), w < 4 → fin l w = (w + tot l) % 4
  | [], w, h => (Nat.mod_eq_of_lt h).symm
  | .t k :: l, w, h => by
    show fin l ((w + k) % 4) = (w + (k + tot l)) % 4
    rw [fin_eq l _ (Nat.mod_lt _ (by decide))]
    omega
  | .g _ :: l, w, h => fin_eq l w h
theorem fin_lt (h : w < 4) : fin l w < 4 := by
  rw [fin_eq l w h]
  exact Nat.mod_lt _ (by decide)
theorem fins_lt (l : List Od) : ∀ (n w : Nat), w < 4 → fins l n w < 4
  | 0, _, h => h
  | n + 1, _, h => fins_lt l n _ (fin_lt h)
theorem fins_eq (l : List Od) : ∀ (n w : Nat), w < 4 → fins l n w = (w + n * tot l) % 4
  | 0, w, h => by rw [Nat.zero_mul]; exact (Nat.mod_eq_of_lt h).symm
  | n + 1, w, h => by
    show fins l n (fin l w) = _
    rw [fins_eq l n _ (fin_lt h), fin_eq l w h, Nat.succ_mul]
    omega
theorem fins_four (l : List Od) (h : w < 4) : fins l 4 w = w := by
  rw [fins_eq l 4 w h]
  omega
theorem run_lt : ∀ (l : List Od) (w : Nat), w < 4 → ∀ a ∈ run l w, a < 4
  | [], _, _, a, h => by cases h
  | .t k :: l, w, _, a, h => run_lt l _ (Nat.mod_lt _ (by decide)) a h
  | .g n :: l, w, hw, a, h => by
    rcases List.mem_append.mp (show a ∈ List.replicate n w ++ run l w from h) with z | z
    · rw [List.eq_of_mem_replicate z]; exact hw
    · exact run_lt l w hw a z
theorem runs_lt (l : List Od) : ∀ (n w : Nat), w < 4 → ∀ a ∈ runs l n w, a < 4
  | 0, _, _, a, h => by cases h
  | n + 1, w, hw, a, h => by
    rcases List.mem_append.mp (show a ∈ run l w ++ runs l n (fin l w) from h) with z | z
    · exact run_lt l w hw a z
    · exact runs_lt l n _ (fin_lt hw) a z
/-- the way at the time t -/
def way (l : List Od) (w t : Nat) : Nat := ((runs l (t + 1) w)[t]?).getD 0
theorem long (h : 0 < stp l) (t w : Nat) : t < (runs l (t + 1) w).length := by
  rw [runs_len, Nat.succ_mul]
  have : t ≤ t * stp l := Nat.le_mul_of_pos_right _ h
  omega
theorem way_some (h : 0 < stp l) (t w : Nat) : (runs l (t + 1) w)[t]? = some (way l w t) := by
  unfold way
  rw [List.getElem?_eq_getElem (long h t w)]
  rfl
theorem runs_at (h : 0 < stp l) {n t : Nat} (w : Nat) (ht : t < n * stp l) : (runs l n w)[t]? = some (way l w t) := by
  rw [← way_some h]
  have lt := long h t w
  by_cases c : n ≤ t + 1
  · obtain ⟨k, hk⟩ := Nat.exists_eq_add_of_le c
    rw [hk, runs_add, List.getElem?_append_left (by rw [runs_len]; exact ht)]
  · obtain ⟨k, hk⟩ := Nat.exists_eq_add_of_le (Nat.le_of_not_le c)
    rw [hk, runs_add, List.getElem?_append_left lt]
theorem runs_map (h : 0 < stp l) (n w : Nat) : runs l n w = (List.range (n * stp l)).map (way l w) := by
  apply List.ext_getElem?
  intro i
  by_cases c : i < n * stp l
  · rw [runs_at h w c, List.getElem?_map, List.getElem?_range c]
    rfl
  · rw [List.getElem?_eq_none (by rw [runs_len]; omega), List.getElem?_eq_none (by rw [List.length_map, List.length_range]; omega)]
theorem way_lt (h : 0 < stp l) (hw : w < 4) (t : Nat) : way l w t < 4 := runs_lt l (t + 1) w hw _ (List.mem_of_getElem? (way_some h t w))
/-- so many runs as lead back to the way are a period -/
theorem way_per (h : 0 < stp l) {n : Nat} (hn : fins l n w = w) : ∀ t, way l w (t + n * stp l) = way l w t := fun t => by
  have z := runs_at h (n := n + (t + 1)) (t := t + n * stp l) w (by
    have : t ≤ t * stp l := Nat.le_mul_of_pos_right _ h
    rw [Nat.add_mul, Nat.succ_mul]
    omega)
  rw [runs_add, hn, List.getElem?_append_right (by rw [runs_len]; omega), runs_len, Nat.add_sub_cancel, way_some h] at z
  exact (Option.some.inj z).symm
structure IsPer (f : Nat → Nat) (p : Nat) : Prop where
  pos : 0 < p
  per : ∀ t, f (t + p) = f t
  least : ∀ m, 0 < m → (∀ t, f (t + m) = f t) → p ≤ m
theorem per_mul {f : Nat → Nat} {p : Nat} (h : ∀ t, f (t + p) = f t) : ∀ k t, f (t + p * k) = f t
  | 0, t => by rw [Nat.mul_zero]; rfl
  | k + 1, t => by rw [Nat.mul_succ, ← Nat.add_assoc, h, per_mul h k]
theorem per_mod {f : Nat → Nat} {p : Nat} (h : ∀ t, f (t + p) = f t) (t : Nat) : f t = f (t % p) := by
  have z := per_mul h (t / p) (t % p)
  rw [Nat.mod_add_div] at z
  exact z
theorem per_sub {f : Nat → Nat} {m n : Nat} (a : ∀ t, f (t + m) = f t) (b : ∀ t, f (t + n) = f t) (h : n ≤ m) : ∀ t, f (t + (m - n)) = f t := fun t => by
  have z := b (t + (m - n))
  rw [show t + (m - n) + n = t + m by omega] at z
  rw [← z, a]
theorem IsPer.dvd {f : Nat → Nat} {p m : Nat} (h : IsPer f p) (hm : ∀ t, f (t + m) = f t) : p ∣ m := by
  apply Nat.dvd_of_mod_eq_zero
  apply Classical.byContradiction
  intro ne
  have e : m % p = m - p * (m / p) := by
    have := Nat.div_add_mod m p
    omega
  have pm : ∀ t, f (t + m % p) = f t := by
    rw [e]
    exact per_sub hm (fun t => per_mul h.per (m / p) t) (Nat.mul_div_le m p)
  have := h.least (m % p) (by omega) pm
  have := Nat.mod_lt m h.pos
  omega
theorem per_ex (f : Nat → Nat) : ∀ n, 0 < n → (∀ t, f (t + n) = f t) → ∃ p, IsPer f p ∧ p ≤ n := fun n => by
  induction n using Nat.strongRecOn with
  | ind n ih =>
    intro h0 h
    by_cases c : ∃ m, 0 < m ∧ m < n ∧ ∀ t, f (t + m) = f t
    · obtain ⟨m, a, b, z⟩ := c
      obtain ⟨p, hp, hl⟩ := ih m b a z
      exact ⟨p, hp, by omega⟩
    · refine ⟨n, ⟨h0, h, fun m hm z => ?_⟩, Nat.le_refl _⟩
      apply Classical.byContradiction
      intro q
      exact c ⟨m, hm, by omega, z⟩
theorem IsPer.uniq {f : Nat → Nat} {p q : Nat} (a : IsPer f p) (b : IsPer f q) : p = q := Nat.le_antisymm (a.least q b.pos b.per) (b.least p a.pos a.per)
def mx : Nat → Int
  | 1 => 1
  | 3 => -1
  | _ => 0
def my : Nat → Int
  | 0 => 1
  | 2 => -1
  | _ => 0
def px (f : Nat → Nat) : Nat → Int
  | 0 => 0
  | t + 1 => px f t + mx (f t)
def py (f : Nat → Nat) : Nat → Int
  | 0 => 0
  | t + 1 => py f t + my (f t)
theorem mx_le (a : Nat) : -1 ≤ mx a ∧ mx a ≤ 1 := by
  unfold mx
  split <;> omega
theorem my_le (a : Nat) : -1 ≤ my a ∧ my a ≤ 1 := by
  unfold my
  split <;> omega
theorem px_le (f : Nat → Nat) : ∀ t : Nat, -(t : Int) ≤ px f t ∧ px f t ≤ t
  | 0 => ⟨by simp [px], by simp [px]⟩
  | t + 1 => by
    have a := px_le f t
    have b := mx_le (f t)
    show -((t + 1 : Nat) : Int) ≤ px f t + mx (f t) ∧ px f t + mx (f t) ≤ _
    omega
theorem py_le (f : Nat → Nat) : ∀ t : Nat, -(t : Int) ≤ py f t ∧ py f t ≤ t
  | 0 => ⟨by simp [py], by simp [py]⟩
  | t + 1 => by
    have a := py_le f t
    have b := my_le (f t)
    show -((t + 1 : Nat) : Int) ≤ py f t + my (f t) ∧ py f t + my (f t) ≤ _
    omega
theorem px_step {f : Nat → Nat} {p : Nat} (h : ∀ t, f (t + p) = f t) : ∀ t, px f (t + p) = px f p + px f t
  | 0 => by rw [Nat.zero_add]; simp [px]
  | t + 1 => by
    rw [Nat.add_right_comm]
    show px f (t + p) + mx (f (t + p)) = px f p + (px f t + mx (f t))
    rw [px_step h t, h t]
    omega
theorem py_step {f : Nat → Nat} {p : Nat} (h : ∀ t, f (t + p) = f t) : ∀ t, py f (t + p) = py f p + py f t
  | 0 => by rw [Nat.zero_add]; simp [py]
  | t + 1 => by
    rw [Nat.add_right_comm]
    show py f (t + p) + my (f (t + p)) = py f p + (py f t + my (f t))
    rw [py_step h t, h t]
    omega
theorem px_mul {f : Nat → Nat} {p : Nat} (h : ∀ t, f (t + p) = f t) (r : Nat) : ∀ k : Nat, px f (r + p * k) = px f r + (k : Int) * px f p
  | 0 => by simp
  | k + 1 => by
    rw [Nat.mul_succ, ← Nat.add_assoc, px_step h, px_mul h r k, Int.natCast_succ, Int.add_mul]
    omega
theorem py_mul {f : Nat → Nat} {p : Nat} (h : ∀ t, f (t + p) = f t) (r : Nat) : ∀ k : Nat, py f (r + p * k) = py f r + (k : Int) * py f p
  | 0 => by simp
  | k + 1 => by
    rw [Nat.mul_succ, ← Nat.add_assoc, py_step h, py_mul h r k, Int.natCast_succ, Int.add_mul]
    omega
theorem px_div {f : Nat → Nat} {p : Nat} (h : ∀ t, f (t + p) = f t) (t : Nat) : px f t = px f (t % p) + ((t / p : Nat) : Int) * px f p := by
  rw [← px_mul h, Nat.mod_add_div]
theorem py_div {f : Nat → Nat} {p : Nat} (h : ∀ t, f (t + p) = f t) (t : Nat) : py f t = py f (t % p) + ((t / p : Nat) : Int) * py f p := by
  rw [← py_mul h, Nat.mod_add_div]
theorem stp_pos : ∀ {l : List Od}, (∀ o ∈ l, o.ok) → l.any Od.isGo = true → 0 < stp l
  | [], _, h => by cases h
  | .t k :: l, ok, h => stp_pos (l := l) (fun o ho => ok o (List.mem_cons_of_mem _ ho)) h
  | .g n :: l, ok, _ => by
    have z : 1 ≤ n ∧ n ≤ 9 := ok (.g n) (List.mem_cons_self ..)
    show 0 < n + stp l
    omega
theorem stp_le : ∀ {l : List Od}, (∀ o ∈ l, o.ok) → stp l ≤ 9 * l.length
  | [], _ => Nat.le_refl _
  | .t k :: l, ok => by
    have z := stp_le (l := l) fun o ho => ok o (List.mem_cons_of_mem _ ho)
    show stp l ≤ 9 * (l.length + 1)
    omega
  | .g n :: l, ok => by
    have y : 1 ≤ n ∧ n ≤ 9 := ok (.g n) (List.mem_cons_self ..)
    have z := stp_le (l := l) fun o ho => ok o (List.mem_cons_of_mem _ ho)
    show n + stp l ≤ 9 * (l.length + 1)
    omega
/-- a row of orders as it is passed -/
structure Row (l : List Od) : Prop where
  ok : ∀ o ∈ l, o.ok
  go : l.any Od.isGo = true
  le : l.length ≤ 8
theorem Row.pos (r : Row l) : 0 < stp l := stp_pos r.ok r.go
theorem Row.stp (r : Row l) : stp l ≤ 72 := by
  have := stp_le r.ok
  have := r.le
  omega
theorem Row.ne (r : Row l) : l ≠ [] := fun e => by
  have z := r.go
  rw [e] at z
  cases z
theorem Row.per (r : Row l) (hw : w < 4) : ∃ p, IsPer (way l w) p ∧ p ≤ 288 := by
  obtain ⟨p, hp, hl⟩ := per_ex (way l w) (4 * Wk.stp l) (by have := r.pos; omega) (way_per r.pos (fins_four l hw))
  exact ⟨p, hp, by have := r.stp; omega⟩
end Wk
set_option Elab.async false
set_option linter.all false
set_option maxRecDepth 100000
set_option maxHeartbeats 4000000
namespace Vd
open PySem L2
abbrev Ex := Evl.Ex
/-- plain data; rol: a list that is only read (the script); ins, exc: a frozen instance, a frozen exception; ob: a value of which nothing is said; tupF: a tuple that stands in the heap itself (a dict's key may be such); dtp: a dict whose keys are tuples -/
inductive D where
  | non | bl (b : Bool) | int (i : Int) | str (x : Str)
  | lst (l : List D) | rol (l : List D) | tup (l : List D) | dct (l : List (Key × D))
  | ins (C : Addr) (l : List (Str × D)) | exc (C : Addr) (l : List (Str × D)) | ob (v : V)
  | tupF (l : List D) | dtp (l : List (List Key × D))
mutual
inductive Rp (K : PySem.W.Frag) (F : Hp) : V → D → Prop
  | non : Rp K F .non .non
  | bl (b : Bool) : Rp K F (.bl b) (.bl b)
  | int (i : Int) : Rp K F (.int i) (.int i)
  | str (x : Str) : Rp K F (.str x) (.str x)
  | lst {a : Addr} {xs : List V} {l : List D} : F a = some (.lst xs) → Rps K F xs l → Rp K F (.ref a) (.lst l)
  | rol {a : Addr} {xs : List V} {l : List D} : SqL K F a xs → Rps K F xs l → Rp K F (.ref a) (.rol l)
  | tup {a : Addr} {xs : List V} {l : List D} : SqT K F a xs → Rps K F xs l → Rp K F (.ref a) (.tup l)
  | dct {a : Addr} {kvs : List (Key × V)} {l : List (Key × D)} : F a = some (.dK kvs) → Rpk K F kvs l → Rp K F (.ref a) (.dct l)
  | ins {a C dx : Addr} {fs : List (Str × V)} {l : List (Str × D)} : F a = some (.ins C dx fs) → Rpf K F fs l → Rp K F (.ref a) (.ins C l)
  | exc0 {a C : Addr} : F a = some (exo a C none) → Rp K F (.ref a) (.exc C [])
  | exc {a C dx : Addr} {fs : List (Str × V)} {l : List (Str × D)} : F a = some (exo a C (some dx)) → F dx = some (exd dx fs) → Rpf K F fs l → Rp K F (.ref a) (.exc C l)
  | ob (v : V) : Rp K F v (.ob v)
  | tupF {a : Addr} {xs : List V} {l : List D} : F a = some (.tup xs) → Rps K F xs l → Rp K F (.ref a) (.tupF l)
  | dtp {a : Addr} {o : Obj} {kvs : List (List Key × V)} {l : List (List Key × D)} : F a = some (.frz o (.dT kvs)) → Rpt K F kvs l → Rp K F (.ref a) (.dtp l)
inductive Rps (K : PySem.W.Frag) (F : Hp) : List V → List D → Prop
  | nil : Rps K F [] []
  | cons {v : V} {d : D} {vs : List V} {ds : List D} : Rp K F v d → Rps K F vs ds → Rps K F (v :: vs) (d :: ds)
inductive Rpk (K : PySem.W.Frag) (F : Hp) : List (Key × V) → List (Key × D) → Prop
  | nil : Rpk K F [] []
  | cons {k : Key} {v : V} {d : D} {vs : List (Key × V)} {ds : List (Key × D)} : Rp K F v d → Rpk K F vs ds → Rpk K F ((k, v) :: vs) ((k, d) :: ds)
inductive Rpt (K : PySem.W.Frag) (F : Hp) : List (List Key × V) → List (List Key × D) → Prop
  | nil : Rpt K F [] []
  | cons {k : List Key} {v : V} {d : D} {vs : List (List Key × V)} {ds : List (List Key × D)} : Rp K F v d → Rpt K F vs ds → Rpt K F ((k, v) :: vs) ((k, d) :: ds)
inductive Rpf (K : PySem.W.Frag) (F : Hp) : List (Str × V) → List (Str × D) → Prop
  | nil : Rpf K F [] []
  | cons {k : Str} {v : V} {d : D} {vs : List (Str × V)} {ds : List (Str × D)} : Rp K F v d → Rpf K F vs ds → Rpf K F ((k, v) :: vs) ((k, d) :: ds)
end
section
variable {K : PySem.W.Frag} {F F' : Hp}
mutual
theorem Rp.mono (e : Ex F F') : ∀ {v : V} {d : D}, Rp K F v d → Rp K F' v d
  | _, _, .non => .non
  | _, _, .bl b => .bl b
  | _, _, .int i => .int i
  | _, _, .str x => .str x
  | _, _, .lst h r => .lst (e _ _ h) (Rps.mono e r)
  | _, _, .rol h r => .rol (Evl.ex_l e h) (Rps.mono e r)
  | _, _, .exc0 h => .exc0 (e _ _ h)
  | _, _, .exc h1 h2 r => .exc (e _ _ h1) (e _ _ h2) (Rpf.mono e r)
  | _, _, .tup h r => .tup (Evl.ex_t e h) (Rps.mono e r)
  | _, _, .dct h r => .dct (e _ _ h) (Rpk.mono e r)
  | _, _, .ins h r => .ins (e _ _ h) (Rpf.mono e r)
  | _, _, .ob v => .ob v
  | _, _, .tupF h r => .tupF (e _ _ h) (Rps.mono e r)
  | _, _, .dtp h r => .dtp (e _ _ h) (Rpt.mono e r)
theorem Rps.mono (e : Ex F F') : ∀ {v : List V} {d : List D}, Rps K F v d → Rps K F' v d
  | _, _, .nil => .nil
  | _, _, .cons h r => .cons (Rp.mono e h) (Rps.mono e r)
theorem Rpk.mono (e : Ex F F') : ∀ {v : List (Key × V)} {d : List (Key × D)}, Rpk K F v d → Rpk K F' v d
  | _, _, .nil => .nil
  | _, _, .cons h r => .cons (Rp.mono e h) (Rpk.mono e r)
theorem Rpt.mono (e : Ex F F') : ∀ {v : List (List Key × V)} {d : List (List Key × D)}, Rpt K F v d → Rpt K F' v d
  | _, _, .nil => .nil
  | _, _, .cons h r => .cons (Rp.mono e h) (Rpt.mono e r)
theorem Rpf.mono (e : Ex F F') : ∀ {v : List (Str × V)} {d : List (Str × D)}, Rpf K F v d → Rpf K F' v d
  | _, _, .nil => .nil
  | _, _, .cons h r => .cons (Rp.mono e h) (Rpf.mono e r)
end
theorem Rps.length : ∀ {v : List V} {d : List D}, Rps K F v d → v.length = d.length
  | _, _, .nil => rfl
  | _, _, .cons _ r => by simp [Rps.length r]
theorem Rps.get : ∀ {v : List V} {d : List D} {i : Nat} {x : D}, Rps K F v d → d[i]? = some x → ∃ y, v[i]? = some y ∧ Rp K F y x
  | _, _, _, _, .nil, e => by simp at e
  | _, _, 0, _, .cons h _, e => by
    simp at e
    subst e
    exact ⟨_, rfl, h⟩
  | _, _, i + 1, _, .cons _ r, e => by
    simp only [List.getElem?_cons_succ] at e ⊢
    exact Rps.get r e
theorem Rps.get' : ∀ {v : List V} {d : List D} {i : Nat} {y : V}, Rps K F v d → v[i]? = some y → ∃ x, d[i]? = some x ∧ Rp K F y x
  | _, _, _, _, .nil, e => by simp at e
  | _, _, 0, _, .cons h _, e => by
    simp at e
    subst e
    exact ⟨_, rfl, h⟩
  | _, _, i + 1, _, .cons _ r, e => by
    simp only [List.getElem?_cons_succ] at e ⊢
    exact Rps.get' r e
theorem Rps.append : ∀ {v w : List V} {d e : List D}, Rps K F v d → Rps K F w e → Rps K F (v ++ w) (d ++ e)
  | _, _, _, _, .nil, s => s
  | _, _, _, _, .cons h r, s => .cons h (Rps.append r s)
theorem Rps.take : ∀ {v : List V} {d : List D} (n : Nat), Rps K F v d → Rps K F (v.take n) (d.take n)
  | _, _, 0, _ => .nil
  | _, _, _ + 1, .nil => .nil
  | _, _, n + 1, .cons h r => .cons h (Rps.take n r)
theorem Rps.drop : ∀ {v : List V} {d : List D} (n : Nat), Rps K F v d → Rps K F (v.drop n) (d.drop n)
  | _, _, 0, r => r
  | _, _, _ + 1, .nil => .nil
  | _, _, n + 1, .cons _ r => Rps.drop n r
theorem Rps.set {y : V} {x : D} (h : Rp K F y x) : ∀ {v : List V} {d : List D} (n : Nat), Rps K F v d → Rps K F (v.set n y) (d.set n x)
  | _, _, _, .nil => .nil
  | _, _, 0, .cons _ r => .cons h r
  | _, _, n + 1, .cons z r => .cons z (Rps.set h n r)
theorem Rps.ints : ∀ (l : List Int), Rps K F (l.map V.int) (l.map D.int)
  | [] => .nil
  | i :: l => .cons (.int i) (Rps.ints l)
theorem Rps.bls : ∀ {v : List V} {l : List Bool}, Rps K F v (l.map D.bl) → v = l.map V.bl
  | _, [], .nil => rfl
  | _, b :: l, .cons (.bl _) r => by rw [Rps.bls (l := l) r]; rfl
theorem Rps.intsV : ∀ {v : List V} {l : List Int}, Rps K F v (l.map D.int) → v = l.map V.int
  | _, [], .nil => rfl
  | _, b :: l, .cons (.int _) r => by rw [Rps.intsV (l := l) r]; rfl
theorem Rps.strsV : ∀ {v : List V} {l : List Str}, Rps K F v (l.map D.str) → v = l.map V.str
  | _, [], .nil => rfl
  | _, b :: l, .cons (.str _) r => by rw [Rps.strsV (l := l) r]; rfl
theorem Rpf.look : ∀ {v : List (Str × V)} {d : List (Str × D)} {f : Str} {x : D}, Rpf K F v d → d.lookup f = some x → ∃ y, v.lookup f = some y ∧ Rp K F y x
  | _, _, _, _, .nil, e => by cases e
  | _, _, f, x, .cons (k := k) (v := v) (d := d) h r, e => by
    by_cases q : f = k
    · subst q
      simp [List.lookup] at e ⊢
      subst e
      exact h
    · have q2 : (f == k) = false := by simpa using q
      simp [List.lookup, q2] at e ⊢
      exact Rpf.look r e
theorem look_cons {A : Type} (f k : Str) (x : A) (l : List (Str × A)) : ((k, x) :: l).lookup f = if f = k then some x else l.lookup f := by
  by_cases q : f = k
  · subst q
    simp [List.lookup]
  · have q2 : (f == k) = false := by simpa using q
    simp only [List.lookup, q2, if_neg q]
theorem Rpf.none : ∀ {v : List (Str × V)} {d : List (Str × D)} {f : Str}, Rpf K F v d → d.lookup f = Option.none → v.lookup f = Option.none
  | _, _, _, .nil, _ => rfl
  | _, _, f, .cons (k := k) (v := v) (d := d) h r, e => by
    rw [look_cons] at e ⊢
    by_cases q : f = k
    · rw [if_pos q] at e
      cases e
    · rw [if_neg q] at e ⊢
      exact Rpf.none r e
theorem Rpf.length : ∀ {v : List (Str × V)} {d : List (Str × D)}, Rpf K F v d → v.length = d.length
  | _, _, .nil => rfl
  | _, _, .cons _ r => by simp [Rpf.length r]
end
structure Sl (K : PySem.W.Frag) (F : Hp) (σ : L2.St) (env : List (Option D)) : Prop where
  len : σ.length = env.length
  at_ : ∀ (i : Nat) (d : D), env[i]? = some (some d) → ∃ v, σ[i]? = some (some v) ∧ Rp K F v d
section
variable {K : PySem.W.Frag} {F F' : Hp} {σ : L2.St} {env : List (Option D)}
theorem Sl.mono (e : Ex F F') (s : Sl K F σ env) : Sl K F' σ env := ⟨s.len, fun i d h => by
  obtain ⟨v, h1, h2⟩ := s.at_ i d h
  exact ⟨v, h1, h2.mono e⟩⟩
theorem Sl.set {v : V} {d : D} (s : Sl K F σ env) (r : Rp K F v d) (i : Nat) : Sl K F (σ.set i (some v)) (env.set i (some d)) := ⟨by rw [List.length_set, List.length_set, s.len], fun j e h => by
  rw [List.getElem?_set] at h ⊢
  by_cases q : i = j
  · subst q
    rw [if_pos rfl] at h ⊢
    by_cases l : i < env.length
    · rw [if_pos l] at h
      rw [if_pos (by rw [s.len]; exact l)]
      cases h
      exact ⟨v, rfl, r⟩
    · rw [if_neg l] at h
      cases h
  · rw [if_neg q] at h ⊢
    exact s.at_ j e h⟩
theorem Sl.unset (s : Sl K F σ env) (i : Nat) : Sl K F (σ.set i none) (env.set i none) := ⟨by rw [List.length_set, List.length_set, s.len], fun j e h => by
  rw [List.getElem?_set] at h ⊢
  by_cases q : i = j
  · subst q
    rw [if_pos rfl] at h
    by_cases l : i < env.length
    · rw [if_pos l] at h
      cases h
    · rw [if_neg l] at h
      cases h
  · rw [if_neg q] at h ⊢
    exact s.at_ j e h⟩
def wipeE (env : List (Option D)) : List Nat → List (Option D)
  | [] => env
  | v :: vs => (wipeE env vs).set v none
theorem Sl.wipe (s : Sl K F σ env) : ∀ vs : List Nat, Sl K F (L2.wipe σ vs) (wipeE env vs)
  | [] => s
  | v :: vs => (Sl.wipe s vs).unset v
theorem Sl.start {N : List Str} {vs : List V} {ds : List D} (r : Rps K F vs ds) : Sl K F (L2.start N vs) (ds.map some ++ List.replicate (N.length - ds.length) none) := by
  have e := r.length
  refine ⟨by simp [L2.start, e], fun i d h => ?_⟩
  unfold L2.start
  by_cases l : i < ds.length
  · rw [List.getElem?_append_left (by simpa using l)] at h
    rw [List.getElem?_append_left (by simpa [e] using l)]
    rw [List.getElem?_map] at h ⊢
    cases q : ds[i]? with
    | none =>
      rw [q] at h
      cases h
    | some x =>
      rw [q] at h
      cases h
      obtain ⟨y, h1, h2⟩ := r.get q
      exact ⟨y, by rw [h1]; rfl, h2⟩
  · rw [List.getElem?_append_right (by simpa using l)] at h
    rw [List.getElem?_replicate] at h
    split at h <;> cases h
/-- a slot's data may be told otherwise, or not at all -/
theorem Sl.weak {env' : List (Option D)} (s : Sl K F σ env) (l : env'.length = env.length) (h : ∀ (i : Nat) (d : D), env'[i]? = some (some d) → env[i]? = some (some d)) : Sl K F σ env' :=
  ⟨by rw [s.len, l], fun i d e => s.at_ i d (h i d e)⟩
end
inductive OD where
  | lst (l : List D) | dct (l : List (Key × D)) | ins (C : Addr) (l : List (Str × D)) | dtp (l : List (List Key × D))
abbrev Ow := Addr → Option OD
def ou (ow : Ow) (a : Addr) (o : OD) : Ow := fun b => if b = a then some o else ow b
theorem ou_same {ow : Ow} {a : Addr} {o : OD} : ou ow a o a = some o := by unfold ou; rw [if_pos rfl]
theorem ou_ne {ow : Ow} {a b : Addr} {o : OD} (h : b ≠ a) : ou ow a o b = ow b := by unfold ou; rw [if_neg h]
theorem ou_ou {ow : Ow} {a : Addr} {o u : OD} : ou (ou ow a o) a u = ou ow a u := by
  funext b; unfold ou; split <;> rfl
def OdOk (K : PySem.W.Frag) (F H : Hp) (a : Addr) : OD → Prop
  | .lst l => ∃ xs, H a = some (.lst xs) ∧ Rps K F xs l
  | .dct l => ∃ kvs, H a = some (.dK kvs) ∧ Rpk K F kvs l
  | .ins C l => ∃ dx fs, H a = some (.ins C dx fs) ∧ Rpf K F fs l
  | .dtp l => ∃ kvs, H a = some (.dT kvs) ∧ Rpt K F kvs l
theorem OdOk.there {K : PySem.W.Frag} {F H : Hp} {a : Addr} : ∀ {o : OD}, OdOk K F H a o → ∃ u, H a = some u
  | .lst _, ⟨_, h, _⟩ => ⟨_, h⟩
  | .dct _, ⟨_, h, _⟩ => ⟨_, h⟩
  | .ins _ _, ⟨_, _, h, _⟩ => ⟨_, h⟩
  | .dtp _, ⟨_, h, _⟩ => ⟨_, h⟩
theorem OdOk.stay {K : PySem.W.Frag} {F F' H H' : Hp} {a : Addr} (e : Ex F F') (h : H' a = H a) : ∀ {o : OD}, OdOk K F H a o → OdOk K F' H' a o
  | .lst _, ⟨xs, q, r⟩ => ⟨xs, h.trans q, r.mono e⟩
  | .dct _, ⟨xs, q, r⟩ => ⟨xs, h.trans q, r.mono e⟩
  | .ins _ _, ⟨dx, xs, q, r⟩ => ⟨dx, xs, h.trans q, r.mono e⟩
  | .dtp _, ⟨xs, q, r⟩ => ⟨xs, h.trans q, r.mono e⟩
structure Wo (K : PySem.W.Frag) (ow : Ow) (F H : Hp) : Prop where
  ex : Ex F H
  own : ∀ a o, ow a = some o → F a = none ∧ OdOk K F H a o
section
variable {K : PySem.W.Frag} {ow : Ow} {F H : Hp} {p : Addr} {o : HO}
theorem Wo.free (w : Wo K ow F H) (h : H p = none) : F p = none := Evl.fresh_back w.ex h
theorem Wo.ofree (w : Wo K ow F H) (h : H p = none) : ow p = none := by
  cases q : ow p with
  | none => rfl
  | some u =>
    obtain ⟨_, z, e⟩ := (w.own p u q).imp id OdOk.there
    rw [h] at e
    cases e
/-- a new object, frozen -/
theorem Wo.new (w : Wo K ow F H) (h : H p = none) : Wo K ow (upd F p o) (upd H p o) := by
  refine ⟨fun a u e => ?_, fun a u e => ?_⟩
  · by_cases q : a = p
    · subst q
      rw [upd_same] at e ⊢
      exact e
    · rw [upd_ne q] at e ⊢
      exact w.ex a u e
  · obtain ⟨h1, h2⟩ := w.own a u e
    have q : a ≠ p := by
      obtain ⟨z, hz⟩ := h2.there
      exact ne_of_none hz h
    refine ⟨by rw [upd_ne q]; exact h1, h2.stay (Evl.Ex.new (w.free h)) (upd_ne q)⟩
theorem Wo.exnew (w : Wo K ow F H) (h : H p = none) : Ex F (upd F p o) := Evl.Ex.new (w.free h)
/-- a new object, untracked by both: the heap alone grows -/
theorem Wo.grow (w : Wo K ow F H) (h : H p = none) : Wo K ow F (upd H p o) := by
  refine ⟨fun a u e => ?_, fun a u e => ?_⟩
  · rw [upd_ne (ne_of_none (w.ex a u e) h)]
    exact w.ex a u e
  · obtain ⟨h1, h2⟩ := w.own a u e
    obtain ⟨z, hz⟩ := h2.there
    exact ⟨h1, h2.stay (Evl.Ex.refl F) (upd_ne (ne_of_none hz h))⟩
/-- a new list, owned -/
theorem Wo.newL {xs : List V} {l : List D} (w : Wo K ow F H) (h : H p = none) (r : Rps K F xs l) : Wo K (ou ow p (.lst l)) F (upd H p (.lst xs)) := by
  refine ⟨(w.grow h).ex, fun a u e => ?_⟩
  by_cases q : a = p
  · subst q
    rw [ou_same] at e
    cases e
    exact ⟨w.free h, xs, upd_same, r⟩
  · rw [ou_ne q] at e
    exact (w.grow h).own a u e
/-- an owned list is changed -/
theorem Wo.setL {xs : List V} {l l0 : List D} (w : Wo K ow F H) (h : ow p = some (.lst l0)) (r : Rps K F xs l) : Wo K (ou ow p (.lst l)) F (upd H p (.lst xs)) := by
  obtain ⟨n, _⟩ := w.own p _ h
  refine ⟨fun a u e => ?_, fun a u e => ?_⟩
  · rw [upd_ne (ne_of_none e n)]
    exact w.ex a u e
  · by_cases q : a = p
    · subst q
      rw [ou_same] at e
      cases e
      exact ⟨n, xs, upd_same, r⟩
    · rw [ou_ne q] at e
      obtain ⟨h1, h2⟩ := w.own a u e
      exact ⟨h1, h2.stay (Evl.Ex.refl F) (upd_ne q)⟩
/-- a new dict with tuples as keys, owned -/
theorem Wo.newT {kvs : List (List Key × V)} {l : List (List Key × D)} (w : Wo K ow F H) (h : H p = none) (r : Rpt K F kvs l) : Wo K (ou ow p (.dtp l)) F (upd H p (.dT kvs)) := by
  refine ⟨(w.grow h).ex, fun a u e => ?_⟩
  by_cases q : a = p
  · subst q
    rw [ou_same] at e
    cases e
    exact ⟨w.free h, kvs, upd_same, r⟩
  · rw [ou_ne q] at e
    exact (w.grow h).own a u e
theorem Wo.setT {kvs : List (List Key × V)} {l l0 : List (List Key × D)} (w : Wo K ow F H) (h : ow p = some (.dtp l0)) (r : Rpt K F kvs l) : Wo K (ou ow p (.dtp l)) F (upd H p (.dT kvs)) := by
  obtain ⟨n, _⟩ := w.own p _ h
  refine ⟨fun a u e => ?_, fun a u e => ?_⟩
  · rw [upd_ne (ne_of_none e n)]
    exact w.ex a u e
  · by_cases q : a = p
    · subst q
      rw [ou_same] at e
      cases e
      exact ⟨n, kvs, upd_same, r⟩
    · rw [ou_ne q] at e
      obtain ⟨h1, h2⟩ := w.own a u e
      exact ⟨h1, h2.stay (Evl.Ex.refl F) (upd_ne q)⟩
theorem Wo.setI {C dx : Addr} {fs fs0 : List (Str × V)} {l l0 : List (Str × D)} (w : Wo K ow F H) (h : ow p = some (.ins C l0)) (r : Rpf K F fs l) : Wo K (ou ow p (.ins C l)) F (upd H p (.ins C dx fs)) := by
  obtain ⟨n, _⟩ := w.own p _ h
  refine ⟨fun a u e => ?_, fun a u e => ?_⟩
  · rw [upd_ne (ne_of_none e n)]
    exact w.ex a u e
  · by_cases q : a = p
    · subst q
      rw [ou_same] at e
      cases e
      exact ⟨n, dx, fs, upd_same, r⟩
    · rw [ou_ne q] at e
      obtain ⟨h1, h2⟩ := w.own a u e
      exact ⟨h1, h2.stay (Evl.Ex.refl F) (upd_ne q)⟩
/-- an owned thing is let freeze -/
theorem Wo.freeze {u : HO} (w : Wo K ow F H) (n : F p = none) (h : H p = some u) (hp : ow p = none) : Wo K ow (upd F p u) H := by
  refine ⟨fun a o e => ?_, fun a o e => ?_⟩
  · by_cases q : a = p
    · subst q
      rw [upd_same] at e
      cases e
      exact h
    · rw [upd_ne q] at e
      exact w.ex a o e
  · have q : a ≠ p := fun z => by
      subst z
      rw [hp] at e
      cases e
    obtain ⟨h1, h2⟩ := w.own a o e
    exact ⟨by rw [upd_ne q]; exact h1, h2.stay (Evl.Ex.new n) rfl⟩
theorem Wo.drop {ow' : Ow} (w : Wo K ow F H) (h : ∀ a o, ow' a = some o → ow a = some o) : Wo K ow' F H := ⟨w.ex, fun a o e => w.own a o (h a o e)⟩
end
end Vd
set_option Elab.async false
set_option linter.all false
set_option maxRecDepth 100000
set_option maxHeartbeats 4000000
namespace Vd
open PySem L2
def WpE (X : Cx) (e : Expr) : TE := fun σ H Q => ∀ pins s, Inv X pins σ H s → wpAny (model X.prog X.w) X.A (eval e X.env) (EP X pins σ Q) X.xe s
def WpT (X : Cx) (e : Expr) : TT := fun σ H Q => ∀ pins s, Inv X pins σ H s → wpAny (model X.prog X.w) X.A (isTrue e X.env (eval e X.env)) (TP X pins σ Q) X.xe s
def WpA (X : Cx) (es : List Expr) : TA := fun σ H Q => ∀ (pos : Pos) pins s, Inv X pins σ H s → wpAny (model X.prog X.w) X.A (spliced (backTo pos (starEach es X.env))) (AP X pins σ Q) X.xe s
def WpS (X : Cx) (ss : List Stmt) : TS := fun D σ H => ∀ pins s, Inv X pins σ H s → wpAny (model X.prog X.w) X.A (execs ss X.env) (SP X pins D) X.xe s
section
variable {X : Cx}
theorem pe_can {e : Expr} : PE X e (WpE X e) := ⟨fun pins s _ _ _ I h => h pins s I⟩
theorem pt_can {e : Expr} : PT X e (WpT X e) := ⟨fun pins s _ _ _ I h => h pins s I⟩
theorem pa_can {es : List Expr} : PA X es (WpA X es) := ⟨fun pos pins s _ _ _ I h => h pos pins s I⟩
theorem pss_can {ss : List Stmt} : PSs X ss (WpS X ss) := ⟨fun pins s _ _ _ I h => h pins s I⟩
theorem wpe {e : Expr} {t : TE} (p : PE X e t) {σ : L2.St} {H : Hp} {Q : VK} (h : t σ H Q) : WpE X e σ H Q := fun pins s I => p.run pins s σ H Q I h
theorem wpt {e : Expr} {t : TT} (p : PT X e t) {σ : L2.St} {H : Hp} {Q : Bool → Hp → Prop} (h : t σ H Q) : WpT X e σ H Q := fun pins s I => p.run pins s σ H Q I h
theorem wpa {es : List Expr} {t : TA} (p : PA X es t) {σ : L2.St} {H : Hp} {Q : List V → Hp → Prop} (h : t σ H Q) : WpA X es σ H Q := fun pos pins s I => p.run pos pins s σ H Q I h
theorem wps {ss : List Stmt} {t : TS} (p : PSs X ss t) {D : Ends} {σ : L2.St} {H : Hp} (h : t D σ H) : WpS X ss D σ H := fun pins s I => p.run pins s σ H D I h
end
def Post (K : PySem.W.Frag) (ow : Ow) (F : Hp) (d : D) (Q : VK) : Prop := ∀ F2 H2 v, Ex F F2 → Wo K ow F2 H2 → Rp K F2 v d → Q v H2
def PostB (K : PySem.W.Frag) (ow : Ow) (F : Hp) (b : Bool) (Q : Bool → Hp → Prop) : Prop := ∀ F2 H2, Ex F F2 → Wo K ow F2 H2 → Q b H2
def PostA (K : PySem.W.Frag) (ow : Ow) (F : Hp) (ds : List D) (Q : List V → Hp → Prop) : Prop := ∀ F2 H2 vs, Ex F F2 → Wo K ow F2 H2 → Rps K F2 vs ds → Q vs H2
theorem Post.ex {K : PySem.W.Frag} {ow : Ow} {F F' : Hp} {d : D} {Q : VK} (p : Post K ow F d Q) (e : Ex F F') : Post K ow F' d Q := fun F2 H2 v e2 w r => p F2 H2 v (e.trans e2) w r
/-- an expression comes to the data d; what is owned stays -/
structure Ve (X : Cx) (e : Expr) (env : List (Option D)) (ow : Ow) (d : D) : Prop where
  run : ∀ (σ : L2.St) (F H : Hp) (Q : VK), Sl X.K F σ env → Wo X.K ow F H → Post X.K ow F d Q → WpE X e σ H Q
instance (X : Cx) (e : Expr) (env : List (Option D)) (ow : Ow) (d : D) : CoeFun (Ve X e env ow d) (fun _ => ∀ (σ : L2.St) (F H : Hp) (Q : VK), Sl X.K F σ env → Wo X.K ow F H → Post X.K ow F d Q → WpE X e σ H Q) := ⟨fun h => h.run⟩
structure Vt (X : Cx) (e : Expr) (env : List (Option D)) (ow : Ow) (b : Bool) : Prop where
  run : ∀ (σ : L2.St) (F H : Hp) (Q : Bool → Hp → Prop), Sl X.K F σ env → Wo X.K ow F H → PostB X.K ow F b Q → WpT X e σ H Q
instance (X : Cx) (e : Expr) (env : List (Option D)) (ow : Ow) (b : Bool) : CoeFun (Vt X e env ow b) (fun _ => ∀ (σ : L2.St) (F H : Hp) (Q : Bool → Hp → Prop), Sl X.K F σ env → Wo X.K ow F H → PostB X.K ow F b Q → WpT X e σ H Q) := ⟨fun h => h.run⟩
structure Va (X : Cx) (es : List Expr) (env : List (Option D)) (ow : Ow) (ds : List D) : Prop where
  run : ∀ (σ : L2.St) (F H : Hp) (Q : List V → Hp → Prop), Sl X.K F σ env → Wo X.K ow F H → PostA X.K ow F ds Q → WpA X es σ H Q
instance (X : Cx) (es : List Expr) (env : List (Option D)) (ow : Ow) (ds : List D) : CoeFun (Va X es env ow ds) (fun _ => ∀ (σ : L2.St) (F H : Hp) (Q : List V → Hp → Prop), Sl X.K F σ env → Wo X.K ow F H → PostA X.K ow F ds Q → WpA X es σ H Q) := ⟨fun h => h.run⟩
/-- an expression that changes what is owned: P tells the data and what is owned behind it -/
structure Vm (X : Cx) (e : Expr) (env : List (Option D)) (ow : Ow) (P : D → Ow → Prop) : Prop where
  run : ∀ (σ : L2.St) (F H : Hp) (Q : VK), Sl X.K F σ env → Wo X.K ow F H → (∀ F2 H2 v d ow2, Ex F F2 → Wo X.K ow2 F2 H2 → Rp X.K F2 v d → P d ow2 → Q v H2) → WpE X e σ H Q
instance (X : Cx) (e : Expr) (env : List (Option D)) (ow : Ow) (P : D → Ow → Prop) : CoeFun (Vm X e env ow P) (fun _ => ∀ (σ : L2.St) (F H : Hp) (Q : VK), Sl X.K F σ env → Wo X.K ow F H → (∀ F2 H2 v d ow2, Ex F F2 → Wo X.K ow2 F2 H2 → Rp X.K F2 v d → P d ow2 → Q v H2) → WpE X e σ H Q) := ⟨fun h => h.run⟩
/-- a block: B the frozen part at the def's entry -/
structure Rn (X : Cx) (B : Hp) (ss : List Stmt) (Dn : Ends) (env : List (Option D)) (ow : Ow) : Prop where
  run : ∀ (σ : L2.St) (F H : Hp), Ex B F → Sl X.K F σ env → Wo X.K ow F H → WpS X ss Dn σ H
instance (X : Cx) (B : Hp) (ss : List Stmt) (Dn : Ends) (env : List (Option D)) (ow : Ow) : CoeFun (Rn X B ss Dn env ow) (fun _ => ∀ (σ : L2.St) (F H : Hp), Ex B F → Sl X.K F σ env → Wo X.K ow F H → WpS X ss Dn σ H) := ⟨fun h => h.run⟩
/-- two values, by an operation's reading -/
structure RD (K : PySem.W.Frag) (ow : Ow) (r : R2) (a b d : D) : Prop where
  run : ∀ (F H : Hp) (x y : V) (Q : VK), Wo K ow F H → Rp K F x a → Rp K F y b → Post K ow F d Q → r x y H Q
instance (K : PySem.W.Frag) (ow : Ow) (r : R2) (a b d : D) : CoeFun (RD K ow r a b d) (fun _ => ∀ (F H : Hp) (x y : V) (Q : VK), Wo K ow F H → Rp K F x a → Rp K F y b → Post K ow F d Q → r x y H Q) := ⟨fun h => h.run⟩
structure RU (K : PySem.W.Frag) (ow : Ow) (r : V → Hp → VK → Prop) (a d : D) : Prop where
  run : ∀ (F H : Hp) (x : V) (Q : VK), Wo K ow F H → Rp K F x a → Post K ow F d Q → r x H Q
instance (K : PySem.W.Frag) (ow : Ow) (r : V → Hp → VK → Prop) (a d : D) : CoeFun (RU K ow r a d) (fun _ => ∀ (F H : Hp) (x : V) (Q : VK), Wo K ow F H → Rp K F x a → Post K ow F d Q → r x H Q) := ⟨fun h => h.run⟩
structure RC (K : PySem.W.Frag) (ow : Ow) (r : List V → Hp → VK → Prop) (as : List D) (d : D) : Prop where
  run : ∀ (F H : Hp) (xs : List V) (Q : VK), Wo K ow F H → Rps K F xs as → Post K ow F d Q → r xs H Q
instance (K : PySem.W.Frag) (ow : Ow) (r : List V → Hp → VK → Prop) (as : List D) (d : D) : CoeFun (RC K ow r as d) (fun _ => ∀ (F H : Hp) (xs : List V) (Q : VK), Wo K ow F H → Rps K F xs as → Post K ow F d Q → r xs H Q) := ⟨fun h => h.run⟩
theorem Post.here {K : PySem.W.Frag} {ow : Ow} {F H : Hp} {d : D} {Q : VK} {v : V} (p : Post K ow F d Q) (w : Wo K ow F H) (r : Rp K F v d) : Q v H := p F H v (Evl.Ex.refl F) w r
/-- a new thing that is frozen at once -/
theorem Post.new {K : PySem.W.Frag} {ow : Ow} {F H : Hp} {d : D} {Q : VK} {p : Addr} {o : HO} (k : Post K ow F d Q) (w : Wo K ow F H) (hp : H p = none) (r : Rp K (upd F p o) (.ref p) d) : Q (.ref p) (upd H p o) := k _ _ _ (w.exnew hp) (w.new hp) r
section
variable {X : Cx} {env : List (Option D)} {ow : Ow} {a b c e : Expr} {es : List Expr} {d d1 d2 d3 : D} {ds : List D} {pos : Pos}
theorem ve_is (h : Ve X e env ow d) (q : d = d1) : Ve X e env ow d1 := q ▸ h
theorem ve_var {i : Nat} {x : Str} (he : env[i]? = some (some d)) (hN : X.N[i]? = some x) (hv : Vis X.env.scope x) (hd : (x == ("__debug__" : Str)) = false := by decide) (hc : (x == ("__classdict__" : Str)) = false := by decide) : Ve X (.Name x pos) env ow d := .mk fun σ F H Q s w k => by
  obtain ⟨v, h1, h2⟩ := s.at_ i d he
  exact wpe (pe_var hN hv hd hc) ⟨v, h1, k.here w h2⟩
theorem ve_int {i : Int} {j : Nat} : Ve X (.Constant (.int i) j pos) env ow (.int i) := .mk fun σ F H Q s w k => wpe pe_int (k.here w (.int i))
theorem ve_bl {b : Bool} {j : Nat} : Ve X (.Constant (.bool b) j pos) env ow (.bl b) := .mk fun σ F H Q s w k => wpe pe_bl (k.here w (.bl b))
theorem ve_non {j : Nat} : Ve X (.Constant .none j pos) env ow .non := .mk fun σ F H Q s w k => wpe pe_non (k.here w .non)
theorem ve_str {x : Str} {j : Nat} : Ve X (.Constant (.str x) j pos) env ow (.str x) := .mk fun σ F H Q s w k => wpe pe_str (k.here w (.str x))
/-- a constant of the module -/
theorem ve_glob {x : Str} {v : V} {u : Value} (hg : Gl X x) (hm : X.mg x = some u) (r : RelV v u) (hd : ∀ F, Rp X.K F v d) (hx : (x == ("__debug__" : Str)) = false := by decide) : Ve X (.Name x pos) env ow d := .mk fun σ F H Q s w k => wpe (pe_glob hg hm r hx) (k.here w (hd F))
theorem ve_op {op : Operator} {r : R2} (ho : OpR X (binaryOp op) r) (ha : Ve X a env ow d1) (hb : Ve X b env ow d2) (hr : RD X.K ow r d1 d2 d) : Ve X (.BinOp a op b pos) env ow d := .mk fun σ F H Q s w k =>
  wpe (pe_op ho pe_can pe_can) (ha σ F H _ s w fun F1 H1 x e1 w1 r1 => hb σ F1 H1 _ (s.mono e1) w1 fun F2 H2 y e2 w2 r2 => hr F2 H2 x y Q w2 (r1.mono e2) r2 (k.ex (e1.trans e2)))
theorem ve_un {op : UnaryOp} {r : V → Hp → VK → Prop} (ho : UnR X (unaryOp op) r) (ha : Ve X a env ow d1) (hr : RU X.K ow r d1 d) : Ve X (.UnaryOp op a pos) env ow d := .mk fun σ F H Q s w k =>
  wpe (pe_un ho pe_can) (ha σ F H _ s w fun F1 H1 x e1 w1 r1 => hr F1 H1 x Q w1 r1 (k.ex e1))
theorem ve_cmp {op : CmpOp} {r : R2} (ho : OpR X (compareOp op) r) (hm : behindInMarks op b = false) (ha : Ve X a env ow d1) (hb : Ve X b env ow d2) (hr : RD X.K ow r d1 d2 d) : Ve X (.Compare a [op] [b] pos) env ow d := .mk fun σ F H Q s w k =>
  wpe (pe_cmpR ho pe_can pe_can hm) (ha σ F H _ s w fun F1 H1 x e1 w1 r1 => hb σ F1 H1 _ (s.mono e1) w1 fun F2 H2 y e2 w2 r2 => hr F2 H2 x y Q w2 (r1.mono e2) r2 (k.ex (e1.trans e2)))
theorem ve_if {t : Bool} (hc : Vt X c env ow t) (h1 : t = true → Ve X a env ow d) (h2 : t = false → Ve X b env ow d) : Ve X (.IfExp c a b pos) env ow d := .mk fun σ F H Q s w k =>
  wpe (pe_ifExp pt_can pe_can pe_can) (hc σ F H _ s w fun F1 H1 e1 w1 => by
    cases t with
    | true =>
      show (if true = true then WpE X a σ H1 Q else WpE X b σ H1 Q)
      rw [if_pos rfl]
      exact h1 rfl σ F1 H1 Q (s.mono e1) w1 (k.ex e1)
    | false =>
      show (if false = true then WpE X a σ H1 Q else WpE X b σ H1 Q)
      rw [if_neg Bool.false_ne_true]
      exact h2 rfl σ F1 H1 Q (s.mono e1) w1 (k.ex e1))
theorem va_nil : Va X [] env ow [] := .mk fun σ F H Q s w k => wpa pa_nil (k F H [] (Evl.Ex.refl F) w .nil)
theorem va_cons (h : Ve X e env ow d) (hs : Va X es env ow ds) (hst : starEach (e :: es) X.env = (false, eval e X.env) :: starEach es X.env := by rfl) : Va X (e :: es) env ow (d :: ds) := .mk fun σ F H Q s w k =>
  wpa (pa_cons pe_can pa_can hst) (h σ F H _ s w fun F1 H1 x e1 w1 r1 => hs σ F1 H1 _ (s.mono e1) w1 fun F2 H2 xs e2 w2 r2 => k F2 H2 _ (e1.trans e2) w2 (.cons (r1.mono e2) r2))
theorem ve_lst (h : Va X es env ow ds) (hl : ds.length ≤ 100000) : Ve X (.List es pos) env ow (.lst ds) := .mk fun σ F H Q s w k =>
  wpe (pe_lst pa_can) (h σ F H _ s w fun F1 H1 xs e1 w1 r1 => ⟨Evl.sz_of (by rw [r1.length]; exact hl), fun p hp => (k.ex e1).new w1 hp (.lst upd_same (r1.mono (w1.exnew hp)))⟩)
theorem ve_tup {k0 : Nat} (h : Va X es env ow ds) (hl : ds.length ≤ 100000) : Ve X (.Tuple es k0 pos) env ow (.tup ds) := .mk fun σ F H Q s w k =>
  wpe (pe_tup pa_can) (h σ F H _ s w fun F1 H1 xs e1 w1 r1 => ⟨Evl.sz_of (by rw [r1.length]; exact hl), fun p hp => (k.ex e1).new w1 hp (.tup (SqT.of upd_same) (r1.mono (w1.exnew hp)))⟩)
theorem ve_cb {r : List V → Hp → VK → Prop} {id : String} {x : Str} {p : Pos} (hc : CallR X (.builtin id) r) (hg : Gl X x) (hm : X.mg x = none) (hv : bootBuiltins x = some (.builtin id)) (ha : Va X (e :: es) env ow ds) (hr : RC X.K ow r ds d) (hn : x ≠ "__name__" := by decide) (hdb : (x == ("__debug__" : Str)) = false := by decide)
    (he : starEach (e :: es) X.env = (false, eval e X.env) :: starEach es X.env := by rfl) (hpl : (backTo pos (starEach es X.env)).any (·.1) = false := by rfl) : Ve X (.Call (.Name x p) (e :: es) [] pos) env ow d := .mk fun σ F H Q s w k =>
  wpe (pe_callB hc hg hm hv pa_can hn hdb he hpl) (ha σ F H _ s w fun F1 H1 xs e1 w1 r1 => hr F1 H1 xs Q w1 r1 (k.ex e1))
theorem ve_ct {r : List V → Hp → VK → Prop} {id : String} {x : Str} {p : Pos} (hc : CallR X (.type id) r) (hg : Gl X x) (hm : X.mg x = none) (hv : bootBuiltins x = some (.type id)) (ha : Va X (e :: es) env ow ds) (hr : RC X.K ow r ds d) (hn : x ≠ "__name__" := by decide) (hdb : (x == ("__debug__" : Str)) = false := by decide)
    (he : starEach (e :: es) X.env = (false, eval e X.env) :: starEach es X.env := by rfl) (hpl : (backTo pos (starEach es X.env)).any (·.1) = false := by rfl) : Ve X (.Call (.Name x p) (e :: es) [] pos) env ow d := .mk fun σ F H Q s w k =>
  wpe (pe_callTy hc hg hm hv pa_can hn hdb he hpl) (ha σ F H _ s w fun F1 H1 xs e1 w1 r1 => hr F1 H1 xs Q w1 r1 (k.ex e1))
theorem ve_ix {r : R2} (hr0 : IxR X r) (hs : PlainIx b) (ha : Ve X a env ow d1) (hb : Ve X b env ow d2) (hr : RD X.K ow r d1 d2 d) : Ve X (.Subscript a b pos) env ow d := .mk fun σ F H Q s w k =>
  wpe (pe_ix hr0 pe_can pe_can hs) (ha σ F H _ s w fun F1 H1 x e1 w1 r1 => hb σ F1 H1 _ (s.mono e1) w1 fun F2 H2 y e2 w2 r2 => hr F2 H2 x y Q w2 (r1.mono e2) r2 (k.ex (e1.trans e2)))
theorem vt_val {t : Bool} (h : Ve X e env ow (.bl t)) (he : ∀ whole, isTrue e X.env whole = (do let v ← whole; standAt e.pos; holding [v] (truthy v)) := by intro _; rfl) : Vt X e env ow t := .mk fun σ F H Q s w k =>
  wpt (pt_val pe_can he) (h σ F H _ s w fun F1 H1 x e1 w1 r1 => by
    cases r1
    exact ⟨t, rfl, k F1 H1 e1 w1⟩)
theorem vt_cmp {op : CmpOp} {r : R2} {t : Bool} (ho : OpR X (compareOp op) r) (hm : behindInMarks op b = false) (ha : Ve X a env ow d1) (hb : Ve X b env ow d2) (hr : RD X.K ow r d1 d2 (.bl t)) : Vt X (.Compare a [op] [b] pos) env ow t := .mk fun σ F H Q s w k =>
  wpt (pt_cmpR ho pe_can pe_can hm) (ha σ F H _ s w fun F1 H1 x e1 w1 r1 => hb σ F1 H1 _ (s.mono e1) w1 fun F2 H2 y e2 w2 r2 => hr F2 H2 x y _ w2 (r1.mono e2) r2 fun F3 H3 v e3 w3 r3 => by
    cases r3
    exact ⟨t, rfl, k F3 H3 ((e1.trans e2).trans e3) w3⟩)
theorem vt_not {t : Bool} (h : Vt X e env ow t) : Vt X (.UnaryOp .Not e pos) env ow (!t) := .mk fun σ F H Q s w k =>
  wpt (pt_not pt_can) (h σ F H _ s w fun F1 H1 e1 w1 => k F1 H1 e1 w1)
theorem vt_is {t u : Bool} (h : Vt X e env ow t) (q : t = u) : Vt X e env ow u := q ▸ h
/-- a and b and .., a or b or ..: the test's own form -/
def Vw (X : Cx) (e : Expr) (env : List (Option D)) (ow : Ow) (b : Bool) : Prop := ∃ t, PW X e t ∧ ∀ (σ : L2.St) (F H : Hp) (Q : Bool → Hp → Prop), Sl X.K F σ env → Wo X.K ow F H → PostB X.K ow F b Q → t σ H Q
theorem vt_w {t : Bool} (h : Vw X e env ow t) : Vt X e env ow t := .mk fun σ F H Q s w k => by
  obtain ⟨u, p, q⟩ := h
  exact wpt p.pt (q σ F H Q s w k)
theorem vw_and1 {t : Bool} (h : Vt X a env ow t) : Vw X (.BoolOp .And [a] pos) env ow t := ⟨_, pw_and1 pt_can, h⟩
theorem vw_or1 {t : Bool} (h : Vt X a env ow t) : Vw X (.BoolOp .Or [a] pos) env ow t := ⟨_, pw_or1 pt_can, h⟩
theorem vw_and {t u : Bool} (h : Vt X a env ow t) (h2 : t = true → Vw X (.BoolOp .And (b :: es) pos) env ow u) (pw : ∃ tt, PW X (.BoolOp .And (b :: es) pos) tt) : Vw X (.BoolOp .And (a :: b :: es) pos) env ow (t && u) := by
  cases t with
  | true =>
    obtain ⟨tt, p, q⟩ := h2 rfl
    refine ⟨_, pw_and pt_can p, fun σ F H Q s w k => h σ F H _ s w fun F1 H1 e1 w1 => ?_⟩
    show (if true = true then tt σ H1 Q else Q false H1)
    rw [if_pos rfl]
    exact q σ F1 H1 Q (s.mono e1) w1 fun F2 H2 e2 w2 => k F2 H2 (e1.trans e2) w2
  | false =>
    obtain ⟨tt, p⟩ := pw
    refine ⟨_, pw_and pt_can p, fun σ F H Q s w k => h σ F H _ s w fun F1 H1 e1 w1 => ?_⟩
    show (if false = true then tt σ H1 Q else Q false H1)
    rw [if_neg Bool.false_ne_true]
    exact k F1 H1 e1 w1
theorem vw_or {t u : Bool} (h : Vt X a env ow t) (h2 : t = false → Vw X (.BoolOp .Or (b :: es) pos) env ow u) (pw : ∃ tt, PW X (.BoolOp .Or (b :: es) pos) tt) : Vw X (.BoolOp .Or (a :: b :: es) pos) env ow (t || u) := by
  cases t with
  | false =>
    obtain ⟨tt, p, q⟩ := h2 rfl
    refine ⟨_, pw_or pt_can p, fun σ F H Q s w k => h σ F H _ s w fun F1 H1 e1 w1 => ?_⟩
    show (if false = true then Q true H1 else tt σ H1 Q)
    rw [if_neg Bool.false_ne_true]
    exact q σ F1 H1 Q (s.mono e1) w1 fun F2 H2 e2 w2 => k F2 H2 (e1.trans e2) w2
  | true =>
    obtain ⟨tt, p⟩ := pw
    refine ⟨_, pw_or pt_can p, fun σ F H Q s w k => h σ F H _ s w fun F1 H1 e1 w1 => ?_⟩
    show (if true = true then Q true H1 else tt σ H1 Q)
    rw [if_pos rfl]
    exact k F1 H1 e1 w1
theorem pw_all_and : ∀ (es : List Expr) (a : Expr), ∃ tt, PW X (.BoolOp .And (a :: es) pos) tt
  | [], a => ⟨_, pw_and1 pt_can⟩
  | b :: es, a => by
    obtain ⟨tt, p⟩ := pw_all_and es b
    exact ⟨_, pw_and pt_can p⟩
theorem pw_all_or : ∀ (es : List Expr) (a : Expr), ∃ tt, PW X (.BoolOp .Or (a :: es) pos) tt
  | [], a => ⟨_, pw_or1 pt_can⟩
  | b :: es, a => by
    obtain ⟨tt, p⟩ := pw_all_or es b
    exact ⟨_, pw_or pt_can p⟩
theorem ve_and1 (h : Ve X a env ow d) : Ve X (.BoolOp .And [a] pos) env ow d := .mk fun σ F H Q s w k => wpe (pe_one pe_can) (h σ F H Q s w k)
theorem ve_or1 (h : Ve X a env ow d) : Ve X (.BoolOp .Or [a] pos) env ow d := .mk fun σ F H Q s w k => wpe (pe_one pe_can) (h σ F H Q s w k)
theorem ve_and {t u : Bool} (h : Ve X a env ow (.bl t)) (h2 : t = true → Ve X (.BoolOp .And (b :: es) pos) env ow (.bl u)) : Ve X (.BoolOp .And (a :: b :: es) pos) env ow (.bl (t && u)) := .mk fun σ F H Q s w k =>
  wpe (pe_and pe_can pe_can) (h σ F H _ s w fun F1 H1 x e1 w1 r1 => by
    cases r1
    refine ⟨t, rfl, ?_⟩
    cases t with
    | true =>
      rw [if_pos rfl]
      exact h2 rfl σ F1 H1 Q (s.mono e1) w1 (k.ex e1)
    | false =>
      rw [if_neg Bool.false_ne_true]
      exact (k.ex e1).here w1 (.bl false))
theorem ve_or {t u : Bool} (h : Ve X a env ow (.bl t)) (h2 : t = false → Ve X (.BoolOp .Or (b :: es) pos) env ow (.bl u)) : Ve X (.BoolOp .Or (a :: b :: es) pos) env ow (.bl (t || u)) := .mk fun σ F H Q s w k =>
  wpe (pe_or pe_can pe_can) (h σ F H _ s w fun F1 H1 x e1 w1 r1 => by
    cases r1
    refine ⟨t, rfl, ?_⟩
    cases t with
    | false =>
      rw [if_neg Bool.false_ne_true]
      exact h2 rfl σ F1 H1 Q (s.mono e1) w1 (k.ex e1)
    | true =>
      rw [if_pos rfl]
      exact (k.ex e1).here w1 (.bl true))
theorem ve_not {t : Bool} (h : Ve X a env ow (.bl t)) : Ve X (.UnaryOp .Not a pos) env ow (.bl (!t)) := .mk fun σ F H Q s w k =>
  wpe (pe_not pe_can) (h σ F H _ s w fun F1 H1 x e1 w1 r1 => by
    cases r1
    exact ⟨t, rfl, (k.ex e1).here w1 (.bl _)⟩)
end
section
variable {K : PySem.W.Frag} {ow : Ow}
theorem rd_I {g : Int → Int → V} {f : Int → Int → D} {i j : Int} (h : ∀ F, Rp K F (g i j) (f i j)) : RD K ow (rI0 g) (.int i) (.int j) (f i j) := .mk fun F H x y Q w r1 r2 k => by
  cases r1
  cases r2
  exact ⟨i, j, rfl, rfl, k.here w (h F)⟩
theorem rd_IC {C : Int → Int → Prop} {g : Int → Int → V} {f : Int → Int → D} {i j : Int} (hc : C i j) (h : ∀ F, Rp K F (g i j) (f i j)) : RD K ow (rI C g) (.int i) (.int j) (f i j) := .mk fun F H x y Q w r1 r2 k => by
  cases r1
  cases r2
  exact ⟨i, j, rfl, rfl, hc, k.here w (h F)⟩
theorem rd_add {i j : Int} : RD K ow (rI0 fun i j => .int (i + j)) (.int i) (.int j) (.int (i + j)) := rd_I (f := fun i j => .int (i + j)) fun _ => .int _
theorem rd_sub {i j : Int} : RD K ow (rI0 fun i j => .int (i - j)) (.int i) (.int j) (.int (i - j)) := rd_I (f := fun i j => .int (i - j)) fun _ => .int _
theorem rd_mulL {i j : Int} (h : -(2 ^ 64) < i ∧ i < 2 ^ 64) : RD K ow (rI CMul fun i j => .int (i * j)) (.int i) (.int j) (.int (i * j)) := rd_IC (f := fun i j => .int (i * j)) (.inl h) fun _ => .int _
theorem rd_mulR {i j : Int} (h : -(2 ^ 64) < j ∧ j < 2 ^ 64) : RD K ow (rI CMul fun i j => .int (i * j)) (.int i) (.int j) (.int (i * j)) := rd_IC (f := fun i j => .int (i * j)) (.inr h) fun _ => .int _
theorem rd_div {i j : Int} (h : CDiv i j) : RD K ow (rI CDiv fun i j => .int (i / j)) (.int i) (.int j) (.int (i / j)) := rd_IC (f := fun i j => .int (i / j)) h fun _ => .int _
theorem rd_mod {i j : Int} (h : 0 < j) : RD K ow (rI (fun _ j => 0 < j) fun i j => .int (i % j)) (.int i) (.int j) (.int (i % j)) := rd_IC (f := fun i j => .int (i % j)) h fun _ => .int _
theorem rd_pow {i j : Int} (h : CPow i j) : RD K ow (rI CPow fun i j => .int (i ^ j.toNat)) (.int i) (.int j) (.int (i ^ j.toNat)) := rd_IC (f := fun i j => .int (i ^ j.toNat)) h fun _ => .int _
theorem rd_lt {i j : Int} : RD K ow (rI0 fun i j => .bl (decide (i < j))) (.int i) (.int j) (.bl (decide (i < j))) := rd_I (f := fun i j => .bl (decide (i < j))) fun _ => .bl _
theorem rd_le {i j : Int} : RD K ow (rI0 fun i j => .bl (decide (i ≤ j))) (.int i) (.int j) (.bl (decide (i ≤ j))) := rd_I (f := fun i j => .bl (decide (i ≤ j))) fun _ => .bl _
theorem rd_gt {i j : Int} : RD K ow (rI0 fun i j => .bl (decide (j < i))) (.int i) (.int j) (.bl (decide (j < i))) := rd_I (f := fun i j => .bl (decide (j < i))) fun _ => .bl _
theorem rd_ge {i j : Int} : RD K ow (rI0 fun i j => .bl (decide (j ≤ i))) (.int i) (.int j) (.bl (decide (j ≤ i))) := rd_I (f := fun i j => .bl (decide (j ≤ i))) fun _ => .bl _
theorem rd_eqI {i j : Int} : RD K ow rEq (.int i) (.int j) (.bl (decide (i = j))) := .mk fun F H x y Q w r1 r2 k => by
  cases r1
  cases r2
  exact ⟨rfl, by have z := k.here w (.bl (decide (i = j))); simpa using z⟩
theorem rd_neI {i j : Int} : RD K ow rNe (.int i) (.int j) (.bl (!decide (i = j))) := .mk fun F H x y Q w r1 r2 k => by
  cases r1
  cases r2
  exact ⟨rfl, by have z := k.here w (.bl (!decide (i = j))); simpa using z⟩
theorem rd_eqS {i j : Str} : RD K ow rEq (.str i) (.str j) (.bl (decide (i = j))) := .mk fun F H x y Q w r1 r2 k => by
  cases r1
  cases r2
  exact ⟨rfl, by have z := k.here w (.bl (decide (i = j))); simpa using z⟩
theorem rd_neS {i j : Str} : RD K ow rNe (.str i) (.str j) (.bl (!decide (i = j))) := .mk fun F H x y Q w r1 r2 k => by
  cases r1
  cases r2
  exact ⟨rfl, by have z := k.here w (.bl (!decide (i = j))); simpa using z⟩
theorem rd_cat {l m : List D} (h : l.length + m.length ≤ 100000) : RD K ow rCat (.lst l) (.lst m) (.lst (l ++ m)) := .mk fun F H x y Q w r1 r2 k => by
  cases r1 with
  | lst h1 s1 =>
    cases r2 with
    | lst h2 s2 => exact ⟨_, _, _, _, rfl, rfl, w.ex _ _ h1, w.ex _ _ h2, Evl.sz_of (by rw [s1.length, s2.length]; exact h), fun p hp => k.new w hp (.lst upd_same ((s1.append s2).mono (w.exnew hp)))⟩
end
end Vd
set_option Elab.async false
set_option linter.all false
set_option maxRecDepth 100000
set_option maxHeartbeats 4000000
namespace Vd
open PySem L2
/-- J yields the data ds, one by one, over what F1 freezes -/
def Src (K : PySem.W.Frag) (J : It) (F1 : Hp) (ds : List D) : Prop := ∀ (F H : Hp) (ow : Ow) (i : Nat), Ex F1 F → Wo K ow F H → (ds.length ≤ i → J.stop i H) ∧ ∀ d, ds[i]? = some d → J.go i H ∧ ∀ x H', J.yld i H x H' → ∃ F', Ex F F' ∧ Wo K ow F' H' ∧ Rp K F' x d
structure Vi (X : Cx) (tg it : Expr) (env : List (Option D)) (ow : Ow) (ds : List D) : Prop where
  ex : ∃ wi, PI X tg it wi ∧ ∀ (σ : L2.St) (F H : Hp) (R : It → Hp → Prop), Sl X.K F σ env → Wo X.K ow F H → (∀ J F1 H1, Ex F F1 → Wo X.K ow F1 H1 → Src X.K J F1 ds → R J H1) → wi σ H R
section
variable {X : Cx} {env : List (Option D)} {ow : Ow} {a b c e tg it : Expr} {es : List Expr} {d d1 d2 d3 : D} {ds : List D} {pos : Pos}
theorem src_list {K : PySem.W.Frag} {F1 : Hp} {a : Addr} {xs : List V} (h : F1 a = some (.lst xs)) (r : Rps K F1 xs ds) : Src K (Itl K a) F1 ds := fun F H ow i e w => by
  have hq : SqL K H a xs := SqL.of (w.ex _ _ (e _ _ h))
  refine ⟨fun hl => ⟨xs, hq, by rw [r.length]; exact hl⟩, fun d hd => ?_⟩
  obtain ⟨y, h1, h2⟩ := r.get hd
  refine ⟨⟨xs, y, hq, h1⟩, fun x H' hy => ?_⟩
  obtain ⟨rfl, hy⟩ := hy
  have z := hy xs hq
  rw [h1] at z
  cases z
  exact ⟨F, Evl.Ex.refl F, w, h2.mono e⟩
theorem src_tup {K : PySem.W.Frag} {F1 : Hp} {a : Addr} {xs : List V} (h : SqT K F1 a xs) (r : Rps K F1 xs ds) : Src K (Itt K a) F1 ds := fun F H ow i e w => by
  have hq : SqT K H a xs := Evl.ex_t w.ex (Evl.ex_t e h)
  refine ⟨fun hl => ⟨xs, hq, by rw [r.length]; exact hl⟩, fun d hd => ?_⟩
  obtain ⟨y, h1, h2⟩ := r.get hd
  refine ⟨⟨xs, y, hq, h1⟩, fun x H' hy => ?_⟩
  obtain ⟨rfl, hy⟩ := hy
  have z := hy xs hq
  rw [h1] at z
  cases z
  exact ⟨F, Evl.Ex.refl F, w, h2.mono e⟩
theorem vi_list (h : Ve X it env ow (.lst ds)) : Vi X tg it env ow ds := ⟨_, pi_list pe_can, fun σ F H R s w k => h σ F H _ s w fun F1 H1 v e1 w1 r1 => by
  cases r1 with
  | lst h1 s1 => exact ⟨_, rfl, ⟨_, SqL.of (w1.ex _ _ h1)⟩, k _ F1 H1 e1 w1 (src_list h1 s1)⟩⟩
theorem vi_tup (h : Ve X it env ow (.tup ds)) : Vi X tg it env ow ds := ⟨_, pi_tup pe_can, fun σ F H R s w k => h σ F H _ s w fun F1 H1 v e1 w1 r1 => by
  cases r1 with
  | tup h1 s1 => exact ⟨_, rfl, ⟨_, Evl.ex_t w1.ex h1⟩, k _ F1 H1 e1 w1 (src_tup h1 s1)⟩⟩
def rangeD (lo : Int) (n : Nat) : List D := (List.range n).map fun i => .int (lo + (i : Nat))
theorem rangeD_len (lo : Int) (n : Nat) : (rangeD lo n).length = n := by simp [rangeD]
theorem rangeD_get {lo : Int} {n i : Nat} {d : D} (h : (rangeD lo n)[i]? = some d) : i < n ∧ d = .int (lo + (i : Nat)) := by
  unfold rangeD at h
  rw [List.getElem?_map] at h
  by_cases q : i < n
  · rw [List.getElem?_range q] at h
    cases h
    exact ⟨q, rfl⟩
  · rw [List.getElem?_eq_none (by simpa using q)] at h
    cases h
theorem src_range {K : PySem.W.Frag} {F1 : Hp} {lo : Int} {n : Nat} : Src K (Itr lo n) F1 (rangeD lo n) := fun F H ow i e w => by
  refine ⟨fun hl => by rw [rangeD_len] at hl; exact hl, fun d hd => ?_⟩
  obtain ⟨hi, rfl⟩ := rangeD_get hd
  refine ⟨hi, fun x H' hy => ?_⟩
  obtain ⟨rfl, rfl⟩ := hy
  exact ⟨F, Evl.Ex.refl F, w, .int _⟩
theorem vi_range1 {p : Pos} {n : Int} (hg : Gl X "range") (hm : X.mg "range" = none) (h : Ve X a env ow (.int n)) (hn : -(2 ^ 62) ≤ n ∧ n < 2 ^ 62) (hs : starEach [a] X.env = [(false, eval a X.env)] := by rfl) : Vi X tg (.Call (.Name "range" p) [a] [] pos) env ow (rangeD 0 n.toNat) :=
  ⟨_, pi_range1 hg hm (pa_can) hs, fun σ F H R s w k => va_cons h va_nil hs σ F H _ s w fun F1 H1 vs e1 w1 r1 => by
    cases r1 with
    | cons r2 r3 =>
      cases r2
      cases r3
      exact ⟨n, rfl, hn.1, hn.2, k _ F1 H1 e1 w1 src_range⟩⟩
theorem vi_range2 {p : Pos} {m n : Int} (hg : Gl X "range") (hm : X.mg "range" = none) (h : Ve X a env ow (.int m)) (h2 : Ve X b env ow (.int n)) (hn : -(2 ^ 62) ≤ m ∧ m < 2 ^ 62 ∧ -(2 ^ 62) ≤ n ∧ n < 2 ^ 62) (hs : starEach [a, b] X.env = [(false, eval a X.env), (false, eval b X.env)] := by rfl)
    (hs2 : starEach [b] X.env = [(false, eval b X.env)] := by rfl) : Vi X tg (.Call (.Name "range" p) [a, b] [] pos) env ow (rangeD m (n - m).toNat) :=
  ⟨_, pi_range2 hg hm (pa_can) hs hs2, fun σ F H R s w k => va_cons h (va_cons h2 va_nil hs2) (by rw [hs, hs2]) σ F H _ s w fun F1 H1 vs e1 w1 r1 => by
    cases r1 with
    | cons r2 r3 =>
      cases r2
      cases r3 with
      | cons r4 r5 =>
        cases r4
        cases r5
        exact ⟨m, n, rfl, hn, k _ F1 H1 e1 w1 src_range⟩⟩
def enumD : Nat → List D → List D
  | _, [] => []
  | n, d :: ds => .tup [.int (n : Nat), d] :: enumD (n + 1) ds
theorem enumD_len : ∀ (n : Nat) (ds : List D), (enumD n ds).length = ds.length
  | _, [] => rfl
  | n, d :: ds => by simp [enumD, enumD_len (n + 1) ds]
theorem enumD_get : ∀ {n i : Nat} {ds : List D} {x : D}, (enumD n ds)[i]? = some x → ∃ d, ds[i]? = some d ∧ x = .tup [.int ((n + i : Nat)), d]
  | _, _, [], _, h => by simp [enumD] at h
  | n, 0, d :: ds, x, h => by
    simp [enumD] at h
    exact ⟨d, rfl, by rw [← h]; rfl⟩
  | n, i + 1, d :: ds, x, h => by
    simp only [enumD, List.getElem?_cons_succ] at h
    obtain ⟨y, h1, h2⟩ := enumD_get h
    refine ⟨y, by simpa using h1, ?_⟩
    rw [h2]
    have z : n + 1 + i = n + (i + 1) := by omega
    rw [z]
theorem src_enum {K : PySem.W.Frag} {F1 : Hp} {a : Addr} {xs : List V} (h : F1 a = some (.lst xs)) (r : Rps K F1 xs ds) : Src K (Ite K a) F1 (enumD 0 ds) := fun F H ow i e w => by
  have hq : SqL K H a xs := SqL.of (w.ex _ _ (e _ _ h))
  refine ⟨fun hl => ⟨xs, hq, by rw [enumD_len] at hl; rw [r.length]; exact hl⟩, fun d hd => ?_⟩
  obtain ⟨d', hd', rfl⟩ := enumD_get hd
  obtain ⟨y, h1, h2⟩ := r.get hd'
  refine ⟨⟨xs, y, hq, h1⟩, fun v H' hy => ?_⟩
  obtain ⟨T, x, rfl, hT, rfl, hy⟩ := hy
  have z := hy xs hq
  rw [h1] at z
  cases z
  refine ⟨_, w.exnew hT, w.new hT, .tup (SqT.of upd_same) (.cons ?_ (.cons ((h2.mono e).mono (w.exnew hT)) .nil))⟩
  rw [Nat.zero_add]
  exact .int _
theorem vi_enum {p tpos : Pos} {elts : List Expr} {kk : Nat} (hg : Gl X "enumerate") (hm : X.mg "enumerate" = none) (h : Ve X a env ow (.lst ds)) (hs : starEach [a] X.env = [(false, eval a X.env)] := by rfl) : Vi X (.Tuple elts kk tpos) (.Call (.Name "enumerate" p) [a] [] pos) env ow (enumD 0 ds) :=
  ⟨_, pi_enum hg hm pa_can hs, fun σ F H R s w k => va_cons h va_nil hs σ F H _ s w fun F1 H1 vs e1 w1 r1 => by
    cases r1 with
    | cons r2 r3 =>
      cases r3
      cases r2 with
      | lst h1 s1 => exact ⟨_, _, rfl, SqL.of (w1.ex _ _ h1), k _ F1 H1 e1 w1 (src_enum h1 s1)⟩⟩
end
def Gd (K : PySem.W.Frag) (ow : Ow) (g : TG) (d : D) (f : List (Option D) → List (Option D)) : Prop := ∀ (env : List (Option D)) (σ : L2.St) (F H : Hp) (x : V) (Q : L2.St → Hp → Prop), Sl K F σ env → Wo K ow F H → Rp K F x d → (∀ σ2, Sl K F σ2 (f env) → Q σ2 H) → g x σ H Q
theorem gd_name {K : PySem.W.Frag} {ow : Ow} {d : D} (i : Nat) : Gd K ow (gName i) d fun env => env.set i (some d) := fun env σ F H x Q s w r k => k _ (s.set r i)
theorem gd_two {K : PySem.W.Frag} {ow : Ow} {d1 d2 : D} (i j : Nat) : Gd K ow (gTup K 2 (gCons (gName i) (gCons (gName j) gNil))) (.tup [d1, d2]) fun env => (env.set i (some d1)).set j (some d2) := fun env σ F H x Q s w r k => by
  cases r with
  | tup h1 s1 =>
    cases s1 with
    | cons r1 s2 =>
      cases s2 with
      | cons r2 s3 =>
        cases s3
        exact ⟨_, _, rfl, Evl.ex_t w.ex h1, rfl, _, _, rfl, _, _, rfl, rfl, k _ ((s.set r1 i).set r2 j)⟩
theorem gd_three {K : PySem.W.Frag} {ow : Ow} {d1 d2 d3 : D} (i j l : Nat) : Gd K ow (gTup K 3 (gCons (gName i) (gCons (gName j) (gCons (gName l) gNil)))) (.tup [d1, d2, d3]) fun env => ((env.set i (some d1)).set j (some d2)).set l (some d3) := fun env σ F H x Q s w r k => by
  cases r with
  | tup h1 s1 =>
    cases s1 with
    | cons r1 s2 =>
      cases s2 with
      | cons r2 s3 =>
        cases s3 with
        | cons r3 s4 =>
          cases s4
          exact ⟨_, _, rfl, Evl.ex_t w.ex h1, rfl, _, _, rfl, _, _, rfl, _, _, rfl, rfl, k _ (((s.set r1 i).set r2 j).set r3 l)⟩
section
variable {X : Cx} {B : Hp} {env : List (Option D)} {ow : Ow} {a b c e tg it : Expr} {es : List Expr} {d d1 d2 d3 : D} {ds : List D} {pos : Pos} {Dn : Ends} {rest s1 s2 : List Stmt}
/-- the end of an inner block -/
theorem rn_end (h : ∀ (σ : L2.St) (F H : Hp), Ex B F → Sl X.K F σ env → Wo X.K ow F H → Dn.nx σ H) : Rn X B [] Dn env ow := .mk fun σ F H eB s w => wps pss_nil (h σ F H eB s w)
def Then (X : Cx) (rest : List Stmt) (Dn : Ends) : Ends := { Dn with nx := WpS X rest Dn }
theorem rn_go (h : Rn X B rest Dn env ow) : Rn X B [] (Then X rest Dn) env ow := rn_end fun σ F H eB s w => h σ F H eB s w
theorem rn_one {st : Stmt} (p : ∃ t, PS X st t ∧ ∀ (σ : L2.St) (F H : Hp), Ex B F → Sl X.K F σ env → Wo X.K ow F H → t { Dn with nx := WpS X rest Dn } σ H) : Rn X B (st :: rest) Dn env ow := .mk fun σ F H eB s w => by
  obtain ⟨t, h, q⟩ := p
  exact wps (pss_cons h pss_can) (q σ F H eB s w)
theorem rn_set {x : Str} {p : Pos} {i : Nat} (hN : X.N.Nodup) (hi : X.N[i]? = some x) (hx : Loc X.env.scope x) (h : Ve X e env ow d) (k : ∀ B', Ex B B' → Rn X B' rest Dn (env.set i (some d)) ow) (hs : swapsWith e (some (.Name x p)) pos.line X.env = pure false := by rfl) (hf : X.fn x = true ∨ X.env.scope.names.lookup x = some .local := by first | exact .inl rfl | exact .inr rfl | assumption) :
    Rn X B (.Assign [.Name x p] e pos :: rest) Dn env ow := rn_one ⟨_, ps_set hN hi hx pe_can hs hf, fun σ F H eB s w => h σ F H _ s w fun F1 H1 v e1 w1 r1 => k F1 (eB.trans e1) _ F1 H1 (Evl.Ex.refl F1) ((s.mono e1).set r1 i) w1⟩
/-- the assignment of what changes the owned -/
theorem rn_setM {x : Str} {p : Pos} {i : Nat} {P : D → Ow → Prop} (hN : X.N.Nodup) (hi : X.N[i]? = some x) (hx : Loc X.env.scope x) (h : Vm X e env ow P) (k : ∀ B' d ow2, Ex B B' → P d ow2 → Rn X B' rest Dn (env.set i (some d)) ow2) (hs : swapsWith e (some (.Name x p)) pos.line X.env = pure false := by rfl) (hf : X.fn x = true ∨ X.env.scope.names.lookup x = some .local := by first | exact .inl rfl | exact .inr rfl | assumption) :
    Rn X B (.Assign [.Name x p] e pos :: rest) Dn env ow := rn_one ⟨_, ps_set hN hi hx pe_can hs hf, fun σ F H eB s w => h σ F H _ s w fun F1 H1 v d ow2 e1 w1 r1 hp => k F1 d ow2 (eB.trans e1) hp _ F1 H1 (Evl.Ex.refl F1) ((s.mono e1).set r1 i) w1⟩
/-- any other target -/
theorem rn_asg {g : TG} {f : List (Option D) → List (Option D)} (hg : PG X tg g) (h : Ve X e env ow d) (hgd : Gd X.K ow g d f) (k : ∀ B', Ex B B' → Rn X B' rest Dn (f env) ow) (hs : swapsWithSole [tg] e pos.line X.env = pure false := by rfl) (hw : swappedStores [tg] e X.env = pure none := by rfl)
    (h1 : (assignEach [tg] X.env).map (·.2) = [assign tg X.env] := by rfl) : Rn X B (.Assign [tg] e pos :: rest) Dn env ow := rn_one ⟨_, ps_asg pe_can hg hs hw h1, fun σ F H eB s w => h σ F H _ s w fun F1 H1 v e1 w1 r1 => hgd env σ F1 H1 v _ (s.mono e1) w1 r1 fun σ2 s2 => k F1 (eB.trans e1) _ F1 H1 (Evl.Ex.refl F1) s2 w1⟩
/-- a, b = x, y -/
theorem rn_par {x y : Str} {px py p1 p2 : Pos} {k1 k2 i j : Nat} (hc : X.calm = true) (hN : X.N.Nodup) (hi : X.N[i]? = some x) (hj : X.N[j]? = some y) (hij : i ≠ j) (hx : X.env.scope.names.lookup x = some .local) (hy : X.env.scope.names.lookup y = some .local)
    (h1 : Ve X a env ow d1) (h2 : Ve X b env ow d2) (k : ∀ B', Ex B B' → Rn X B' rest Dn ((env.set i (some d1)).set j (some d2)) ow)
    (hw : swappedStores [.Tuple [.Name x px, .Name y py] k1 p1] (.Tuple [a, b] k2 p2) X.env = pure (some [x, y])) (hst : starEach [a, b] X.env = [(false, eval a X.env), (false, eval b X.env)] := by rfl) (hst2 : starEach [b] X.env = [(false, eval b X.env)] := by rfl) (hps : ∃ t, PS X (.Assign [.Tuple [.Name x px, .Name y py] k1 p1] (.Tuple [a, b] k2 p2) pos) (tPar i j t) ∧ t = WpA X [a, b]) :
    Rn X B (.Assign [.Tuple [.Name x px, .Name y py] k1 p1] (.Tuple [a, b] k2 p2) pos :: rest) Dn env ow := rn_one (by
  obtain ⟨t, hp, rfl⟩ := hps
  refine ⟨_, hp, fun σ F H eB s w => va_cons h1 (va_cons h2 va_nil hst2) (by rw [hst, hst2]) σ F H _ s w fun F1 H1 vs e1 w1 r1 => ?_⟩
  cases r1 with
  | cons r2 r3 =>
    cases r3 with
    | cons r4 r5 =>
      cases r5
      exact ⟨_, _, rfl, k F1 (eB.trans e1) _ F1 H1 (Evl.Ex.refl F1) (((s.mono e1).set r2 i).set r4 j) w1⟩)
theorem rn_ret (h : Ve X e env ow d) (k : Post X.K ow B d Dn.rt) : Rn X B (.Return (some e) pos :: rest) Dn env ow := rn_one ⟨_, ps_ret pe_can, fun σ F H eB s w => h σ F H _ s w (k.ex eB)⟩
theorem rn_retM {P : D → Ow → Prop} (h : Vm X e env ow P) (k : ∀ d ow2, P d ow2 → Post X.K ow2 B d Dn.rt) : Rn X B (.Return (some e) pos :: rest) Dn env ow := rn_one ⟨_, ps_ret pe_can, fun σ F H eB s w => h σ F H _ s w fun F1 H1 v d ow2 e1 w1 r1 hp => k d ow2 hp F1 H1 v (eB.trans e1) w1 r1⟩
theorem rn_if {t : Bool} (h : Vt X c env ow t) (h1 : t = true → ∀ B', Ex B B' → Rn X B' s1 (Then X rest Dn) env ow) (h2 : t = false → ∀ B', Ex B B' → Rn X B' s2 (Then X rest Dn) env ow) : Rn X B (.If c s1 s2 pos :: rest) Dn env ow := rn_one ⟨_, ps_if pt_can pss_can pss_can, fun σ F H eB s w => h σ F H _ s w fun F1 H1 e1 w1 => by
  cases t with
  | true =>
    rw [if_pos rfl]
    exact h1 rfl F1 (eB.trans e1) σ F1 H1 (Evl.Ex.refl F1) (s.mono e1) w1
  | false =>
    rw [if_neg Bool.false_ne_true]
    exact h2 rfl F1 (eB.trans e1) σ F1 H1 (Evl.Ex.refl F1) (s.mono e1) w1⟩
/-- behind a turn -/
def Nx (K : PySem.W.Frag) (B : Hp) (I : List (Option D) → Ow → Prop) : L2.St → Hp → Prop := fun σ H => ∃ F env ow, Ex B F ∧ Sl K F σ env ∧ Wo K ow F H ∧ I env ow
def Turn (X : Cx) (B : Hp) (rest : List Stmt) (Dn : Ends) (I : List (Option D) → Ow → Prop) : Ends := { nx := Nx X.K B I, ct := Nx X.K B I, bk := WpS X rest Dn, rt := Dn.rt }
theorem rn_for {g : TG} {f : D → List (Option D) → List (Option D)} {body : List Stmt} (I : Nat → List (Option D) → Ow → Prop) (hp : PassesOwn (model X.prog X.w) X.A X.env X.xe) (hc : X.calm = true) (hi : Vi X tg it env ow ds) (hg : PG X tg g) (hgd : ∀ ow d, d ∈ ds → Gd X.K ow g d (f d)) (h0 : I 0 env ow)
    (hs : ∀ B' i d env' ow', Ex B B' → ds[i]? = some d → I i env' ow' → Rn X B' body (Turn X B' rest Dn (I (i + 1))) (f d env') ow') (hd : ∀ B' env' ow', Ex B B' → I ds.length env' ow' → Rn X B' rest Dn env' ow')
    (hfs : ∀ x, foldedSetIterable it X.env x = pure x := by intro _; rfl) : Rn X B (.For tg it body [] pos :: rest) Dn env ow := rn_one (by
  obtain ⟨wi, pi, hw⟩ := hi
  refine ⟨_, ps_for hp hc pi hg pss_can hfs, fun σ F H eB s w => hw σ F H _ s w fun J F1 H1 e1 w1 src => ?_⟩
  refine ⟨fun i m σ H => m = ds.length - i ∧ i ≤ ds.length ∧ Nx X.K F1 (I i) σ H, ⟨ds.length, by simp, Nat.zero_le _, F1, env, ow, Evl.Ex.refl F1, s.mono e1, w1, h0⟩, ?_⟩
  rintro i m σ' H' ⟨rfl, hi, F', env', ow', eF, s', w', hI⟩
  obtain ⟨stop, go⟩ := src F' H' ow' i eF w'
  by_cases hlt : i < ds.length
  · obtain ⟨hgo, hy⟩ := go ds[i] (by simp [hlt])
    refine .inr ⟨hgo, Nx X.K F1 (I (i + 1)), fun σ2 H2 q => ⟨ds.length - (i + 1), by omega, rfl, hlt, q⟩, fun x H2 hx => ?_⟩
    obtain ⟨F2, e2, w2, r2⟩ := hy x H2 hx
    refine hgd ow' ds[i] (List.getElem_mem hlt) env' σ' F2 H2 x _ (s'.mono e2) w2 r2 fun σ2 s2 => ?_
    exact hs F1 i ds[i] env' ow' (eB.trans e1) (by simp [hlt]) hI σ2 F2 H2 (eF.trans e2) s2 w2
  · have e : i = ds.length := by omega
    subst e
    exact .inl ⟨stop (Nat.le_refl _), hd F1 env' ow' (eB.trans e1) hI σ' F' H' eF s' w'⟩)
theorem rn_while {body : List Stmt} (I : Nat → List (Option D) → Ow → Prop) (hp : PassesOwn (model X.prog X.w) X.A X.env X.xe) (h0 : ∃ m, I m env ow)
    (hs : ∀ B' m env' ow', Ex B B' → I m env' ow' → ∃ t, Vt X c env' ow' t ∧ (t = true → ∀ B2, Ex B' B2 → Rn X B2 body (Turn X B' rest Dn fun env2 ow2 => ∃ m2, m2 < m ∧ I m2 env2 ow2) env' ow') ∧ (t = false → ∀ B2, Ex B' B2 → Rn X B2 rest Dn env' ow')) : Rn X B (.While c body [] pos :: rest) Dn env ow := rn_one (by
  refine ⟨_, ps_while hp pt_can pss_can, fun σ F H eB s w => ?_⟩
  obtain ⟨m0, h0⟩ := h0
  refine ⟨fun m σ H => Nx X.K F (I m) σ H, ⟨m0, F, env, ow, Evl.Ex.refl F, s, w, h0⟩, ?_⟩
  rintro m σ' H' ⟨F', env', ow', eF, s', w', hI⟩
  obtain ⟨t, ht, y1, y2⟩ := hs F m env' ow' eB hI
  refine ht σ' F' H' _ s' w' fun F2 H2 e2 w2 => ?_
  cases t with
  | true =>
    rw [if_pos rfl]
    refine ⟨Nx X.K F fun env2 ow2 => ∃ m2, m2 < m ∧ I m2 env2 ow2, fun σ2 H3 ⟨F3, env3, ow3, a1, a2, a3, m2, a4, a5⟩ => ⟨m2, a4, F3, env3, ow3, a1, a2, a3, a5⟩, ?_⟩
    exact y1 rfl F2 (eF.trans e2) σ' F2 H2 (Evl.Ex.refl F2) (s'.mono e2) w2
  | false =>
    rw [if_neg Bool.false_ne_true]
    exact y2 rfl F2 (eF.trans e2) σ' F2 H2 (Evl.Ex.refl F2) (s'.mono e2) w2)
/-- behind a turn of a while, whose base is an elder one -/
theorem rn_nextW {B2 : Hp} {I : List (Option D) → Ow → Prop} (h : I env ow) (e : Ex B B2) : Rn X B2 [] (Turn X B rest Dn I) env ow := rn_end fun σ F H eB s w => ⟨F, env, ow, e.trans eB, s, w, h⟩
end
end Vd
set_option Elab.async false
set_option linter.all false
set_option maxRecDepth 100000
set_option maxHeartbeats 4000000
namespace Vd
open PySem L2
section
variable {K : PySem.W.Frag} {ow : Ow} {F : Hp}
theorem Rps.atI {v : List V} {d : List D} {i : Int} {x : D} (r : Rps K F v d) (h : L2.atI d i = some x) : ∃ y, L2.atI v i = some y ∧ Rp K F y x := by
  unfold L2.atI at h ⊢
  rw [r.length]
  cases q : ixN d.length i with
  | none =>
    rw [q] at h
    cases h
  | some j =>
    rw [q] at h
    exact r.get h
theorem rd_ixL {l : List D} {i : Int} {d : D} (h : L2.atI l i = some d) : RD K ow (rIxL K) (.lst l) (.int i) d := .mk fun F H x y Q w r1 r2 k => by
  cases r2
  cases r1 with
  | lst h1 s1 =>
    obtain ⟨v, hv, rv⟩ := s1.atI h
    exact ⟨_, _, _, v, rfl, rfl, SqL.of (w.ex _ _ h1), hv, k.here w rv⟩
theorem rd_ixT {l : List D} {i : Int} {d : D} (h : L2.atI l i = some d) : RD K ow (rIxT K) (.tup l) (.int i) d := .mk fun F H x y Q w r1 r2 k => by
  cases r2
  cases r1 with
  | tup h1 s1 =>
    obtain ⟨v, hv, rv⟩ := s1.atI h
    exact ⟨_, _, _, v, rfl, rfl, Evl.ex_t w.ex h1, hv, k.here w rv⟩
theorem rd_ixS {z : Str} {i : Int} {c : Nat} (hl : z.length ≤ 100000) (h : L2.atI z.cps.toList i = some c) : RD K ow rIxS (.str z) (.int i) (.str ⟨#[c]⟩) := .mk fun F H x y Q w r1 r2 k => by
  cases r1
  cases r2
  exact ⟨_, _, c, rfl, rfl, Evl.sz_of hl, h, k.here w (.str _)⟩
/-- an owned list read -/
theorem rd_ixO {p : Addr} {l : List D} {i : Int} {d : D} (hp : ow p = some (.lst l)) (h : L2.atI l i = some d) : RD K ow (rIxL K) (.ob (.ref p)) (.int i) d := .mk fun F H x y Q w r1 r2 k => by
  cases r1
  cases r2
  obtain ⟨_, xs, h1, s1⟩ := w.own p _ hp
  obtain ⟨v, hv, rv⟩ := s1.atI h
  exact ⟨_, _, _, v, rfl, rfl, SqL.of h1, hv, k.here w rv⟩
theorem rc_lenL {l : List D} : RC K ow (fun xs H Q => ∃ p ys, xs = [.ref p] ∧ (SqL K H p ys ∨ SqT K H p ys) ∧ Q (.int ys.length) H) [.lst l] (.int (l.length : Nat)) := .mk fun F H xs Q w r k => by
  cases r with
  | cons r1 r2 =>
    cases r2
    cases r1 with
    | lst h1 s1 => exact ⟨_, _, rfl, .inl (SqL.of (w.ex _ _ h1)), by rw [s1.length]; exact k.here w (.int _)⟩
theorem rc_lenT {l : List D} : RC K ow (fun xs H Q => ∃ p ys, xs = [.ref p] ∧ (SqL K H p ys ∨ SqT K H p ys) ∧ Q (.int ys.length) H) [.tup l] (.int (l.length : Nat)) := .mk fun F H xs Q w r k => by
  cases r with
  | cons r1 r2 =>
    cases r2
    cases r1 with
    | tup h1 s1 => exact ⟨_, _, rfl, .inr (Evl.ex_t w.ex h1), by rw [s1.length]; exact k.here w (.int _)⟩
theorem rc_lenO {p : Addr} {l : List D} (hp : ow p = some (.lst l)) : RC K ow (fun xs H Q => ∃ p ys, xs = [.ref p] ∧ (SqL K H p ys ∨ SqT K H p ys) ∧ Q (.int ys.length) H) [.ob (.ref p)] (.int (l.length : Nat)) := .mk fun F H xs Q w r k => by
  cases r with
  | cons r1 r2 =>
    cases r2
    cases r1
    obtain ⟨_, ys, h1, s1⟩ := w.own p _ hp
    exact ⟨_, _, rfl, .inl (SqL.of h1), by rw [s1.length]; exact k.here w (.int _)⟩
theorem rc_int1 {i : Int} : RC K ow (fun xs H Q => (∃ i, xs = [.int i] ∧ Q (.int i) H) ∨ ∃ k, xs = [.bl k] ∧ Q (.int (if k then 1 else 0)) H) [.int i] (.int i) := .mk fun F H xs Q w r k => by
  cases r with
  | cons r1 r2 =>
    cases r2
    cases r1
    exact .inl ⟨i, rfl, k.here w (.int _)⟩
theorem rc_abs {i : Int} : RC K ow (fun xs H Q => ∃ i, xs = [.int i] ∧ Q (.int (if i < 0 then -i else i)) H) [.int i] (.int (if i < 0 then -i else i)) := .mk fun F H xs Q w r k => by
  cases r with
  | cons r1 r2 =>
    cases r2
    cases r1
    exact ⟨i, rfl, k.here w (.int _)⟩
theorem rc_max {i j : Int} : RC K ow (fun xs H Q => ∃ i j, xs = [.int i, .int j] ∧ Q (.int (if j > i then j else i)) H) [.int i, .int j] (.int (if j > i then j else i)) := .mk fun F H xs Q w r k => by
  cases r with
  | cons r1 r2 =>
    cases r1
    cases r2 with
    | cons r3 r4 =>
      cases r4
      cases r3
      exact ⟨i, j, rfl, k.here w (.int _)⟩
theorem rc_min {i j : Int} : RC K ow (fun xs H Q => ∃ i j, xs = [.int i, .int j] ∧ Q (.int (if j < i then j else i)) H) [.int i, .int j] (.int (if j < i then j else i)) := .mk fun F H xs Q w r k => by
  cases r with
  | cons r1 r2 =>
    cases r1
    cases r2 with
    | cons r3 r4 =>
      cases r4
      cases r3
      exact ⟨i, j, rfl, k.here w (.int _)⟩
theorem rc_divmod {i j : Int} (h : CDiv i j) : RC K ow (fun xs H Q => ∃ i j, xs = [.int i, .int j] ∧ CDiv i j ∧ ∀ p, H p = none → Q (.ref p) (upd H p (.tup [.int (i / j), .int (i % j)]))) [.int i, .int j] (.tup [.int (i / j), .int (i % j)]) := .mk fun F H xs Q w r k => by
  cases r with
  | cons r1 r2 =>
    cases r1
    cases r2 with
    | cons r3 r4 =>
      cases r4
      cases r3
      exact ⟨i, j, rfl, h, fun p hp => k.new w hp (.tup (SqT.of upd_same) (.cons (.int _) (.cons (.int _) .nil)))⟩
theorem rc_all {l : List Bool} : RC K ow (rAll K) [.lst (l.map D.bl)] (.bl (l.all id)) := .mk fun F H xs Q w r k => by
  cases r with
  | cons r1 r2 =>
    cases r2
    cases r1 with
    | lst h1 s1 => exact ⟨_, l, rfl, by rw [← s1.bls]; exact SqL.of (w.ex _ _ h1), k.here w (.bl _)⟩
theorem rc_any {l : List Bool} : RC K ow (rAny K) [.lst (l.map D.bl)] (.bl (l.any id)) := .mk fun F H xs Q w r k => by
  cases r with
  | cons r1 r2 =>
    cases r2
    cases r1 with
    | lst h1 s1 => exact ⟨_, l, rfl, by rw [← s1.bls]; exact SqL.of (w.ex _ _ h1), k.here w (.bl _)⟩
end
open PySem.Spec PyProof.Rows
/-- a wish for the texts of containers under way; the common one: none is -/
abbrev Gds := Option (List Code) → Prop
abbrev gd0 : Gds := fun g => g = some []
structure FnG (γ : Gds) (P : Program) (w : World) (K : PySem.W.Frag) (mg : Str → Option Value) (base : Heap) (CX : CXT) (k : Nat) (f : Addr) (fd : FuncData) (ps : List Str) (sp : Sp) : Prop where
  len : ∀ vs H Q E, sp vs H Q E → vs.length = ps.length
  run : ∀ (A : Around) (outer : List Env) (s : Shared) (H : Hp) (args : Args) (us : List Value) (vs : List V) (Q : VK) (E : XK), γ A.guards → Room k A → Env0 P w K mg base A outer s H → BindsTo s fd args (ps.zip us) → Vals vs us → sp vs H Q E →
    codeAny (model P w) A (.call (.ref f) args) (CR CX outer P w H s Q E) s
theorem FnG.of {P : Program} {w : World} {K : PySem.W.Frag} {mg : Str → Option Value} {base : Heap} {CX : CXT} {k : Nat} {f : Addr} {fd : FuncData} {ps : List Str} {sp : Sp} (h : FnOk P w K mg base CX k f fd ps sp) : FnG γ P w K mg base CX k f fd ps sp :=
  ⟨h.len, fun A outer s H args us vs Q E _ => h.run A outer s H args us vs Q E⟩
theorem FnG.mono {P : Program} {w : World} {K : PySem.W.Frag} {mg : Str → Option Value} {base : Heap} {CX : CXT} {j k : Nat} {f : Addr} {fd : FuncData} {ps : List Str} {sp : Sp} (h : FnG γ P w K mg base CX j f fd ps sp) (l : j ≤ k) : FnG γ P w K mg base CX k f fd ps sp :=
  ⟨h.len, fun A outer s H args us vs Q E hg hr => h.run A outer s H args us vs Q E hg (hr.mono l)⟩
/-- a def of the text by its body -/
theorem fnG_of {CX : CXT} {P : Program} {w : World} {K : PySem.W.Frag} {mg : Str → Option Value} {base : Heap} {k : Nat} {f : Addr} {x qual : Str} {st : Stmt} {fd : FuncData} {N ps : List Str} {sp : Sp} (Fn : Fun K x qual st f fd) (S : FnScope N ps (defScope st)) (len : ∀ vs H Q E, sp vs H Q E → vs.length = ps.length)
    (hbody : ∀ (cdv : Value) (A : Around) (outer : List Env) (s : Shared) (H : Hp) (vs : List V) (Q : VK) (E : XK), γ A.guards → Room k (A.deeper (envOfC qual (defScope st) s.heap.objs.size f cdv)) → sp vs H Q E →
      ∃ t, PSs (cxOf CX P w K mg base N qual (defScope st) f cdv A outer s H E) (defBody st) t ∧ t { nx := fun _ H' => Q .non H', rt := Q } (start N vs) H) : FnG γ P w K mg base CX (k + 1) f fd ps sp := by
  obtain ⟨oc, od, kV, doc, pm, an, cdv, ct, osl, rfl, lk, hcd⟩ := Fn.ex
  refine ⟨len, fun A outer s H args us vs Q E hgd hr e0 hb r hsp => ?_⟩
  have inK : K.In s.heap := e0.mod.kin.keeps fun b o e => (e0.bs b o e).1
  have lim : s.heap.NoLimit := e0.mod.nolimit.keeps fun b o e => (e0.bs b o e).1
  have kinds : ∀ y ∈ ps.zip us, (defScope st).names.lookup y.1 = some .local ∨ ((defScope st).names.lookup y.1 = some .cell ∧ ((cellsFrom (s.heap.objs.size + 1) (defScope st).names []).lookup y.1).isSome = true) := fun ⟨n, v⟩ hy => by
    rcases S.par n (List.of_mem_zip hy).1 with q | q
    · exact .inl q
    · refine .inr ⟨q, ?_⟩
      exact PySem.W.cellsFrom_some _ _ _ (.inl q)
  refine codeAny_call_function hr.depth (inK _ _ lk) rfl S.co S.gen rfl (PySem.W.codeRec_of inK hcd) (hb _ _ _ _ ?_)
  refine wpAny_newFunctionEnv_cells S.kind kinds fun env he s1 z => ?_
  subst he
  refine ⟨lim.keeps z.toInCall.keep, codeAny_func ?_⟩
  obtain ⟨t, ht, hq⟩ := hbody cdv A outer s H vs Q E hgd (hr.deeper _) hsp
  have I : Inv (cxOf CX P w K mg base N qual (defScope st) f cdv A outer s H E) [] (start N vs) H s1 := inv_start S hr.hd e0 (len _ _ _ _ hsp) r z
  refine wpAny_mono (ht.run [] s1 (start N vs) H _ I hq) (fun fl s' hs => ?_) fun e s' hs => hs
  cases fl with
  | ret u =>
    obtain ⟨v, σ', H', J, rv, q⟩ := hs
    exact ⟨v, H', J.os, J.bare, J.base, J.hok, rv, q⟩
  | next =>
    obtain ⟨σ', H', J, q⟩ := hs
    exact ⟨.non, H', J.os, J.bare, J.base, J.hok, rfl, q⟩
  | brk =>
    obtain ⟨_, _, _, q⟩ := hs
    exact q.elim
  | cont =>
    obtain ⟨_, _, _, q⟩ := hs
    exact q.elim
section
variable {X : Cx} {B : Hp} {env : List (Option D)} {ow : Ow} {a b c e o i tg it elt : Expr} {es : List Expr} {d d1 d2 d3 : D} {ds : List D} {pos : Pos} {Dn : Ends} {rest : List Stmt}
variable {CX : CXT} {k : Nat} {f : Addr} {fd : FuncData} {ps : List Str} {sp : Sp} {dvs : List V} {dv : List Value} {E : XK} {x : Str} {p : Pos}
theorem run_fnG {pins : List (Addr × Obj)} {σ : L2.St} {H : Hp} {s : Shared} {Q : VK} {us : List Value} {vs : List V} (Fn : FnG γ X.prog X.w X.K X.mg X.base CX k f fd ps sp) (hgd : γ X.A.guards) (hr : Room k X.A) (hb : Binds X.K fd ps dv) (hd : Vals dvs dv) (hx : Passes CX X E)
    (I : Inv X pins σ H s) (r : Vals vs us) (h : sp (vs ++ dvs) H Q E) : wpAny (model X.prog X.w) X.A (call (.ref f) us) (EP X pins σ Q) X.xe s := by
  have r2 : Vals (vs ++ dvs) (us ++ dv) := r.append hd
  have hl : (us ++ dv).length = ps.length := r2.length.symm.trans (Fn.len _ _ _ _ h)
  refine wpAny_call (codeAny_mono (Fn.run X.A X.stack s H ⟨us, []⟩ (us ++ dv) (vs ++ dvs) Q E hgd hr I.env0 (hb s us I.kIn hl) r2 h) fun r s' hq => ?_)
  match r, hq with
  | .error e, hq => exact hx pins σ H s e s' I hq
  | .ok (.ret u), hq => exact I.after hq
theorem pe_callG {es0 : List Expr} {t : TA} (Fn : FnG γ X.prog X.w X.K X.mg X.base CX k f fd ps sp) (hgd : γ X.A.guards) (hr : Room k X.A) (hg : Gl X x) (hm : X.mg x = some (.ref f)) (hk : PySem.W.keepIn X.K (.ref f) = true) (hb : Binds X.K fd ps dv) (hd : Vals dvs dv) (hx : Passes CX X E)
    (ha : PA X (e :: es0) t) (hdb : (x == ("__debug__" : Str)) = false := by decide) (he : starEach (e :: es0) X.env = (false, eval e X.env) :: starEach es0 X.env := by rfl) (hpl : (backTo pos (starEach es0 X.env)).any (·.1) = false := by rfl) :
    PE X (.Call (.Name x p) (e :: es0) [] pos) (tCall sp dvs E t) := by
  refine ⟨fun pins s σ H Q I h => ?_⟩
  refine wpAny_Call_Name_kw (ld_glob I hg hm ?_ hdb)
  refine PySem.W.callWith_K (h₀ := X.base) I.ok.mod.kin hk ?_ he hpl
  refine thn (ha.run pos pins s σ H _ I h) fun us s1 ⟨vs, H1, I1, r, q⟩ => ⟨I1.kIn, ?_⟩
  exact run_fnG Fn hgd hr hb hd hx I1 r q
theorem ve_call (Fn : FnG γ X.prog X.w X.K X.mg X.base CX k f fd ps sp) (hgd : γ X.A.guards) (hr : Room k X.A) (hg : Gl X x) (hm : X.mg x = some (.ref f)) (hk : PySem.W.keepIn X.K (.ref f) = true) (hb : Binds X.K fd ps dv) (hd : Vals dvs dv) (hx : Passes CX X E) (ha : Va X (e :: es) env ow ds)
    (hs : ∀ F H vs Q, Wo X.K ow F H → Rps X.K F vs ds → Post X.K ow F d Q → sp (vs ++ dvs) H Q E) (hdb : (x == ("__debug__" : Str)) = false := by decide) (he : starEach (e :: es) X.env = (false, eval e X.env) :: starEach es X.env := by rfl) (hpl : (backTo pos (starEach es X.env)).any (·.1) = false := by rfl) :
    Ve X (.Call (.Name x p) (e :: es) [] pos) env ow d := .mk fun σ F H Q s w k0 => wpe (pe_callG Fn hgd hr hg hm hk hb hd hx pa_can hdb he hpl) (ha σ F H _ s w fun F1 H1 vs e1 w1 r1 => hs F1 H1 vs Q w1 r1 (k0.ex e1))
theorem vm_call {P : D → Ow → Prop} (Fn : FnG γ X.prog X.w X.K X.mg X.base CX k f fd ps sp) (hgd : γ X.A.guards) (hr : Room k X.A) (hg : Gl X x) (hm : X.mg x = some (.ref f)) (hk : PySem.W.keepIn X.K (.ref f) = true) (hb : Binds X.K fd ps dv) (hd : Vals dvs dv) (hx : Passes CX X E) (ha : Va X (e :: es) env ow ds)
    (hs : ∀ F H vs Q, Wo X.K ow F H → Rps X.K F vs ds → (∀ F2 H2 v d ow2, Ex F F2 → Wo X.K ow2 F2 H2 → Rp X.K F2 v d → P d ow2 → Q v H2) → sp (vs ++ dvs) H Q E) (hdb : (x == ("__debug__" : Str)) = false := by decide) (he : starEach (e :: es) X.env = (false, eval e X.env) :: starEach es X.env := by rfl) (hpl : (backTo pos (starEach es X.env)).any (·.1) = false := by rfl) :
    Vm X (.Call (.Name x p) (e :: es) [] pos) env ow P := .mk fun σ F H Q s w k0 => wpe (pe_callG Fn hgd hr hg hm hk hb hd hx pa_can hdb he hpl) (ha σ F H _ s w fun F1 H1 vs e1 w1 r1 => hs F1 H1 vs Q w1 r1 fun F2 H2 v d ow2 e2 w2 r2 hp => k0 F2 H2 v d ow2 (e1.trans e2) w2 r2 hp)
theorem vm_of {P : D → Ow → Prop} (h : Ve X e env ow d) (hp : P d ow) : Vm X e env ow P := .mk fun σ F H Q s w k0 => h σ F H Q s w fun F2 H2 v e2 w2 r2 => k0 F2 H2 v d ow e2 w2 r2 hp
theorem Vm.imp {P P' : D → Ow → Prop} (h : Vm X e env ow P) (q : ∀ d ow2, P d ow2 → P' d ow2) : Vm X e env ow P' := .mk fun σ F H Q s w k0 => h σ F H Q s w fun F2 H2 v d ow2 e2 w2 r2 hp => k0 F2 H2 v d ow2 e2 w2 r2 (q d ow2 hp)
/-- an operation whose first part changes what is owned -/
theorem vm_op1 {P P' : D → Ow → Prop} {op : Operator} {r : R2} (ho : OpR X (binaryOp op) r) (ha : Vm X a env ow P) (h : ∀ d1 ow2, P d1 ow2 → ∃ d2 d, Ve X b env ow2 d2 ∧ RD X.K ow2 r d1 d2 d ∧ P' d ow2) : Vm X (.BinOp a op b pos) env ow P' := .mk fun σ F H Q s w k0 =>
  wpe (pe_op ho pe_can pe_can) (ha σ F H _ s w fun F1 H1 x d1 ow2 e1 w1 r1 hp => by
    obtain ⟨d2, d, hb, hr, hp'⟩ := h d1 ow2 hp
    exact hb σ F1 H1 _ (s.mono e1) w1 fun F2 H2 y e2 w2 r2 => hr F2 H2 x y Q w2 (r1.mono e2) r2 fun F3 H3 v e3 w3 r3 => k0 F3 H3 v d ow2 ((e1.trans e2).trans e3) w3 r3 hp')
theorem vm_op2 {P P' : D → Ow → Prop} {op : Operator} {r : R2} (ho : OpR X (binaryOp op) r) (ha : Ve X a env ow d1) (hb : Vm X b env ow P) (h : ∀ d2 ow2, P d2 ow2 → ∃ d, RD X.K ow2 r d1 d2 d ∧ P' d ow2) : Vm X (.BinOp a op b pos) env ow P' := .mk fun σ F H Q s w k0 =>
  wpe (pe_op ho pe_can pe_can) (ha σ F H _ s w fun F1 H1 x e1 w1 r1 => hb σ F1 H1 _ (s.mono e1) w1 fun F2 H2 y d2 ow2 e2 w2 r2 hp => by
    obtain ⟨d, hr, hp'⟩ := h d2 ow2 hp
    exact hr F2 H2 x y Q w2 (r1.mono e2) r2 fun F3 H3 v e3 w3 r3 => k0 F3 H3 v d ow2 ((e1.trans e2).trans e3) w3 r3 hp')
/-- x[..] where the index changes what is owned -/
theorem vm_ix2 {P P' : D → Ow → Prop} {r : R2} (hr0 : IxR X r) (hs : PlainIx b) (ha : Ve X a env ow d1) (hb : Vm X b env ow P) (h : ∀ d2 ow2, P d2 ow2 → ∃ d, RD X.K ow2 r d1 d2 d ∧ P' d ow2) : Vm X (.Subscript a b pos) env ow P' := .mk fun σ F H Q s w k0 =>
  wpe (pe_ix hr0 pe_can pe_can hs) (ha σ F H _ s w fun F1 H1 x e1 w1 r1 => hb σ F1 H1 _ (s.mono e1) w1 fun F2 H2 y d2 ow2 e2 w2 r2 hp => by
    obtain ⟨d, hr, hp'⟩ := h d2 ow2 hp
    exact hr F2 H2 x y Q w2 (r1.mono e2) r2 fun F3 H3 v e3 w3 r3 => k0 F3 H3 v d ow2 ((e1.trans e2).trans e3) w3 r3 hp')
def Sub (ow ow' : Ow) : Prop := ∀ a o, ow a = some o → ow' a = some o
theorem wipe_one {σ : L2.St} {j : Nat} {v : V} : L2.wipe ((L2.wipe σ [j]).set j (some v)) [j] = L2.wipe σ [j] := by
  show ((σ.set j none).set j (some v)).set j none = σ.set j none
  rw [List.set_set, List.set_set]
def Vts (X : Cx) (ifs : List Expr) (env : List (Option D)) (ow : Ow) (b : Bool) : Prop := ∃ t, PTs X ifs t ∧ ∀ (σ : L2.St) (F H : Hp) (Q : Bool → Hp → Prop), Sl X.K F σ env → Wo X.K ow F H → PostB X.K ow F b Q → t σ H Q
/-- the block's test, whatever block -/
def WpTs (X : Cx) (ifs : List Expr) : TT := fun σ H Q => ∀ pins s, Inv X pins σ H s → wpAny (model X.prog X.w) X.A (forIn ifs true fun c r => if r = true then do let ok ← isTrue c X.env (eval c X.env); pure (ForInStep.yield ok) else pure (ForInStep.yield r)) (TP X pins σ Q) X.xe s
theorem vts_nil : Vts X [] env ow true := ⟨_, pts_nil, fun σ F H Q s w k => k F H (Evl.Ex.refl F) w⟩
theorem vts_one {t : Bool} (h : Vt X c env ow t) : Vts X [c] env ow t := ⟨_, pts_one pt_can, h⟩
/-- [elt for name in it if ..]: f the data of what is kept -/
theorem ve_lc {ifs : List Expr} {scope : Scope} {j : Nat} {y : Str} {py : Pos} (kp : D → Bool) (f : D → D) (hc : X.calm = true) (hN : X.N.Nodup) (hi : Vi X (.Name y py) it env ow ds) (ok : BlkOk X.N X.env.scope scope [(y, j)]) (hl : ds.length ≤ 100000)
    (hg : ∀ (s : Shared) (H : Hp) (C : Addr) (cl : List (Str × Addr)) (fp : List Addr), PG (X.blk s H scope (compEnvC scope cl C X.env) fp) (.Name y py) (gName j))
    (ht : ∀ d ow', d ∈ ds → Sub ow ow' → ∀ (s : Shared) (H : Hp) (C : Addr) (cl : List (Str × Addr)) (fp : List Addr), Vts (X.blk s H scope (compEnvC scope cl C X.env) fp) ifs ((env.set j none).set j (some d)) ow' (kp d))
    (he : ∀ d ow', d ∈ ds → kp d = true → Sub ow ow' → ∀ (s : Shared) (H : Hp) (C : Addr) (cl : List (Str × Addr)) (fp : List Addr), Ve (X.blk s H scope (compEnvC scope cl C X.env) fp) elt ((env.set j none).set j (some d)) ow' (f d))
    (hsf : ∀ x, foldedSetIterable it X.env x = pure x := by intro _; rfl) : Ve X (.ListComp elt [⟨.Name y py, it, ifs, 0⟩] scope pos) env ow (.lst ((ds.filter kp).map f)) := .mk fun σ F H Q s w k0 => by
  obtain ⟨wi, pi, hw⟩ := hi
  refine wpe (pe_lc (own := [(y, j)]) (g := gName j) (tt := fun σ H Q => ∀ (s : Shared) (H0 : Hp) (C : Addr) (cl : List (Str × Addr)) (fp : List Addr), WpTs (X.blk s H0 scope (compEnvC scope cl C X.env) fp) ifs σ H Q)
    (te := fun σ H Q => ∀ (s : Shared) (H0 : Hp) (C : Addr) (cl : List (Str × Addr)) (fp : List Addr), WpE (X.blk s H0 scope (compEnvC scope cl C X.env) fp) elt σ H Q) hc hN pi ok hg
    (fun s0 H0 C cl fp => ⟨fun pins s σ H Q I h => h s0 H0 C cl fp pins s I⟩) (fun s0 H0 C cl fp => ⟨fun pins s σ H Q I h => h s0 H0 C cl fp pins s I⟩) hsf) ?_
  refine hw σ F H _ s w fun J F1 H1 e1 w1 src => ?_
  intro Dl hD
  refine ⟨fun i m H => m = ds.length - i ∧ i ≤ ds.length ∧ ∃ F2 xs, Ex F1 F2 ∧ Wo X.K ow F2 H ∧ F2 Dl = none ∧ ow Dl = none ∧ H Dl = some (.lst xs) ∧ Rps X.K F2 xs (((ds.take i).filter kp).map f), ⟨ds.length, by simp, Nat.zero_le _, F1, [], Evl.Ex.refl F1, w1.grow hD, w1.free hD, w1.ofree hD, upd_same, .nil⟩, ?_⟩
  rintro i m H2 ⟨rfl, hi, F2, xs, e2, w2, hF2, hoD, hH2, r2⟩
  obtain ⟨stop, go⟩ := src F2 H2 ow i e2 w2
  by_cases hlt : i < ds.length
  · have hdi : ds[i]? = some ds[i] := by simp [hlt]
    have htk : ds.take (i + 1) = ds.take i ++ [ds[i]] := by rw [List.take_add_one, hdi]; rfl
    obtain ⟨hgo, hy⟩ := go ds[i] hdi
    refine .inr ⟨hgo, fun H3 => ∃ F3 xs, Ex F1 F3 ∧ Wo X.K ow F3 H3 ∧ F3 Dl = none ∧ ow Dl = none ∧ H3 Dl = some (.lst xs) ∧ Rps X.K F3 xs (((ds.take (i + 1)).filter kp).map f), fun H3 q => ⟨ds.length - (i + 1), by omega, rfl, hlt, q⟩, fun x H3 hx => ?_⟩
    -- the new list's place is owned meanwhile
    have w2' : Wo X.K (ou ow Dl (.lst (((ds.take i).filter kp).map f))) F2 H2 := ⟨w2.ex, fun a o q => by
      by_cases z : a = Dl
      · subst z
        rw [ou_same] at q
        cases q
        exact ⟨hF2, xs, hH2, r2⟩
      · rw [ou_ne z] at q
        exact w2.own a o q⟩
    obtain ⟨stop', go'⟩ := src F2 H2 _ i e2 w2'
    obtain ⟨_, hy'⟩ := go' ds[i] hdi
    obtain ⟨F3, e3, w3', r3⟩ := hy' x H3 hx
    have sub : ∀ a o, ow a = some o → ou ow Dl (.lst (((ds.take i).filter kp).map f)) a = some o := fun a o q => by
      rw [ou_ne (fun z => by rw [z, hoD] at q; cases q)]
      exact q
    have sl : Sl X.K F3 ((L2.wipe σ [j]).set j (some x)) ((env.set j none).set j (some ds[i])) := (((s.mono (e1.trans (e2.trans e3))).unset j).set r3 j)
    refine ⟨wipe_one, fun s0 H0 C cl fp => ?_⟩
    have hmem : ds[i] ∈ ds := List.getElem_mem hlt
    obtain ⟨tt, ptt, qtt⟩ := ht ds[i] _ hmem sub s0 H0 C cl fp
    intro pins s' I
    refine ptt.run pins s' _ H3 _ I (qtt _ F3 H3 _ sl w3' fun F4 H4 e4 w4 => ?_)
    cases hk : kp ds[i] with
    | true =>
      rw [if_pos rfl]
      intro s1 H01 C1 cl1 fp1
      refine he ds[i] _ hmem hk sub s1 H01 C1 cl1 fp1 _ F4 H4 _ (sl.mono e4) w4 fun F5 H5 y e5 w5 r5 => ?_
      obtain ⟨n5, ys, h5, s5⟩ := w5.own Dl _ ou_same
      refine ⟨ys, h5, ?_, F5, ys ++ [y], e2.trans (e3.trans (e4.trans e5)), ?_, n5, hoD, upd_same, ?_⟩
      · have z := s5.length
        have y1 : (((ds.take i).filter kp).map f).length ≤ i := by
          rw [List.length_map]
          exact Nat.le_trans (List.length_filter_le _ _) (by rw [List.length_take]; omega)
        exact Evl.sz_lt (by omega)
      · exact (w5.setL ou_same (s5.append (.cons r5 .nil))).drop fun a o q => by
          rw [ou_ne (fun z => by rw [z, hoD] at q; cases q)]
          exact sub a o q
      · rw [htk, List.filter_append, List.map_append]
        have y2 : ([ds[i]].filter kp).map f = [f ds[i]] := by simp [hk]
        rw [y2]
        exact s5.append (.cons r5 .nil)
    | false =>
      rw [if_neg Bool.false_ne_true]
      obtain ⟨n5, ys, h5, s5⟩ := w4.own Dl _ ou_same
      refine ⟨F4, ys, e2.trans (e3.trans e4), w4.drop sub, n5, hoD, h5, ?_⟩
      rw [htk, List.filter_append, List.map_append]
      have y2 : ([ds[i]].filter kp).map f = [] := by simp [hk]
      rw [y2, List.append_nil]
      exact s5
  · have e : i = ds.length := by omega
    subst e
    refine .inl ⟨stop (Nat.le_refl _), ?_⟩
    rw [List.take_length] at r2
    exact k0 (upd F2 Dl (.lst xs)) H2 _ ((e1.trans e2).trans (Evl.Ex.new hF2)) (w2.freeze hF2 hH2 hoD) (.lst upd_same (r2.mono (Evl.Ex.new hF2)))
end
end Vd
set_option Elab.async false
set_option linter.all false
set_option maxRecDepth 100000
set_option maxHeartbeats 4000000
namespace Vd
open PySem L2
section
variable {X : Cx} {B : Hp} {env : List (Option D)} {ow : Ow} {a b c e o i tg it elt : Expr} {es : List Expr} {d d1 d2 d3 : D} {ds l : List D} {pos : Pos} {Dn : Ends} {rest : List Stmt}
theorem rn_newL {x : Str} {p lp : Pos} {j : Nat} (hN : X.N.Nodup) (hi : X.N[j]? = some x) (hx : Loc X.env.scope x) (h : Va X es env ow ds) (hl : ds.length ≤ 100000) (k : ∀ B' q, Ex B B' → ow q = none → Rn X B' rest Dn (env.set j (some (.ob (.ref q)))) (ou ow q (.lst ds)))
    (hs : swapsWith (.List es lp) (some (.Name x p)) pos.line X.env = pure false := by rfl) (hf : X.fn x = true ∨ X.env.scope.names.lookup x = some .local := by first | exact .inl rfl | exact .inr rfl | assumption) : Rn X B (.Assign [.Name x p] (.List es lp) pos :: rest) Dn env ow :=
  rn_one ⟨_, ps_set hN hi hx (pe_lst pa_can) hs hf, fun σ F H eB s w => h σ F H _ s w fun F1 H1 xs e1 w1 r1 => ⟨Evl.sz_of (by rw [r1.length]; exact hl), fun q hq => k F1 q (eB.trans e1) (w1.ofree hq) _ F1 _ (Evl.Ex.refl F1) ((s.mono e1).set (.ob _) j) (w1.newL hq r1)⟩⟩
theorem rn_app {q : Addr} {ap cp : Pos} (ho : Ve X o env ow (.ob (.ref q))) (hq : ow q = some (.lst l)) (he : Ve X e env ow d) (hl : l.length < 100000) (k : ∀ B', Ex B B' → Rn X B' rest Dn env (ou ow q (.lst (l ++ [d]))))
    (hbase : attributeBase o "append" X.env (eval o X.env) = eval o X.env := by rfl)
    (hfew : ((backTo cp (starEach [e] X.env)).all (fun x => !x.1) && (backToKw cp (keywordEach [] X.env)).all (fun x => x.1.isSome) && decide ([e].length + ([] : List Keyword).length + (if ([] : List Keyword).isEmpty then 0 else 1) < 30)) = true := by rfl)
    (hline : (ap.endLine == cp.line) = true := by rfl) (hst : starEach [e] X.env = (false, eval e X.env) :: starEach [] X.env := by rfl) (hpl : (backTo cp (starEach [] X.env)).any (·.1) = false := by rfl) (hs : swapsWith (.Call (.Attribute o "append" ap) [e] [] cp) none pos.line X.env = pure false := by rfl) :
    Rn X B (.Expr (.Call (.Attribute o "append" ap) [e] [] cp) pos :: rest) Dn env ow := rn_one ⟨_, ps_expr (pe_bm PySem.F.plainAttrs_list PySem.F.slot_list_append PySem.F.type_list_append mt_append pe_can (pa_cons pe_can pa_nil hst) hbase hfew hline hst hpl) hs, fun σ F H eB s w => ho σ F H _ s w fun F1 H1 v e1 w1 r1 => by
  cases r1
  obtain ⟨_, xs0, g0, _⟩ := w1.own q _ hq
  refine ⟨.inl ⟨rfl, _, SqL.of g0⟩, he σ F1 H1 _ (s.mono e1) w1 fun F2 H2 y e2 w2 r2 => ?_⟩
  obtain ⟨_, xs, g, sx⟩ := w2.own q _ hq
  exact ⟨q, xs, y, rfl, rfl, g, Evl.sz_lt (by rw [sx.length]; exact hl), k F2 (eB.trans (e1.trans e2)) σ F2 _ (Evl.Ex.refl F2) (s.mono (e1.trans e2)) (w2.setL hq (sx.append (.cons r2 .nil)))⟩⟩
def oz (ow : Ow) (a : Addr) : Ow := fun b => if b = a then none else ow b
theorem oz_same {a : Addr} : oz ow a a = none := by unfold oz; rw [if_pos rfl]
theorem oz_ne {a b : Addr} (h : b ≠ a) : oz ow a b = ow b := by unfold oz; rw [if_neg h]
/-- an owned list is let freeze -/
theorem rn_freeze {j : Nat} {q : Addr} (hj : env[j]? = some (some (.ob (.ref q)))) (hq : ow q = some (.lst l)) (k : ∀ B', Ex B B' → Rn X B' rest Dn (env.set j (some (.lst l))) (oz ow q)) : Rn X B rest Dn env ow := .mk fun σ F H eB s w => by
  obtain ⟨n, xs, g, sx⟩ := w.own q _ hq
  obtain ⟨v, h1, h2⟩ := s.at_ j _ hj
  cases h2
  have e1 : Ex F (upd F q (.lst xs)) := Evl.Ex.new n
  have w1 : Wo X.K (oz ow q) (upd F q (.lst xs)) H := (w.drop (ow' := oz ow q) fun a o h => by
    by_cases z : a = q
    · subst z
      rw [oz_same] at h
      cases h
    · rw [oz_ne z] at h
      exact h).freeze n g oz_same
  have s1 : Sl X.K (upd F q (.lst xs)) (σ.set j (some (.ref q))) (env.set j (some (.lst l))) := (s.mono e1).set (.lst upd_same (sx.mono e1)) j
  have z : σ.set j (some (.ref q)) = σ := by
    apply List.ext_getElem?
    intro m
    rw [List.getElem?_set]
    by_cases y : j = m
    · subst y
      rw [if_pos rfl, h1]
      have y2 : j < σ.length := (List.getElem?_eq_some_iff.mp h1).1
      rw [if_pos y2]
    · rw [if_neg y]
  rw [z] at s1
  exact k _ (eB.trans e1) σ _ H (Evl.Ex.refl _) s1 w1
theorem rn_seti {q : Addr} {n : Int} {j : Nat} {sp : Pos} (h : Ve X e env ow d) (ho : Ve X o env ow (.ob (.ref q))) (hi : Ve X i env ow (.int n)) (hq : ow q = some (.lst l)) (hj : ixN l.length n = some j) (k : ∀ B', Ex B B' → Rn X B' rest Dn env (ou ow q (.lst (l.set j d))))
    (hg : PG X (.Subscript o i sp) (gSub (WpE X o) (WpE X i) rSetL))
    (hs : swapsWithSole [.Subscript o i sp] e pos.line X.env = pure false := by rfl) (hw : swappedStores [.Subscript o i sp] e X.env = pure none := by rfl) (h1 : (assignEach [.Subscript o i sp] X.env).map (·.2) = [assign (.Subscript o i sp) X.env] := by rfl) :
    Rn X B (.Assign [.Subscript o i sp] e pos :: rest) Dn env ow := rn_one ⟨_, ps_asg pe_can hg hs hw h1, fun σ F H eB s w => h σ F H _ s w fun F1 H1 v e1 w1 r1 => ho σ F1 H1 _ (s.mono e1) w1 fun F2 H2 ov e2 w2 r2 => hi σ F2 H2 _ (s.mono (e1.trans e2)) w2 fun F3 H3 iv e3 w3 r3 => by
  cases r2
  cases r3
  obtain ⟨_, xs, g, sx⟩ := w3.own q _ hq
  exact ⟨q, xs, n, j, rfl, rfl, g, by rw [sx.length]; exact hj, k F3 (eB.trans (e1.trans (e2.trans e3))) σ F3 _ (Evl.Ex.refl F3) (s.mono (e1.trans (e2.trans e3))) (w3.setL hq (sx.set (r1.mono (e2.trans e3)) j))⟩⟩
/-- return [..]: the list is handed out as owned -/
theorem rn_retL {lp : Pos} (h : Va X es env ow ds) (hl : ds.length ≤ 100000) (k : ∀ F2 H2 q, Ex B F2 → ow q = none → Wo X.K (ou ow q (.lst ds)) F2 H2 → Dn.rt (.ref q) H2) : Rn X B (.Return (some (.List es lp)) pos :: rest) Dn env ow :=
  rn_one ⟨_, ps_ret (pe_lst pa_can), fun σ F H eB s w => h σ F H _ s w fun F1 H1 xs e1 w1 r1 => ⟨Evl.sz_of (by rw [r1.length]; exact hl), fun q hq => k F1 _ q (eB.trans e1) (w1.ofree hq) (w1.newL hq r1)⟩⟩
theorem rn_retS {ow0 : Ow} (h : Ve X e env ow d) (sub : Sub ow0 ow) (k : Post X.K ow0 B d Dn.rt) : Rn X B (.Return (some e) pos :: rest) Dn env ow := rn_ret h fun F2 H2 v e2 w2 r2 => k F2 H2 v e2 (w2.drop sub) r2
end
open PySem.Spec PyProof.Rows
section
variable {P : Program} {w : World} {K : PySem.W.Frag} {mg : Str → Option Value} {base : Heap}
def env0 (N : List Str) (ds : List D) : List (Option D) := ds.map some ++ List.replicate (N.length - ds.length) none
theorem okG {x qual : Str} {st : Stmt} {f : Addr} {fd : FuncData} {N ps : List Str} {k : Nat} {sp : Sp} (Fn : Fun K x qual st f fd) (S : FnScope N ps (defScope st)) (len : ∀ vs H Q E, sp vs H Q E → vs.length = ps.length)
    (body : ∀ (cdv : Value) (A : Around) (outer : List Env) (s : Shared) (H : Hp) (vs : List V) (Q : VK) (E : XK), γ A.guards → Room k (A.deeper (envOfC qual (defScope st) s.heap.objs.size f cdv)) → sp vs H Q E →
      ∃ B ow ds, Wo K ow B H ∧ Rps K B vs ds ∧ Rn (cxOf CX0 P w K mg base N qual (defScope st) f cdv A outer s H E).nox B (defBody st) { nx := fun _ H' => Q .non H', rt := Q } (env0 N ds) ow) : FnG γ P w K mg base CX0 (k + 1) f fd ps sp :=
  fnG_of Fn S len fun cdv A outer s H vs Q E hgd hr h => by
    obtain ⟨B, ow, ds, wo, r, q⟩ := body cdv A outer s H vs Q E hgd hr h
    exact ⟨_, pss_can.nox, q (start N vs) B H (Evl.Ex.refl B) (Sl.start r) wo⟩
/-- from data to data -/
def spR (K : PySem.W.Frag) (R : List D → D → Prop) : Sp := fun vs H Q _ => ∃ F ow ds d, Wo K ow F H ∧ Rps K F vs ds ∧ R ds d ∧ Post K ow F d Q
theorem okR {x qual : Str} {st : Stmt} {f : Addr} {fd : FuncData} {N ps : List Str} {k : Nat} {R : List D → D → Prop} (Fn : Fun K x qual st f fd) (S : FnScope N ps (defScope st)) (len : ∀ ds d, R ds d → ds.length = ps.length)
    (body : ∀ (cdv : Value) (A : Around) (outer : List Env) (s : Shared) (H B : Hp) (ow : Ow) (ds : List D) (d : D) (Q : VK) (E : XK), γ A.guards → Room k (A.deeper (envOfC qual (defScope st) s.heap.objs.size f cdv)) → R ds d → Post K ow B d Q →
      Rn (cxOf CX0 P w K mg base N qual (defScope st) f cdv A outer s H E).nox B (defBody st) { nx := fun _ H' => Q .non H', rt := Q } (env0 N ds) ow) : FnG γ P w K mg base CX0 (k + 1) f fd ps (spR K R) :=
  okG Fn S (fun vs H Q E ⟨F, ow, ds, d, wo, r, hR, _⟩ => by rw [r.length]; exact len ds d hR) fun cdv A outer s H vs Q E hgd hr ⟨F, ow, ds, d, wo, r, hR, k⟩ => ⟨F, ow, ds, wo, r, body cdv A outer s H F ow ds d Q E hgd hr hR k⟩
def CupO (ow : Ow) (c : Addr) : Prop := ∃ x y : Int, 0 ≤ x ∧ 0 ≤ y ∧ ow c = some (.lst [.int x, .int y])
def SameO (c : Addr) (ow ow' : Ow) : Prop := ∀ b o, b ≠ c → ow b = some o → ow' b = some o
theorem SameO.refl {c : Addr} {ow : Ow} : SameO c ow ow := fun _ _ _ h => h
theorem SameO.trans {c : Addr} {o1 o2 o3 : Ow} (a : SameO c o1 o2) (b : SameO c o2 o3) : SameO c o1 o3 := fun x o n h => b x o n (a x o n h)
def PostC (K : PySem.W.Frag) (ow : Ow) (c : Addr) (F : Hp) (R : D → Prop) (Q : VK) : Prop := ∀ F2 H2 ow2 v d, Ex F F2 → Wo K ow2 F2 H2 → SameO c ow ow2 → CupO ow2 c → Rp K F2 v d → R d → Q v H2
def spC (K : PySem.W.Frag) (G : List D → Prop) (R : List D → D → Prop) : Sp := fun vs H Q _ => ∃ F ow c ws ds, vs = .ref c :: ws ∧ Wo K ow F H ∧ CupO ow c ∧ Rps K F ws ds ∧ G ds ∧ PostC K ow c F (R ds) Q
theorem okC {x qual : Str} {st : Stmt} {f : Addr} {fd : FuncData} {N ps : List Str} {k : Nat} {G : List D → Prop} {R : List D → D → Prop} (Fn : Fun K x qual st f fd) (S : FnScope N ps (defScope st)) (len : ∀ ds, G ds → ds.length + 1 = ps.length)
    (body : ∀ (cdv : Value) (A : Around) (outer : List Env) (s : Shared) (H B : Hp) (ow : Ow) (c : Addr) (ds : List D) (Q : VK) (E : XK), γ A.guards → Room k (A.deeper (envOfC qual (defScope st) s.heap.objs.size f cdv)) → G ds → CupO ow c → PostC K ow c B (R ds) Q →
      Rn (cxOf CX0 P w K mg base N qual (defScope st) f cdv A outer s H E).nox B (defBody st) { nx := fun _ H' => Q .non H', rt := Q } (env0 N (.ob (.ref c) :: ds)) ow) : FnG γ P w K mg base CX0 (k + 1) f fd ps (spC K G R) :=
  okG Fn S (fun vs H Q E ⟨F, ow, c, ws, ds, e, wo, _, r, hG, _⟩ => by rw [e, List.length_cons, r.length]; exact len ds hG) fun cdv A outer s H vs Q E hgd hr ⟨F, ow, c, ws, ds, e, wo, hc, r, hG, k⟩ => by
    subst e
    exact ⟨F, ow, .ob (.ref c) :: ds, wo, .cons (.ob _) r, body cdv A outer s H F ow c ds Q E hgd hr hG hc k⟩
theorem rn_retC {X : Cx} {B B0 : Hp} {env : List (Option D)} {ow ow0 : Ow} {e : Expr} {d : D} {pos : Pos} {Dn : Ends} {rest : List Stmt} {c : Addr} {R : D → Prop} (h : Ve X e env ow d) (k : PostC X.K ow0 c B0 R Dn.rt) (eB : Ex B0 B) (hs : SameO c ow0 ow) (hc : CupO ow c) (hR : R d) :
    Rn X B (.Return (some e) pos :: rest) Dn env ow := rn_ret h fun F2 H2 v e2 w2 r2 => k F2 H2 ow v d (eB.trans e2) w2 hs hc r2 hR
/-- a draw -/
theorem vm_draw {X : Cx} {env : List (Option D)} {ow : Ow} {e : Expr} {es : List Expr} {ds : List D} {pos p : Pos} {x : Str} {f c : Addr} {fd : FuncData} {ps : List Str} {k : Nat} {G : List D → Prop} {R : List D → D → Prop} (Fn : FnG γ X.prog X.w X.K X.mg X.base CX0 k f fd ps (spC X.K G R)) (hgd : γ X.A.guards) (hr : Room k X.A) (hg : Gl X x) (hm : X.mg x = some (.ref f)) (hk : PySem.W.keepIn X.K (.ref f) = true) (hb : Binds X.K fd ps [])
    (ha : Va X (e :: es) env ow (.ob (.ref c) :: ds)) (hc : CupO ow c) (hG : G ds) (hdb : (x == ("__debug__" : Str)) = false := by decide) (he : starEach (e :: es) X.env = (false, eval e X.env) :: starEach es X.env := by rfl) (hpl : (backTo pos (starEach es X.env)).any (·.1) = false := by rfl) :
    Vm X (.Call (.Name x p) (e :: es) [] pos) env ow fun d ow2 => SameO c ow ow2 ∧ CupO ow2 c ∧ R ds d := vm_call Fn hgd hr hg hm hk hb .nil pass0 ha (fun F H vs Q w r k0 => by
  cases r with
  | cons r1 r2 =>
    cases r1
    rw [List.append_nil]
    exact ⟨F, ow, c, _, ds, rfl, w, hc, r2, hG, fun F2 H2 ow2 v d e2 w2 s2 c2 rv hR => k0 F2 H2 v d ow2 e2 w2 rv ⟨s2, c2, hR⟩⟩) hdb he hpl
end
end Vd
set_option Elab.async false
set_option linter.all false
set_option maxRecDepth 100000
set_option maxHeartbeats 4000000
namespace Vd
open PySem L2
section
variable {X : Cx} {B : Hp} {env : List (Option D)} {ow : Ow} {a b c e o i tg it elt : Expr} {es : List Expr} {d d1 d2 d3 : D} {ds l : List D} {pos : Pos} {Dn : Ends} {rest : List Stmt}
structure BinOk (X : Cx) (ow : Ow) (op : Operator) (d1 d2 d : D) : Prop where
  ex : ∃ r, OpR X (binaryOp op) r ∧ RD X.K ow r d1 d2 d
structure CmpOk (X : Cx) (ow : Ow) (op : CmpOp) (b : Expr) (d1 d2 d : D) : Prop where
  ex : ∃ r, OpR X (compareOp op) r ∧ behindInMarks op b = false ∧ RD X.K ow r d1 d2 d
structure IxOk (X : Cx) (ow : Ow) (d1 d2 d : D) : Prop where
  ex : ∃ r, IxR X r ∧ RD X.K ow r d1 d2 d
structure BiOk (X : Cx) (ow : Ow) (id : String) (ds : List D) (d : D) : Prop where
  ex : ∃ r, CallR X (.builtin id) r ∧ RC X.K ow r ds d
structure TyOk (X : Cx) (ow : Ow) (id : String) (ds : List D) (d : D) : Prop where
  ex : ∃ r, CallR X (.type id) r ∧ RC X.K ow r ds d
theorem ve_bin {op : Operator} (ha : Ve X a env ow d1) (hb : Ve X b env ow d2) (h : BinOk X ow op d1 d2 d) : Ve X (.BinOp a op b pos) env ow d := by
  obtain ⟨r, ho, hr⟩ := h
  exact ve_op ho ha hb hr
theorem ve_comp {op : CmpOp} (ha : Ve X a env ow d1) (hb : Ve X b env ow d2) (h : CmpOk X ow op b d1 d2 d) : Ve X (.Compare a [op] [b] pos) env ow d := by
  obtain ⟨r, ho, hm, hr⟩ := h
  exact ve_cmp ho hm ha hb hr
theorem vt_comp {op : CmpOp} {t : Bool} (ha : Ve X a env ow d1) (hb : Ve X b env ow d2) (h : CmpOk X ow op b d1 d2 (.bl t)) : Vt X (.Compare a [op] [b] pos) env ow t := by
  obtain ⟨r, ho, hm, hr⟩ := h
  exact vt_cmp ho hm ha hb hr
theorem ve_sub (ha : Ve X a env ow d1) (hb : Ve X b env ow d2) (hs : PlainIx b) (h : IxOk X ow d1 d2 d) : Ve X (.Subscript a b pos) env ow d := by
  obtain ⟨r, ho, hr⟩ := h
  exact ve_ix ho hs ha hb hr
/-- a built-in's call by its name: a function, or a type -/
theorem ve_bi {x : Str} {id : String} {p : Pos} (ha : Va X (e :: es) env ow ds) (hg : Gl X x) (hm : X.mg x = none) (hv : bootBuiltins x = some (.builtin id)) (h : BiOk X ow id ds d) (hn : x ≠ "__name__" := by decide) (hdb : (x == ("__debug__" : Str)) = false := by decide)
    (he : starEach (e :: es) X.env = (false, eval e X.env) :: starEach es X.env := by rfl) (hpl : (backTo pos (starEach es X.env)).any (·.1) = false := by rfl) : Ve X (.Call (.Name x p) (e :: es) [] pos) env ow d := by
  obtain ⟨r, ho, hr⟩ := h
  exact ve_cb ho hg hm hv ha hr hn hdb he hpl
theorem ve_ty {x : Str} {id : String} {p : Pos} (ha : Va X (e :: es) env ow ds) (hg : Gl X x) (hm : X.mg x = none) (hv : bootBuiltins x = some (.type id)) (h : TyOk X ow id ds d) (hn : x ≠ "__name__" := by decide) (hdb : (x == ("__debug__" : Str)) = false := by decide)
    (he : starEach (e :: es) X.env = (false, eval e X.env) :: starEach es X.env := by rfl) (hpl : (backTo pos (starEach es X.env)).any (·.1) = false := by rfl) : Ve X (.Call (.Name x p) (e :: es) [] pos) env ow d := by
  obtain ⟨r, ho, hr⟩ := h
  exact ve_ct ho hg hm hv ha hr hn hdb he hpl
theorem bo_add {i j : Int} : BinOk X ow .Add (.int i) (.int j) (.int (i + j)) := ⟨_, op_add, rd_add⟩
theorem bo_sub {i j : Int} : BinOk X ow .Sub (.int i) (.int j) (.int (i - j)) := ⟨_, op_sub, rd_sub⟩
theorem bo_mulL {i j : Int} (h : -(2 ^ 64) < i ∧ i < 2 ^ 64) : BinOk X ow .Mult (.int i) (.int j) (.int (i * j)) := ⟨_, op_mul, rd_mulL h⟩
theorem bo_mulR {i j : Int} (h : -(2 ^ 64) < j ∧ j < 2 ^ 64) : BinOk X ow .Mult (.int i) (.int j) (.int (i * j)) := ⟨_, op_mul, rd_mulR h⟩
theorem bo_div {i j : Int} (h : 0 < j) (h2 : j < 1073741824) : BinOk X ow .FloorDiv (.int i) (.int j) (.int (i / j)) := ⟨_, op_fdiv, rd_div ⟨h, h2⟩⟩
theorem bo_mod {i j : Int} (h : 0 < j) : BinOk X ow .Mod (.int i) (.int j) (.int (i % j)) := ⟨_, op_mod, rd_mod h⟩
theorem bo_pow {i j : Int} (h : 0 ≤ j) (h2 : j ≤ 1000000) (h3 : i.natAbs < 2 ^ 64) : BinOk X ow .Pow (.int i) (.int j) (.int (i ^ j.toNat)) := ⟨_, op_pow, rd_pow ⟨h, h2, h3⟩⟩
theorem bo_cat {l m : List D} (h : l.length + m.length ≤ 100000) : BinOk X ow .Add (.lst l) (.lst m) (.lst (l ++ m)) := ⟨_, op_cat, rd_cat h⟩
theorem co_lt {i j : Int} : CmpOk X ow .Lt b (.int i) (.int j) (.bl (decide (i < j))) := ⟨_, op_lt, nomark _, rd_lt⟩
theorem co_le {i j : Int} : CmpOk X ow .LtE b (.int i) (.int j) (.bl (decide (i ≤ j))) := ⟨_, op_le, nomark _, rd_le⟩
theorem co_gt {i j : Int} : CmpOk X ow .Gt b (.int i) (.int j) (.bl (decide (j < i))) := ⟨_, op_gt, nomark _, rd_gt⟩
theorem co_ge {i j : Int} : CmpOk X ow .GtE b (.int i) (.int j) (.bl (decide (j ≤ i))) := ⟨_, op_ge, nomark _, rd_ge⟩
theorem co_eqI {i j : Int} : CmpOk X ow .Eq b (.int i) (.int j) (.bl (decide (i = j))) := ⟨_, op_eq, nomark _, rd_eqI⟩
theorem co_neI {i j : Int} : CmpOk X ow .NotEq b (.int i) (.int j) (.bl (!decide (i = j))) := ⟨_, op_ne, nomark _, rd_neI⟩
theorem co_eqS {i j : Str} : CmpOk X ow .Eq b (.str i) (.str j) (.bl (decide (i = j))) := ⟨_, op_eq, nomark _, rd_eqS⟩
theorem co_neS {i j : Str} : CmpOk X ow .NotEq b (.str i) (.str j) (.bl (!decide (i = j))) := ⟨_, op_ne, nomark _, rd_neS⟩
theorem xo_own {q : Addr} {i : Int} (hq : ow q = some (.lst l)) (h : L2.atI l i = some d) : IxOk X ow (.ob (.ref q)) (.int i) d := ⟨_, ix_list, rd_ixO hq h⟩
theorem xo_lst {i : Int} (h : L2.atI l i = some d) : IxOk X ow (.lst l) (.int i) d := ⟨_, ix_list, rd_ixL h⟩
theorem xo_tup {i : Int} (h : L2.atI l i = some d) : IxOk X ow (.tup l) (.int i) d := ⟨_, ix_tup, rd_ixT h⟩
theorem xo_str {z : Str} {i : Int} {c : Nat} (hl : z.length ≤ 100000) (h : L2.atI z.cps.toList i = some c) : IxOk X ow (.str z) (.int i) (.str ⟨#[c]⟩) := ⟨_, ix_str, rd_ixS hl h⟩
theorem fo_abs {i : Int} : BiOk X ow "abs" [.int i] (.int (if i < 0 then -i else i)) := ⟨_, call_abs, rc_abs⟩
theorem fo_lenL : BiOk X ow "len" [.lst l] (.int (l.length : Nat)) := ⟨_, call_len_seq, rc_lenL⟩
theorem fo_lenT : BiOk X ow "len" [.tup l] (.int (l.length : Nat)) := ⟨_, call_len_seq, rc_lenT⟩
theorem fo_lenO {q : Addr} (hq : ow q = some (.lst l)) : BiOk X ow "len" [.ob (.ref q)] (.int (l.length : Nat)) := ⟨_, call_len_seq, rc_lenO hq⟩
theorem fo_divmod {i j : Int} (h : 0 < j) (h2 : j < 1073741824) : BiOk X ow "divmod" [.int i, .int j] (.tup [.int (i / j), .int (i % j)]) := ⟨_, call_divmod, rc_divmod ⟨h, h2⟩⟩
theorem fo_max {i j : Int} (hc : X.calm = true) : BiOk X ow "max" [.int i, .int j] (.int (if j > i then j else i)) := ⟨_, call_max2 hc, rc_max⟩
theorem fo_min {i j : Int} (hc : X.calm = true) : BiOk X ow "min" [.int i, .int j] (.int (if j < i then j else i)) := ⟨_, call_min2 hc, rc_min⟩
theorem to_int {i : Int} : TyOk X ow "int" [.int i] (.int i) := ⟨_, call_int1, rc_int1⟩
/-- cup[1], part = e: the pair's first into an owned list, the second into a slot -/
theorem rn_setiName {q : Addr} {n : Int} {j m kk : Nat} {x : Str} {sp np tp : Pos} {u v : D} (hc : X.calm = true) (h : Ve X e env ow (.tup [u, v])) (ho : Ve X o env ow (.ob (.ref q))) (hi : Ve X i env ow (.int n)) (hq : ow q = some (.lst l)) (hj : ixN l.length n = some j)
    (hN : X.N.Nodup) (hx : X.N[m]? = some x) (hl : Loc X.env.scope x) (k : ∀ B', Ex B B' → Rn X B' rest Dn (env.set m (some v)) (ou ow q (.lst (l.set j u))))
    (hs : swapsWithSole [.Tuple [.Subscript o i sp, .Name x np] kk tp] e pos.line X.env = pure false := by rfl) (hw : swappedStores [.Tuple [.Subscript o i sp, .Name x np] kk tp] e X.env = pure none := by rfl)
    (h1 : (assignEach [.Tuple [.Subscript o i sp, .Name x np] kk tp] X.env).map (·.2) = [assign (.Tuple [.Subscript o i sp, .Name x np] kk tp) X.env] := by rfl)
    (hg : PG X (.Tuple [.Subscript o i sp, .Name x np] kk tp) (gTup X.K 2 (gCons (gSub (WpE X o) (WpE X i) rSetL) (gCons (gName m) gNil)))) :
    Rn X B (.Assign [.Tuple [.Subscript o i sp, .Name x np] kk tp] e pos :: rest) Dn env ow := rn_one ⟨_, ps_asg pe_can hg hs hw h1, fun σ F H eB s w => h σ F H _ s w fun F1 H1 y e1 w1 r1 => by
  cases r1 with
  | tup g1 s1 =>
    cases s1 with
    | cons r2 s2 =>
      cases s2 with
      | cons r3 s3 =>
        cases s3
        refine ⟨_, _, rfl, Evl.ex_t w1.ex g1, rfl, _, _, rfl, ?_⟩
        refine ho σ F1 H1 _ (s.mono e1) w1 fun F2 H2 ov e2 w2 r4 => hi σ F2 H2 _ (s.mono (e1.trans e2)) w2 fun F3 H3 iv e3 w3 r5 => ?_
        cases r4
        cases r5
        obtain ⟨_, xs, g, sx⟩ := w3.own q _ hq
        exact ⟨q, xs, n, j, rfl, rfl, g, by rw [sx.length]; exact hj, _, _, rfl, rfl, k F3 (eB.trans (e1.trans (e2.trans e3))) _ F3 _ (Evl.Ex.refl F3) ((s.mono (e1.trans (e2.trans e3))).set (r3.mono (e2.trans e3)) m) (w3.setL hq (sx.set (r2.mono (e2.trans e3)) j))⟩⟩
end
end Vd
set_option Elab.async false
set_option linter.all false
set_option maxRecDepth 100000
set_option maxHeartbeats 4000000
namespace Xc
open PySem PySem.W PySem.HandSPX
section
variable {M : Model} {prog : Program} {w : World} {A : Around} {R : Result → Shared → Prop} {h : Heap} {g : Array GenState} {d : Drawn} {t : Nat} {os : OsState}
variable {nm q : Str} {C N : Addr} {bs bm bmB : List Value} {hdct : Bool} {sn : List Str} {sub : List Value} {ab : Bool} {col : Option Bool} {dd : Option Addr} {k0 k1 k2 k3 k5 : Option Value} {B newId initId : String}
variable {rest : List Value} {kw : List (Str × Value)}
local macro_rules | `(tactic| walk_at "xc step") => `(tactic| wp_step)
end
end Xc
set_option Elab.async false
set_option linter.all false
set_option maxRecDepth 100000
set_option maxHeartbeats 4000000
namespace Vd
open PySem L2
end Vd
set_option Elab.async false
set_option linter.all false
set_option maxRecDepth 100000
set_option maxHeartbeats 4000000
namespace Vd
open PySem L2
open PySem.Spec PyProof.Rows
mutual
def D.py : D → PyData
  | .non => .none
  | .bl b => .bool b
  | .int i => .int i
  | .str x => .str x
  | .lst l => .list (pyL l)
  | .rol l => .list (pyL l)
  | .tup l => .tuple (pyL l)
  | .dct _ => .none
  | .ins _ _ => .none
  | .exc _ _ => .none
  | .ob _ => .none
  | .tupF _ => .none
  | .dtp _ => .none
def pyL : List D → List PyData
  | [] => []
  | d :: l => d.py :: pyL l
end
mutual
def D.plain : D → Bool
  | .non => true
  | .bl _ => true
  | .int _ => true
  | .str _ => true
  | .lst l => plainL l
  | .rol l => plainL l
  | .tup l => plainL l
  | .dct _ => false
  | .ins _ _ => false
  | .exc _ _ => false
  | .ob _ => false
  | .tupF _ => false
  | .dtp _ => false
def plainL : List D → Bool
  | [] => true
  | d :: l => d.plain && plainL l
end
section
variable {K : PySem.W.Frag} {F H : Hp}
mutual
theorem Rp.dp (e : Ex F H) : ∀ {v : V} {d : D}, Rp K F v d → d.plain = true → Dp K H v d.py
  | _, _, .non, _ => .non
  | _, _, .bl b, _ => .bl b
  | _, _, .int i, _ => .int i
  | _, _, .str x, _ => .str x
  | _, _, .lst h r, p => .lst (SqL.of (e _ _ h)) (Rps.dp e r p)
  | _, _, .rol h r, p => .lst (Evl.ex_l e h) (Rps.dp e r p)
  | _, _, .tup h r, p => .tup (Evl.ex_t e h) (Rps.dp e r p)
  | _, _, .dct _ _, p => Bool.noConfusion (p : false = true)
  | _, _, .ins _ _, p => Bool.noConfusion (p : false = true)
  | _, _, .exc0 _, p => Bool.noConfusion (p : false = true)
  | _, _, .exc _ _ _, p => Bool.noConfusion (p : false = true)
  | _, _, .ob _, p => Bool.noConfusion (p : false = true)
  | _, _, .tupF _ _, p => Bool.noConfusion (p : false = true)
  | _, _, .dtp _ _, p => Bool.noConfusion (p : false = true)
theorem Rps.dp (e : Ex F H) : ∀ {v : List V} {d : List D}, Rps K F v d → plainL d = true → DpAll K H v (pyL d)
  | _, _, .nil, _ => .nil
  | _, _, .cons h r, p => by
    rw [plainL, Bool.and_eq_true] at p
    exact .cons (Rp.dp e h p.1) (Rps.dp e r p.2)
end
end
/-- repr(x), x plain -/
def rRpr (K : PySem.W.Frag) : List V → Hp → VK → Prop := fun xs H Q => ∃ x d, xs = [x] ∧ Dp K H x d ∧ d.showable = true ∧ d.hasDict = false ∧ d.shown.length ≤ sizeLine ∧ d.depth ≤ 64 ∧ Q (.str d.shown) H
section
variable {X : Cx}
theorem call_repr (hgd : X.A.guards = some []) (hu : X.A.units + 66 < cLine) : CallR X (.builtin "repr") (rRpr X.K) := by
  intro pins s σ H xs us Q I r h
  obtain ⟨x, d, rfl, hd, hs, hn, hz, hdp, q⟩ := h
  obtain ⟨u, rfl, r1⟩ := vals1 r
  obtain ⟨as, rd⟩ := Dp.reads I d x u hd r1
  have scal : ∀ {y : Str} {t : Tok}, y = d.shown → EP X pins σ Q (.str y t) { s with toks := s.toks + 1 } := fun {y t} e => by
    subst e
    exact ⟨.str _, H, I.tok _, ⟨_, rfl⟩, q⟩
  cases hd with
  | non =>
    cases r1
    exact PySem.P.repr_of_none (scal rfl)
  | bl b =>
    cases r1
    exact PySem.P.repr_of_bool (by cases b <;> exact scal rfl)
  | int i =>
    obtain ⟨t, rfl⟩ := r1
    exact PySem.P.repr_of_int (of_decide_eq_true hs) (scal rfl)
  | str y =>
    obtain ⟨t, rfl⟩ := r1
    exact PySem.P.repr_of_str (scal rfl) hz
  | lst h1 h2 =>
    cases r1
    exact repr_of_reads' rd hs (PyData.noDict_hsm hn) hgd (by omega) (fun _ _ e => e) (fun h' t tk hk => ⟨.str _, H, I.kept (t' := tk) hk, ⟨t, rfl⟩, q⟩) hz
  | tup h1 h2 =>
    cases r1
    exact repr_of_reads' rd hs (PyData.noDict_hsm hn) hgd (by omega) (fun _ _ e => e) (fun h' t tk hk => ⟨.str _, H, I.kept (t' := tk) hk, ⟨t, rfl⟩, q⟩) hz
end
/-- what is to be decided of data ahead of its text -/
def D.textOk (d : D) : Bool := d.plain && d.py.showable && !d.py.hasDict && decide (d.py.shown.length ≤ 100000) && decide (d.py.depth ≤ 64)
def D.eqOk (d : D) : Bool := d.plain && SeqAt.shaped d.py
section
variable {X : Cx} {B : Hp} {env : List (Option D)} {ow : Ow} {a b c e o i tg it elt : Expr} {es : List Expr} {d d1 d2 d3 : D} {ds l : List D} {pos : Pos} {Dn : Ends} {rest : List Stmt}
theorem fo_repr (hgd : X.A.guards = some []) (hu : X.A.units + 66 < cLine) (h : d.textOk = true) : BiOk X ow "repr" [d] (.str d.py.shown) := ⟨_, call_repr hgd hu, .mk fun F H xs Q w r k => by
  unfold D.textOk at h
  simp only [Bool.and_eq_true, Bool.not_eq_true', decide_eq_true_eq] at h
  obtain ⟨⟨⟨⟨h1, h2⟩, h3⟩, h4⟩, h5⟩ := h
  cases r with
  | cons r1 r2 =>
    cases r2
    exact ⟨_, d.py, rfl, r1.dp w.ex h1, h2, h3, Evl.sz_of h4, h5, k.here w (.str _)⟩⟩
theorem co_neD (hu : X.A.units + 64 < cLine) (h1 : d1.eqOk = true) (h2 : d2.eqOk = true) : CmpOk X ow .NotEq b d1 d2 (.bl (!PyData.eqv d1.py d2.py)) := ⟨_, op_neD hu, nomark _, .mk fun F H x y Q w r1 r2 k => by
  unfold D.eqOk at h1 h2
  simp only [Bool.and_eq_true] at h1 h2
  exact ⟨_, _, r1.dp w.ex h1.1, r2.dp w.ex h2.1, h1.2, h2.2, k.here w (.bl _)⟩⟩
theorem co_eqD (hu : X.A.units + 64 < cLine) (h1 : d1.eqOk = true) (h2 : d2.eqOk = true) : CmpOk X ow .Eq b d1 d2 (.bl (PyData.eqv d1.py d2.py)) := ⟨_, op_eqD hu, nomark _, .mk fun F H x y Q w r1 r2 k => by
  unfold D.eqOk at h1 h2
  simp only [Bool.and_eq_true] at h1 h2
  exact ⟨_, _, r1.dp w.ex h1.1, r2.dp w.ex h2.1, h1.2, h2.2, k.here w (.bl _)⟩⟩
def Vp (X : Cx) (e : Option Expr) (env : List (Option D)) (ow : Ow) (v : Option Int) : Prop := ∃ t, PO X e t ∧ ∀ (σ : L2.St) (F H : Hp) (Q : Option Int → Hp → Prop), Sl X.K F σ env → Wo X.K ow F H → (∀ F2 H2, Ex F F2 → Wo X.K ow F2 H2 → Q v H2) → t σ H Q
theorem vp_none : Vp X none env ow none := ⟨_, po_none, fun σ F H Q s w k => k F H (Evl.Ex.refl F) w⟩
theorem vp_some {n : Int} (h : Ve X e env ow (.int n)) : Vp X (some e) env ow (some n) := ⟨_, po_some pe_can, fun σ F H Q s w k => h σ F H _ s w fun F1 H1 v e1 w1 r1 => by
  cases r1
  exact ⟨n, rfl, k F1 H1 e1 w1⟩⟩
def cutD (l : List D) (lo hi : Option Int) : List D := (l.drop (HT.sIx l.length 0 lo)).take (HT.sIx l.length l.length hi - HT.sIx l.length 0 lo)
theorem Rps.cut {K : PySem.W.Frag} {F : Hp} {xs : List V} (r : Rps K F xs l) (lo hi : Option Int) : Rps K F (cutV xs lo hi) (cutD l lo hi) := by
  unfold cutV cutD
  rw [r.length]
  exact (r.drop _).take _
theorem ve_sliceL {lo hi : Option Expr} {vlo vhi : Option Int} {p2 : Pos} (h : Ve X e env ow (.lst l)) (h1 : Vp X lo env ow vlo) (h2 : Vp X hi env ow vhi) : Ve X (.Subscript e (.Slice lo hi none p2) pos) env ow (.lst (cutD l vlo vhi)) := .mk fun σ F H Q s w k => by
  obtain ⟨t1, p1, q1⟩ := h1
  obtain ⟨t2, p2, q2⟩ := h2
  refine wpe (pe_slice sl_list pe_can p1 p2) (h σ F H _ s w fun F1 H1 v e1 w1 r1 => q1 σ F1 H1 _ (s.mono e1) w1 fun F2 H2 e2 w2 => q2 σ F2 H2 _ (s.mono (e1.trans e2)) w2 fun F3 H3 e3 w3 => ?_)
  cases r1 with
  | lst g s1 => exact ⟨_, _, rfl, SqL.of (w3.ex _ _ ((e2.trans e3) _ _ g)), fun p hp => (k.ex ((e1.trans e2).trans e3)).new w3 hp (.lst upd_same (((s1.cut vlo vhi).mono (e2.trans e3)).mono (w3.exnew hp)))⟩
theorem ve_sliceR {lo hi : Option Expr} {vlo vhi : Option Int} {p2 : Pos} (h : Ve X e env ow (.rol l)) (h1 : Vp X lo env ow vlo) (h2 : Vp X hi env ow vhi) : Ve X (.Subscript e (.Slice lo hi none p2) pos) env ow (.lst (cutD l vlo vhi)) := .mk fun σ F H Q s w k => by
  obtain ⟨t1, p1, q1⟩ := h1
  obtain ⟨t2, p2, q2⟩ := h2
  refine wpe (pe_slice sl_list pe_can p1 p2) (h σ F H _ s w fun F1 H1 v e1 w1 r1 => q1 σ F1 H1 _ (s.mono e1) w1 fun F2 H2 e2 w2 => q2 σ F2 H2 _ (s.mono (e1.trans e2)) w2 fun F3 H3 e3 w3 => ?_)
  cases r1 with
  | rol g s1 => exact ⟨_, _, rfl, Evl.ex_l w3.ex (Evl.ex_l (e2.trans e3) g), fun p hp => (k.ex ((e1.trans e2).trans e3)).new w3 hp (.lst upd_same (((s1.cut vlo vhi).mono (e2.trans e3)).mono (w3.exnew hp)))⟩
theorem xo_rol {i : Int} (h : L2.atI l i = some d) : IxOk X ow (.rol l) (.int i) d := ⟨_, ix_list, .mk fun F H x y Q w r1 r2 k => by
  cases r2
  cases r1 with
  | rol h1 s1 =>
    obtain ⟨v, hv, rv⟩ := s1.atI h
    exact ⟨_, _, _, v, rfl, rfl, Evl.ex_l w.ex h1, hv, k.here w rv⟩⟩
theorem fo_lenR : BiOk X ow "len" [.rol l] (.int (l.length : Nat)) := ⟨_, call_len_seq, .mk fun F H xs Q w r k => by
  cases r with
  | cons r1 r2 =>
    cases r2
    cases r1 with
    | rol h1 s1 => exact ⟨_, _, rfl, .inl (Evl.ex_l w.ex h1), by rw [s1.length]; exact k.here w (.int _)⟩⟩
theorem fo_all {bs : List Bool} (hc : X.calm = true) : BiOk X ow "all" [.lst (bs.map D.bl)] (.bl (bs.all id)) := ⟨_, cr_all hc, rc_all⟩
variable {C fI : Addr} {f : Str} {B0 newId initId : String} {bmB : List Value} {fd : FuncData}
end
section
variable {X : Cx} {B : Hp} {env : List (Option D)} {ow : Ow} {a b c e o i tg it elt : Expr} {es : List Expr} {d d1 d2 d3 : D} {ds l : List D} {pos : Pos} {Dn : Ends} {rest : List Stmt}
variable {C fI : Addr} {f : Str} {B0 newId initId : String} {bmB : List Value}
/-- a class, a built-in type as values -/
theorem ve_gobj {x : Str} {C : Addr} (hg : Gl X x) (hm : X.mg x = some (.ref C)) (hx : (x == ("__debug__" : Str)) = false := by decide) : Ve X (.Name x pos) env ow (.ob (.ref C)) := ve_glob (v := .ref C) hg hm rfl (fun _ => .ob _) hx
theorem ve_bty {x : Str} {n : String} (hg : Gl X x) (hm : X.mg x = none) (hv : bootBuiltins x = some (.type n)) (hn : x ≠ "__name__" := by decide) (hx : (x == ("__debug__" : Str)) = false := by decide) : Ve X (.Name x pos) env ow (.ob (.ty n)) := .mk fun σ F H Q s w k => wpe (pe_bltn (v := .ty n) hg hm hv rfl hn hx) (k.here w (.ob _))
end
end Vd
set_option Elab.async false
set_option linter.all false
set_option maxRecDepth 100000
set_option maxHeartbeats 4000000
namespace Vd
open PySem L2
open PySem.Spec PyProof.Rows
section
variable {P : Program} {w : World} {K : PySem.W.Frag} {mg mb : Str → Option Value} {k : Nat} {fa a : Addr} {fd : FuncData} {x : Str} {sp : Sp} {s1 : Shared} {vs : List Value} {ns : List Int}
theorem law_core {H : Hp} (KX : K.In s1.heap) (hns : s1.heap.Ns mainGlobals mg) (hb : s1.heap.Ns builtinsNs mb) (hbb : ∀ x : Str, x ≠ "__name__" → mb x = bootBuiltins x) (hlim : s1.heap.NoLimit) (hg : s1.gens = #[])
    (ha : s1.heap.get? a = some { cls := .type "list", data := .seq vs.toArray }) (hr : Room k callerA) (F : ∀ base : Heap, K.In base → base.Ns mainGlobals mg → FnG gd0 P w K mg base CX0 k fa fd [x] sp) (hbind : ∀ (s : Shared) (u : Value), BindsTo s fd ⟨[u], []⟩ [(x, u)])
    (hsp : sp [.ref a] H (fun v _ => v = .bl true) E0) (hO : Only H) (hok : HOk P w H s1.heap) (hA : ∀ b u, H b = some u → b = a) (hK : ∀ u, H a = some u → K.lookup a = none) :
    codeAny (model P w) callerA (.call (.ref fa) ⟨[.ref a], []⟩) (fun r s' => r = .ok (.ret (.bool true)) ∧ OldK s1.heap s'.heap ∧ s'.os = s1.os ∧ AllBare s'.gens) s1 := by
  -- what is no list of the script's kind is not tracked
  have notDict : ∀ {b : Addr} {o : Obj} {es : Array DictEntry} {ep : Nat}, s1.heap.get? b = some o → o.data = .dict es ep → H b = none := fun {b o es ep} e q => by
    cases z : H b with
    | none => rfl
    | some u =>
      obtain rfl := hA b u z
      rw [ha] at e
      cases e
      cases q
  have keepNs : ∀ {b : Addr} {m : Str → Option Value}, s1.heap.Ns b m → (hidT s1.heap H).Ns b m := fun {b m} h => by
    obtain ⟨o, es, ep, e, q, r⟩ := h
    exact ⟨o, es, ep, hidT_get e (notDict e q), q, r⟩
  have inB : K.In (hidT s1.heap H) := fun b o e => hidT_get (KX b o e) (by
    cases z : H b with
    | none => rfl
    | some u =>
      obtain rfl := hA b u z
      rw [hK u z] at e
      cases e)
  have M : Mod K mg (hidT s1.heap H) := by
    obtain ⟨mc, l1, l2⟩ := hlim
    exact ⟨inB, keepNs hns, ⟨mb, keepNs hb, hbb⟩, ⟨mc, keepNs l1, l2⟩⟩
  have env : Env0 P w K mg (hidT s1.heap H) callerA [] s1 H := by
    refine ⟨rfl, M, fun b o e => of_hidT e, ?_, trivial, fun b z => ?_, hok, .of_eq hg⟩
    · rw [hidT_size]
      exact Nat.le_refl _
    · exact absurd (show b ∈ ([] : List Addr) from z) List.not_mem_nil
  have run := (F _ inB (keepNs hns)).run callerA [] s1 H ⟨[.ref a], []⟩ [.ref a] [.ref a] _ _ rfl hr env (hbind s1 (.ref a)) (.cons rfl .nil) hsp
  refine codeAny_mono run fun r s' h => ?_
  match r, h with
  | .ok (.ret u), h =>
    obtain ⟨v, H', os, bare, un, hok', rv, q⟩ := h
    have q' : v = .bl true := q
    subst q'
    obtain rfl : u = Value.bool true := rv
    refine ⟨rfl, OldK.of_keep fun b o e => ?_, os, bare⟩
    cases z : H b with
    | none => exact un.keep b o e z (fun y => absurd (show b ∈ ([] : List Addr) from y) List.not_mem_nil) List.not_mem_nil
    | some u =>
      rcases hO b with y | ⟨ob, xs, y⟩
      · rw [z] at y
        cases y
      · obtain ⟨e1, _⟩ := hok b _ y
        obtain ⟨e2, _⟩ := hok' b _ (un.frzs b ob _ y)
        rw [e] at e1
        cases e1
        exact e2
  | .error e, h => exact h.elim
theorem law_callG (KX : K.In s1.heap) (hns : s1.heap.Ns mainGlobals mg) (hb : s1.heap.Ns builtinsNs mb) (hbb : ∀ x : Str, x ≠ "__name__" → mb x = bootBuiltins x) (hlim : s1.heap.NoLimit) (hg : s1.gens = #[])
    (ha : s1.heap.get? a = some { cls := .type "list", data := .seq vs.toArray }) (hi : IntsAre vs ns) (hl : ns.length ≤ sizeLine) (hr : Room k callerA) (F : ∀ base : Heap, K.In base → base.Ns mainGlobals mg → FnG gd0 P w K mg base CX0 k fa fd [x] sp) (hbind : ∀ (s : Shared) (u : Value), BindsTo s fd ⟨[u], []⟩ [(x, u)])
    (hsp : ∀ H : Hp, Only H → SqL K H a (ns.map V.int) → sp [.ref a] H (fun v _ => v = .bl true) E0) :
    codeAny (model P w) callerA (.call (.ref fa) ⟨[.ref a], []⟩) (fun r s' => r = .ok (.ret (.bool true)) ∧ OldK s1.heap s'.heap ∧ s'.os = s1.os ∧ AllBare s'.gens) s1 := by
  have rv := vals_ints hi
  have len := hi.length
  cases hk : K.lookup a with
  | some o =>
    have e := KX a o hk
    rw [ha] at e
    cases e
    have hS : SqL K (fun _ => none) a (ns.map V.int) := .inr ⟨_, vs.toArray, _, hk, rfl, rfl, rfl, by rw [List.size_toArray, len]; exact hl, by simpa using rv⟩
    refine law_core (H := fun _ => none) KX hns hb hbb hlim hg ha hr F hbind (hsp _ (fun _ => .inl rfl) hS) (fun _ => .inl rfl) (fun b u z => ?_) (fun b u z => ?_) (fun u z => ?_)
    · exact absurd (show (none : Option HO) = some u from z) (fun y => nomatch y)
    · exact absurd (show (none : Option HO) = some u from z) (fun y => nomatch y)
    · exact absurd (show (none : Option HO) = some u from z) (fun y => nomatch y)
  | none =>
    have at_ : (upd (fun _ => none) a (.frz { cls := .type "list", data := .seq vs.toArray } (.lst (ns.map V.int)))) a = some (.frz { cls := .type "list", data := .seq vs.toArray } (.lst (ns.map V.int))) := upd_same
    have off : ∀ b u, (upd (fun _ => none) a (.frz { cls := .type "list", data := .seq vs.toArray } (.lst (ns.map V.int)))) b = some u → b = a := fun b u z => by
      by_cases y : b = a
      · exact y
      · rw [upd_ne y] at z
        cases z
    have hO : Only (upd (fun _ => none) a (.frz { cls := .type "list", data := .seq vs.toArray } (.lst (ns.map V.int)))) := fun b => by
      by_cases y : b = a
      · subst y
        exact .inr ⟨_, _, at_⟩
      · exact .inl (upd_ne y)
    refine law_core KX hns hb hbb hlim hg ha hr F hbind (hsp _ hO (.inl (.inr ⟨_, at_⟩))) hO (fun b u z => ?_) off (fun u z => hk)
    obtain rfl := off b u z
    rw [at_] at z
    cases z
    exact ⟨ha, by rw [List.length_map]; exact hl, vs, _, rv, ha⟩
end
/-- what a law promises: handed a list of at most 63 integers, it gives True -/
def spLaw (K : PySem.W.Frag) : Sp := fun vs H Q _ => ∃ (F : Hp) (a : Addr) (ns : List Int), vs = [.ref a] ∧ Wo K (fun _ => none) F H ∧ SqL K F a (ns.map V.int) ∧ ns.length ≤ 63 ∧ ∀ H', Q (.bl true) H'
end Vd
set_option Elab.async false
set_option linter.all false
set_option maxRecDepth 100000
set_option maxHeartbeats 4000000
namespace Vd
open PySem L2
open PySem.Spec PyProof.Rows
section
variable {X : Cx} {B : Hp} {env : List (Option D)} {ow : Ow} {a b c e o i tg it elt : Expr} {es : List Expr} {d d1 d2 d3 : D} {ds l m : List D} {pos : Pos} {Dn : Ends} {rest : List Stmt}
/-- a comprehension without a test, its result told item by item -/
theorem ve_lcZ {scope : Scope} {j : Nat} {y : Str} {py : Pos} (res : List D) (hlen : res.length = ds.length) (hc : X.calm = true) (hN : X.N.Nodup) (hi : Vi X (.Name y py) it env ow ds) (ok : BlkOk X.N X.env.scope scope [(y, j)]) (hl : ds.length ≤ 100000)
    (hg : ∀ (s : Shared) (H : Hp) (C : Addr) (cl : List (Str × Addr)) (fp : List Addr), PG (X.blk s H scope (compEnvC scope cl C X.env) fp) (.Name y py) (gName j))
    (he : ∀ (n : Nat) (d r : D) (ow' : Ow), ds[n]? = some d → res[n]? = some r → Sub ow ow' → ∀ (s : Shared) (H : Hp) (C : Addr) (cl : List (Str × Addr)) (fp : List Addr), Ve (X.blk s H scope (compEnvC scope cl C X.env) fp) elt ((env.set j none).set j (some d)) ow' r)
    (hsf : ∀ x, foldedSetIterable it X.env x = pure x := by intro _; rfl) : Ve X (.ListComp elt [⟨.Name y py, it, [], 0⟩] scope pos) env ow (.lst res) := .mk fun σ F H Q s w k0 => by
  obtain ⟨wi, pi, hw⟩ := hi
  refine wpe (pe_lc (own := [(y, j)]) (g := gName j) (tt := tYes) (te := fun σ H Q => ∀ (s : Shared) (H0 : Hp) (C : Addr) (cl : List (Str × Addr)) (fp : List Addr), WpE (X.blk s H0 scope (compEnvC scope cl C X.env) fp) elt σ H Q) hc hN pi ok hg
    (fun s0 H0 C cl fp => pts_nil) (fun s0 H0 C cl fp => ⟨fun pins s σ H Q I h => h s0 H0 C cl fp pins s I⟩) hsf) ?_
  refine hw σ F H _ s w fun J F1 H1 e1 w1 src => ?_
  intro Dl hD
  refine ⟨fun i m H => m = ds.length - i ∧ i ≤ ds.length ∧ ∃ F2 xs, Ex F1 F2 ∧ Wo X.K ow F2 H ∧ F2 Dl = none ∧ ow Dl = none ∧ H Dl = some (.lst xs) ∧ Rps X.K F2 xs (res.take i), ⟨ds.length, by simp, Nat.zero_le _, F1, [], Evl.Ex.refl F1, w1.grow hD, w1.free hD, w1.ofree hD, upd_same, .nil⟩, ?_⟩
  rintro i m H2 ⟨rfl, hi, F2, xs, e2, w2, hF2, hoD, hH2, r2⟩
  by_cases hlt : i < ds.length
  · have hdi : ds[i]? = some ds[i] := by simp [hlt]
    have hlr : i < res.length := by rw [hlen]; exact hlt
    have hri : res[i]? = some res[i] := by simp [hlr]
    have htk : res.take (i + 1) = res.take i ++ [res[i]] := by rw [List.take_add_one, hri]; rfl
    have w2' : Wo X.K (ou ow Dl (.lst (res.take i))) F2 H2 := ⟨w2.ex, fun a o q => by
      by_cases z : a = Dl
      · subst z
        rw [ou_same] at q
        cases q
        exact ⟨hF2, xs, hH2, r2⟩
      · rw [ou_ne z] at q
        exact w2.own a o q⟩
    obtain ⟨stop', go'⟩ := src F2 H2 _ i e2 w2'
    obtain ⟨hgo, hy'⟩ := go' ds[i] hdi
    refine .inr ⟨hgo, fun H3 => ∃ F3 xs, Ex F1 F3 ∧ Wo X.K ow F3 H3 ∧ F3 Dl = none ∧ ow Dl = none ∧ H3 Dl = some (.lst xs) ∧ Rps X.K F3 xs (res.take (i + 1)), fun H3 q => ⟨ds.length - (i + 1), by omega, rfl, hlt, q⟩, fun x H3 hx => ?_⟩
    obtain ⟨F3, e3, w3', r3⟩ := hy' x H3 hx
    have sub : Sub ow (ou ow Dl (.lst (res.take i))) := fun a o q => by
      rw [ou_ne (fun z => by rw [z, hoD] at q; cases q)]
      exact q
    have sl : Sl X.K F3 ((L2.wipe σ [j]).set j (some x)) ((env.set j none).set j (some ds[i])) := (((s.mono (e1.trans (e2.trans e3))).unset j).set r3 j)
    refine ⟨wipe_one, ?_⟩
    unfold tYes
    simp only [if_true]
    intro s1 H01 C1 cl1 fp1
    refine he i ds[i] res[i] _ hdi hri sub s1 H01 C1 cl1 fp1 _ F3 H3 _ sl w3' fun F5 H5 y e5 w5 r5 => ?_
    obtain ⟨n5, ys, h5, s5⟩ := w5.own Dl _ ou_same
    refine ⟨ys, h5, ?_, F5, ys ++ [y], e2.trans (e3.trans e5), ?_, n5, hoD, upd_same, ?_⟩
    · have z := s5.length
      rw [List.length_take] at z
      exact Evl.sz_lt (by omega)
    · exact (w5.setL ou_same (s5.append (.cons r5 .nil))).drop fun a o q => by
        rw [ou_ne (fun z => by rw [z, hoD] at q; cases q)]
        exact sub a o q
    · rw [htk]
      exact s5.append (.cons r5 .nil)
  · have e : i = ds.length := by omega
    subst e
    obtain ⟨stop, _⟩ := src F2 H2 ow ds.length e2 w2
    refine .inl ⟨stop (Nat.le_refl _), ?_⟩
    rw [← hlen, List.take_length] at r2
    exact k0 (upd F2 Dl (.lst xs)) H2 _ ((e1.trans e2).trans (Evl.Ex.new hF2)) (w2.freeze hF2 hH2 hoD) (.lst upd_same (r2.mono (Evl.Ex.new hF2)))
mutual
theorem py_plain : ∀ d : D, d.plain = true → d.py.plain = true
  | .non, _ => rfl
  | .bl _, _ => rfl
  | .int _, _ => rfl
  | .str _, _ => rfl
  | .lst l, h => pyL_plain l h
  | .rol l, h => pyL_plain l h
  | .tup l, h => pyL_plain l h
theorem pyL_plain : ∀ l : List D, plainL l = true → PyData.plainAll (pyL l) = true
  | [], _ => rfl
  | d :: l, h => by
    rw [plainL, Bool.and_eq_true] at h
    show (d.py.plain && PyData.plainAll (pyL l)) = true
    rw [py_plain d h.1, pyL_plain l h.2]
    rfl
end
theorem eqv_self {d : D} (h : d.eqOk = true) : PyData.eqv d.py d.py = true := by
  unfold D.eqOk at h
  rw [Bool.and_eq_true] at h
  exact PySem.SeqAt.eqv_refl_plain _ (py_plain d h.1)
theorem co_neR (hu : X.A.units + 64 < cLine) (h : d.eqOk = true) : CmpOk X ow .NotEq b d d (.bl false) := by
  have z := co_neD (b := b) (ow := ow) hu h h
  rw [eqv_self h] at z
  exact z
theorem bo_to {op : Operator} (h : BinOk X ow op d1 d2 d) (q : d = d3) : BinOk X ow op d1 d2 d3 := q ▸ h
theorem co_to {op : CmpOp} (h : CmpOk X ow op b d1 d2 d) (q : d = d3) : CmpOk X ow op b d1 d2 d3 := q ▸ h
end
section
variable {K : PySem.W.Frag}
def spCup (K : PySem.W.Frag) : Sp := fun vs H Q _ => ∃ (F : Hp) (ow : Ow) (v : V) (ns : List Int) (n : Nat), vs = [v, .int n] ∧ Wo K ow F H ∧ Rp K F v (.rol (ns.map D.int)) ∧ ∀ F' H' q x y, Ex F F' → ow q = none → Wo K (ou ow q (.lst [.int x, .int y])) F' H' → 0 ≤ x → 0 ≤ y → Q (.ref q) H'
variable {X : Cx} {env : List (Option D)} {ow : Ow} {es1 : Expr} {e1 e2 : Expr} {pos pos2 p p2 : Pos} {x1 x2 : Str} {f1 f2 : Addr} {fd1 fd2 : FuncData} {ps1 ps2 : List Str} {k1 k2 : Nat} {ns : List Int} {n : Nat}
/-- right(cup(script, spot)) -/
theorem ve_right {G : List D → Prop} {R : List D → D → Prop} {d : D} (F2 : FnG γ X.prog X.w X.K X.mg X.base CX0 k2 f2 fd2 ps2 (spC X.K G R)) (F1 : FnG γ X.prog X.w X.K X.mg X.base CX0 k1 f1 fd1 ps1 (spCup X.K)) (hgd : γ X.A.guards) (hr1 : Room k1 X.A) (hr2 : Room k2 X.A) (hg1 : Gl X x1) (hg2 : Gl X x2) (hm1 : X.mg x1 = some (.ref f1)) (hm2 : X.mg x2 = some (.ref f2))
    (hk1 : PySem.W.keepIn X.K (.ref f1) = true) (hk2 : PySem.W.keepIn X.K (.ref f2) = true) (hb1 : Binds X.K fd1 ps1 []) (hb2 : Binds X.K fd2 ps2 []) (h1 : Ve X e1 env ow (.rol (ns.map D.int))) (h2 : Ve X e2 env ow (.int n)) (hG : G []) (hR : ∀ d', R [] d' → d' = d)
    (hd1 : (x1 == ("__debug__" : Str)) = false := by decide) (hd2 : (x2 == ("__debug__" : Str)) = false := by decide) (st1 : starEach (e1 :: [e2]) X.env = (false, eval e1 X.env) :: starEach [e2] X.env := by rfl) (st1' : starEach (e2 :: []) X.env = (false, eval e2 X.env) :: starEach [] X.env := by rfl)
    (pl1 : (backTo pos (starEach [e2] X.env)).any (·.1) = false := by rfl) (st2 : starEach (Expr.Call (.Name x1 p) [e1, e2] [] pos :: []) X.env = (false, eval (.Call (.Name x1 p) [e1, e2] [] pos) X.env) :: starEach [] X.env := by rfl) (pl2 : (backTo pos2 (starEach [] X.env)).any (·.1) = false := by rfl) :
    Ve X (.Call (.Name x2 p2) [.Call (.Name x1 p) [e1, e2] [] pos] [] pos2) env ow d := .mk fun σ F H Q s w k => by
  refine wpe (pe_callG F2 hgd hr2 hg2 hm2 hk2 hb2 .nil pass0 (pa_cons (pe_callG F1 hgd hr1 hg1 hm1 hk1 hb1 .nil pass0 (pa_cons pe_can (pa_cons pe_can pa_nil st1') st1) hd1 st1 pl1) pa_nil st2) hd2 st2 pl2) ?_
  refine h1 σ F H _ s w fun Fa Ha v e1 w1 r1 => h2 σ Fa Ha _ (s.mono e1) w1 fun Fb Hb u e2 w2 r2 => ?_
  cases r2
  refine ⟨Fb, ow, v, ns, n, rfl, w2, r1.mono e2, fun Fc Hc q x y e3 hq w3 hx hy => ?_⟩
  refine ⟨Fc, ou ow q (.lst [.int x, .int y]), q, [], [], rfl, w3, ⟨x, y, hx, hy, ou_same⟩, .nil, hG, fun Fd Hd ow2 z d' e4 w4 s4 c4 r4 hd => ?_⟩
  obtain rfl := hR d' hd
  refine k Fd Hd z (((e1.trans e2).trans e3).trans e4) (w4.drop fun b o hb => ?_) r4
  have hbq : b ≠ q := fun y => by
    rw [y, hq] at hb
    cases hb
  exact s4 b o hbq (by rw [ou_ne hbq]; exact hb)
end
end Vd
set_option Elab.async false
set_option linter.all false
set_option maxRecDepth 100000
set_option maxHeartbeats 4000000
namespace Vd
open PySem L2
open PySem.Spec PyProof.Rows
end Vd
set_option Elab.async false
set_option linter.all false
set_option maxRecDepth 100000
set_option maxHeartbeats 4000000
namespace Vd
open PySem L2
open PySem.Spec PyProof.Rows
def D.kind : D → Option String
  | .non => some "NoneType"
  | .bl _ => some "bool"
  | .int _ => some "int"
  | .str _ => some "str"
  | .lst _ => some "list"
  | .rol _ => some "list"
  | .tup _ => some "tuple"
  | .dct _ => some "dict"
  | .ins _ _ => none
  | .exc _ _ => none
  | .ob _ => none
  | .tupF _ => none
  | .dtp _ => none
theorem SqL.ty {K : PySem.W.Frag} {H : Hp} {a : Addr} {xs : List V} (h : SqL K H a xs) : TyX K H (.ref a) (.type "list") := by
  rcases h with (h | ⟨o, h⟩) | ⟨o, vs, n, h, c, _⟩
  · exact .base (.lst h)
  · exact .base (.frz h)
  · exact .kList h c
theorem SqT.ty {K : PySem.W.Frag} {H : Hp} {a : Addr} {xs : List V} (h : SqT K H a xs) : TyX K H (.ref a) (.type "tuple") := by
  rcases h with (h | ⟨o, h⟩) | ⟨o, vs, n, h, c, _⟩
  · exact .base (.tup h)
  · exact .fTuple h
  · exact .kTuple h c
theorem Rp.ty {K : PySem.W.Frag} {F H : Hp} {v : V} {d : D} {t : String} (r : Rp K F v d) (e : Ex F H) (h : d.kind = some t) : TyX K H v (.type t) := by
  cases r with
  | non => cases h; exact .base .non
  | bl b => cases h; exact .base (.bl b)
  | int i => cases h; exact .base (.int i)
  | str x => cases h; exact .base (.str x)
  | lst g _ => cases h; exact .base (.lst (e _ _ g))
  | rol g _ => cases h; exact SqL.ty (Evl.ex_l e g)
  | tup g _ => cases h; exact SqT.ty (Evl.ex_t e g)
  | dct g _ => cases h; exact .base (.dK (e _ _ g))
  | ins _ _ => cases h
  | exc0 _ => cases h
  | exc _ _ _ => cases h
  | ob _ => cases h
  | tupF _ _ => cases h
  | dtp _ _ => cases h
section
variable {X : Cx} {env : List (Option D)} {ow : Ow} {d : D} {t u : String} {b : Bool}
theorem fo_isT (hk : d.kind = some t) (h : kitB t u = some b) : BiOk X ow "isinstance" [d, .ob (.ty u)] (.bl b) := ⟨_, call_isi, .mk fun F H xs Q w r k => by
  cases r with
  | cons r1 r2 =>
    cases r2 with
    | cons r3 r4 =>
      cases r4
      cases r3
      exact ⟨_, .ty u, _, _, b, rfl, .ty u, r1.ty w.ex hk, kit_ty h, k.here w (.bl _)⟩⟩
end
/-- an integer of the document: an int other than True and False -/
def D.isInt : D → Bool
  | .int _ => true
  | _ => false
def D.anInt : D → Bool
  | .int _ => true
  | .bl _ => true
  | _ => false
def D.aBool : D → Bool
  | .bl _ => true
  | _ => false
theorem fo_isInt {X : Cx} {ow : Ow} : ∀ {d : D} (hk : d.kind.isSome = true), BiOk X ow "isinstance" [d, .ob (.ty "int")] (.bl d.anInt)
  | .non , _ => fo_isT (b := false) rfl (by decide +kernel)
  | .bl _, _ => fo_isT (b := true) rfl (by decide +kernel)
  | .int _, _ => fo_isT (b := true) rfl (by decide +kernel)
  | .str _, _ => fo_isT (b := false) rfl (by decide +kernel)
  | .lst _, _ => fo_isT (b := false) rfl (by decide +kernel)
  | .rol _, _ => fo_isT (b := false) rfl (by decide +kernel)
  | .tup _, _ => fo_isT (b := false) rfl (by decide +kernel)
  | .dct _, _ => fo_isT (b := false) rfl (by decide +kernel)
  | .ins _ _, hk => nomatch hk
  | .exc _ _, hk => nomatch hk
  | .ob _, hk => nomatch hk
  | .tupF _, hk => nomatch hk
  | .dtp _, hk => nomatch hk
theorem fo_isBool {X : Cx} {ow : Ow} : ∀ {d : D} (hk : d.kind.isSome = true), BiOk X ow "isinstance" [d, .ob (.ty "bool")] (.bl d.aBool)
  | .non , _ => fo_isT (b := false) rfl (by decide +kernel)
  | .bl _, _ => fo_isT (b := true) rfl (by decide +kernel)
  | .int _, _ => fo_isT (b := false) rfl (by decide +kernel)
  | .str _, _ => fo_isT (b := false) rfl (by decide +kernel)
  | .lst _, _ => fo_isT (b := false) rfl (by decide +kernel)
  | .rol _, _ => fo_isT (b := false) rfl (by decide +kernel)
  | .tup _, _ => fo_isT (b := false) rfl (by decide +kernel)
  | .dct _, _ => fo_isT (b := false) rfl (by decide +kernel)
  | .ins _ _, hk => nomatch hk
  | .exc _ _, hk => nomatch hk
  | .ob _, hk => nomatch hk
  | .tupF _, hk => nomatch hk
  | .dtp _, hk => nomatch hk
theorem fo_isTup {X : Cx} {ow : Ow} {l : List D} : BiOk X ow "isinstance" [.tup l, .ob (.ty "tuple")] (.bl true) := fo_isT rfl (by decide +kernel)
end Vd
set_option Elab.async false
set_option linter.all false
set_option maxRecDepth 100000
set_option maxHeartbeats 4000000
namespace Vd
open PySem L2
open PySem.Spec PyProof.Rows
set_option maxHeartbeats 8000000 in
theorem enum_made {v : Value} {o : Obj} {Z : Heap → Prop} (B : Begins v o Z) :
    Meets (Builtin.«enumerate.__new__» ⟨[.type "enumerate", v], []⟩) (fun _ R s => Z s.heap ∧
      R (.ok (.ret (.ref (s.heap.push o).objs.size))) { s with heap := Heap.push (s.heap.push o) { cls := .type "enumerate", data := .fields #[.none, .bool false, .ref s.heap.objs.size, rawInt 0, .none, .none] } }) :=
  .of_wp fun P w A R s hyp => by
    obtain ⟨hp, gn, dr, tok, osv⟩ := s
    obtain ⟨z1, z2⟩ := hyp
    have below := sub_enumerate
    have step : ∀ {A2 : Around} {E2 : Value → Shared → Prop} {Q2 : Value → Shared → Prop}, Q2 (.ref hp.objs.size) ⟨hp.push o, gn, dr, tok, osv⟩ → wpAny (model P w) A2 (pyIter v) Q2 E2 ⟨hp, gn, dr, tok, osv⟩ :=
      fun z => B.iter P w _ _ ⟨hp, gn, dr, tok, osv⟩ _ z1 z
    wp_walk using step
    refine wpAny_stack_any fun stk => wpAny_pure ?_
    split
    · rename_i c _ _ _ _ _
      cases (c == Value.type "enumerate") <;> (wp_walk using step; exact ⟨_, rfl, z2⟩)
    · (wp_walk using step; exact ⟨_, rfl, z2⟩)
section
variable {P : Program} {w : World} {A : Around} {E : Value → Shared → Prop} {s : Shared}
theorem enum_call {v : Value} {o : Obj} {Z : Heap → Prop} {Q : Value → Shared → Prop} (B : Begins v o Z) (z : Z s.heap)
    (k : ∀ h', IsEnum h' (s.heap.objs.size + 1) s.heap.objs.size 0 .none → h'.get? s.heap.objs.size = some o → (∀ b ob, s.heap.get? b = some ob → h'.get? b = some ob) → Q (.ref (s.heap.objs.size + 1)) { s with heap := h' }) :
    wpAny (model P w) A (call (.type "enumerate") [v]) Q E s := by
  refine callType_new F.called_enumerate (by decide) (F.typeCall_enumerate_1 _) (F.newCall_enumerate_1 _) (fun obj => F.args_object_init_2 obj _) F.entry_enumerate_new (enum_made B) ⟨z, ?_⟩
  have size1 : Array.size (Heap.objs (s.heap.push o)) = s.heap.objs.size + 1 := Heap.size_push ..
  show _ ∧ _
  rw [size1]
  have ie : IsEnum (Heap.push (s.heap.push o) { cls := .type "enumerate", data := .fields #[.none, .bool false, .ref s.heap.objs.size, rawInt 0, .none, .none] }) (s.heap.objs.size + 1) s.heap.objs.size 0 .none := by
    have y := Heap.get?_push_size (s.heap.push o) (o := { cls := .type "enumerate", data := .fields #[.none, .bool false, .ref s.heap.objs.size, rawInt 0, .none, .none] }) rfl
    rw [size1] at y
    exact y
  exact ⟨⟨_, ie, rfl⟩, k _ ie (Heap.get?_push_of_some _ (Heap.get?_push_size _ B.free)) fun b ob x => Heap.get?_push_of_some _ (Heap.get?_push_of_some _ x)⟩
end
/-- an iterator that has come to the end -/
theorem over {P : Program} {w : World} {A : Around} (hh : A.handled = none) (it t : Addr) (hne : t ≠ it) (items : Array Value) (n : Nat) (out : items[n]? = none) :
    Draws P w A it [it, t] n (fun _ _ => False) (fun j h => j = n ∧ h.IsTupleIter it t j ∧ h.IsTuple t items) where
  live := fun _ _ st => let ⟨o, ho, _⟩ := st.2.1; ⟨o, ho⟩
  frame := fun _ _ _ st hk => ⟨st.1, st.2.1.at fun o e => hk it (by simp) o e, st.2.2.at fun o e => hk t (by simp) o e⟩
  item := fun i s Q E hi st _ => absurd st.1 (by omega)
  done := fun s Q E st hE => wpAny_nextOf_tuple_end hh st.2.1 st.2.2 out hE
/-- the tuple at a, its items in new pairs -/
def IteT (K : PySem.W.Frag) (a : Addr) : It :=
  ⟨fun i H => ∃ (xs : List V) (x : V), SqT K H a xs ∧ xs[i]? = some x, fun i H v H' => ∃ T x, v = .ref T ∧ H T = none ∧ H' = upd H T (.tup [.int (i : Nat), x]) ∧ ∀ xs, SqT K H a xs → xs[i]? = some x, fun i H => ∃ xs : List V, SqT K H a xs ∧ xs.length ≤ i⟩
theorem turn_enumT {P : Program} {w : World} {K : PySem.W.Frag} {elts : List Expr} {kk : Nat} {tpos : Pos} (a e it : Addr) :
    L2.Turn P w K (.Tuple elts kk tpos) (IteT K a) [e, it] e (fun i h => (∃ old, IsEnum h e it ((i : Nat) : Int) old) ∧ h.IsTupleIter it a i ∧ e ≠ it ∧ a ≠ it ∧ a ≠ e) where
  mem := by simp
  obj := fun i h st b hb => by
    obtain ⟨⟨old, ie⟩, ⟨o, ho, hc, hd⟩, _⟩ := st
    rcases (show b = e ∨ b = it by simpa using hb) with z | z
    · subst z
      exact ⟨_, ie, fun v q => nomatch q⟩
    · subst z
      exact ⟨o, ho, fun v q => by rw [hd] at q; cases q⟩
  keep := fun i h h' st k => by
    obtain ⟨⟨old, ie⟩, ti, ne⟩ := st
    exact ⟨⟨old, k e (by simp) _ ie⟩, ti.at fun o q => k it (by simp) o q, ne⟩
  item := by
    intro X hP hw hK hc i pins s σ H E I hf st hg
    subst hP
    subst hw
    subst hK
    obtain ⟨⟨old, ie⟩, ti, ne, na, nae⟩ := st
    obtain ⟨xs, x, hq, hx⟩ := hg
    obtain ⟨its, rv, p, hz⟩ := I.tuple hq
    obtain ⟨u, hu, ru⟩ := rv.get hx
    have le : e < s.heap.objs.size := Heap.lt_size ie
    have li : it < s.heap.objs.size := by
      obtain ⟨_, q, _⟩ := ti
      exact Heap.lt_size q
    have isT : s.heap.IsTuple a its.toArray := p
    have lt : i < its.toArray.size := by
      have z := (List.getElem?_eq_some_iff.mp hu).1
      simpa using z
    refine wpAny_pyNext_enum_itemD (Draws.tuple (by exact I.ok.hd hc) it a na its.toArray) ie ⟨ti, isT⟩ lt ne (by simp [ne, Ne.symm nae]) fun u2 h' tk hP ho st' hT hsz hk => ?_
    obtain rfl : u2 = u := by
      have z : its.toArray[i]? = some u := by simpa using hu
      rw [z] at hP
      exact (Option.some.inj hP).symm
    obtain ⟨ti', _⟩ := st'
    refine ⟨_, rfl, wpAny_letOwnedTupleGo_enum (s := { s with heap := h', toks := tk + 1 }) ho fun h2 ie2 sb => ?_⟩
    have hT2 : h2.get? s.heap.objs.size = some { cls := .type "tuple", data := .seq #[.int i tk, u2] } := (sb.2 _ (Nat.ne_of_gt le)).trans hT
    have new : ObjOk X.prog X.w (upd H s.heap.objs.size (.tup [.int (i : Nat), x])) h2 s.heap.objs.size (.tup [.int (i : Nat), x]) :=
      ⟨by show 2 ≤ sizeLine; decide, [.int i tk, u2], .cons ⟨_, rfl⟩ (.cons ru .nil), ⟨_, hT2, rfl, _, rfl⟩⟩
    have J : Inv X pins σ (upd H s.heap.objs.size (.tup [.int (i : Nat), x])) { s with heap := h2, toks := tk + 1 } := by
      refine I.turnedNew (ch := [e, it]) (fun b ob hb q => ?_) hf (Nat.le_refl _) new
      have n1 : b ≠ e := fun z => hb (by simp [z])
      have n2 : b ≠ it := fun z => hb (by simp [z])
      exact (sb.2 b n1).trans (hk b ob n1 n2 q)
    refine ⟨.ref s.heap.objs.size, _, J, rfl, ⟨_, x, rfl, I.hok.fresh (Nat.le_refl _), rfl, fun ys hy => by rw [I.tuple_inj hy hq]; exact hx⟩, ⟨⟨u2, ?_⟩, ti'.at fun o q => (sb.2 it (Ne.symm ne)).trans q, ne, na, nae⟩, fun b hb => ?_⟩
    · have one : (i : Int) + 1 = ((i + 1 : Nat) : Int) := by omega
      rw [← one]
      exact ie2
    · have lb : b < s.heap.objs.size := by
        rcases (show b = e ∨ b = it by simpa using hb) with z | z <;> (rw [z]; assumption)
      rw [upd_ne (Nat.ne_of_lt lb)]
      exact (hf b hb).1
  done := by
    intro X hP hw hK hc i pins s σ H E I hf st hg
    subst hP
    subst hw
    subst hK
    obtain ⟨⟨old, ie⟩, ti, ne, na, nae⟩ := st
    obtain ⟨xs, hq, hx⟩ := hg
    obtain ⟨its, rv, p, hz⟩ := I.tuple hq
    obtain ⟨f0, f1, f2, f3, f4, f5⟩ := hf it (by simp)
    have hl := rv.length
    have isT : s.heap.IsTuple a its.toArray := p
    have out : its.toArray[i]? = none := by
      have z : its[i]? = none := List.getElem?_eq_none_iff.mpr (by omega)
      simpa using z
    have D := over (P := X.prog) (w := X.w) (A := X.A.in1) (by exact I.ok.hd hc) it a na its.toArray i out
    exact wpAny_pyNext_enum_endD D ie ⟨rfl, ti, isT⟩ fun h' eb => ⟨rfl, I.turned (t' := s.toks) (fun b o hb q => eb b o hb q) f0 f1 f3 f4 f5⟩
  self := fun A i s Q E st h => by
    obtain ⟨⟨old, ie⟩, _⟩ := st
    exact wpAny_pyIter_enum ie h
def iEnumT (K : PySem.W.Frag) (ta : TA) : TI := fun σ H R => ta σ H fun vs H1 => ∃ a xs, vs = [.ref a] ∧ SqT K H1 a xs ∧ R (IteT K a) H1
theorem pi_enumT {X : Cx} {e : Expr} {ta : TA} {p pos tpos : Pos} {elts : List Expr} {kk : Nat} (hg : Gl X "enumerate") (hm : X.mg "enumerate" = none) (ha : PA X [e] ta) (hs : starEach [e] X.env = [(false, eval e X.env)] := by rfl) :
    PI X (.Tuple elts kk tpos) (.Call (.Name "enumerate" p) [e] [] pos) (iEnumT X.K ta) := by
  refine ⟨fun pins s σ H R I h => Call_ (ld_blt I hg hm boot_enumerate (PyProof.Rows.callWith_type1 (thn (ha.run pos pins s σ H _ I h) fun us s1 ⟨vs, H1, I1, r1, q1⟩ => ?_) hs rfl))⟩
  obtain ⟨a, xs, rfl, hq, q⟩ := q1
  cases r1 with
  | cons r rr =>
    cases rr
    cases r
    obtain ⟨its, rv, p', hz⟩ := I1.tuple hq
    have isT : s1.heap.IsTuple a its.toArray := p'
    have la : a < s1.heap.objs.size := by
      obtain ⟨o, ho, _⟩ := isT
      exact Heap.lt_size ho
    refine enum_call (begins_tuple a its.toArray) isT fun h' ie hit hk => wpAny_pyIter_enum ie ?_
    have J : Inv X pins σ H1 { s1 with heap := h' } := I1.kept (t' := s1.toks) hk
    refine ⟨s1.heap.objs.size + 1, [s1.heap.objs.size + 1, s1.heap.objs.size], _, _, H1, rfl, J, turn_enumT a (s1.heap.objs.size + 1) s1.heap.objs.size, ⟨⟨.none, ie⟩, ⟨_, hit, rfl, rfl⟩, Nat.succ_ne_self _, Nat.ne_of_lt la, Nat.ne_of_lt (Nat.lt_succ_of_lt la)⟩, fun b hb => ?_, q⟩
    have ge : s1.heap.objs.size ≤ b := by
      rcases (show b = s1.heap.objs.size + 1 ∨ b = s1.heap.objs.size by simpa using hb) with z | z
      · rw [z]
        exact Nat.le_succ _
      · rw [z]
        exact Nat.le_refl _
    exact I1.fpOk ge (I1.hok.fresh ge)
theorem src_enumT {K : PySem.W.Frag} {F1 : Hp} {a : Addr} {xs : List V} {ds : List D} (h : SqT K F1 a xs) (r : Rps K F1 xs ds) : Src K (IteT K a) F1 (enumD 0 ds) := fun F H ow i e w => by
  have hq : SqT K H a xs := Evl.ex_t w.ex (Evl.ex_t e h)
  refine ⟨fun hl => ⟨xs, hq, by rw [enumD_len] at hl; rw [r.length]; exact hl⟩, fun d hd => ?_⟩
  obtain ⟨d2, hd2, rfl⟩ := enumD_get hd
  obtain ⟨y, h1, h2⟩ := r.get hd2
  refine ⟨⟨xs, y, hq, h1⟩, fun v H' hy => ?_⟩
  obtain ⟨T, x, rfl, hT, rfl, hy⟩ := hy
  have z := hy xs hq
  rw [h1] at z
  cases z
  refine ⟨_, w.exnew hT, w.new hT, .tup (SqT.of upd_same) (.cons ?_ (.cons ((h2.mono e).mono (w.exnew hT)) .nil))⟩
  rw [Nat.zero_add]
  exact .int _
theorem vi_enumT {X : Cx} {env : List (Option D)} {ow : Ow} {a : Expr} {ds : List D} {pos p tpos : Pos} {elts : List Expr} {kk : Nat} (hg : Gl X "enumerate") (hm : X.mg "enumerate" = none) (h : Ve X a env ow (.tup ds)) (hs : starEach [a] X.env = [(false, eval a X.env)] := by rfl) :
    Vi X (.Tuple elts kk tpos) (.Call (.Name "enumerate" p) [a] [] pos) env ow (enumD 0 ds) :=
  ⟨_, pi_enumT hg hm pa_can hs, fun σ F H R s w k => va_cons h va_nil hs σ F H _ s w fun F1 H1 vs e1 w1 r1 => by
    cases r1 with
    | cons r2 r3 =>
      cases r3
      cases r2 with
      | tup h1 s1 => exact ⟨_, _, rfl, Evl.ex_t w1.ex h1, k _ F1 H1 e1 w1 (src_enumT h1 s1)⟩⟩
theorem ve_chain {X : Cx} {env : List (Option D)} {ow : Ow} {a b c : Expr} {op op2 : CmpOp} {d1 d2 d3 d : D} {t : Bool} {pos : Pos} {r r2 : R2} (ho : OpR X (compareOp op) r) (ho2 : OpR X (compareOp op2) r2) (ha : Ve X a env ow d1) (hb : Ve X b env ow d2) (hr : RD X.K ow r d1 d2 (.bl t))
    (hf : t = false → d = .bl false) (hc : t = true → Ve X c env ow d3) (hr2 : t = true → RD X.K ow r2 d2 d3 d) (hm : lastMarks [op, op2] [b, c] = false := by rfl) : Ve X (.Compare a [op, op2] [b, c] pos) env ow d := .mk fun σ F H Q s w k =>
  wpe (pe_chain ho ho2 pe_can pe_can pe_can (hm := hm)) (ha σ F H _ s w fun F1 H1 x e1 w1 r1 => hb σ F1 H1 _ (s.mono e1) w1 fun F2 H2 y e2 w2 r2' => hr F2 H2 x y _ w2 (r1.mono e2) r2' fun F3 H3 z e3 w3 r3 => by
    cases r3
    refine ⟨t, rfl, ?_⟩
    cases t with
    | true =>
      rw [if_pos rfl]
      exact hc rfl σ F3 H3 _ (s.mono (e1.trans (e2.trans e3))) w3 fun F4 H4 u e4 w4 r4 => hr2 rfl F4 H4 y u Q w4 (r2'.mono (e3.trans e4)) r4 (k.ex (e1.trans (e2.trans (e3.trans e4))))
    | false =>
      rw [if_neg Bool.false_ne_true]
      obtain rfl := hf rfl
      exact k.ex (e1.trans (e2.trans e3)) |>.here w3 (.bl false))
theorem ve_between {X : Cx} {env : List (Option D)} {ow : Ow} {a b c : Expr} {lo i hi : Int} {pos : Pos} (ha : Ve X a env ow (.int lo)) (hb : Ve X b env ow (.int i)) (hc : Ve X c env ow (.int hi)) : Ve X (.Compare a [.LtE, .LtE] [b, c] pos) env ow (.bl (decide (lo ≤ i ∧ i ≤ hi))) :=
  ve_chain (t := decide (lo ≤ i)) op_le op_le ha hb rd_le (fun h => by
    have z := of_decide_eq_false h
    rw [decide_eq_false (fun y => z y.1)]) (fun _ => hc) (fun h => by
    have z := of_decide_eq_true h
    have e : decide (lo ≤ i ∧ i ≤ hi) = decide (i ≤ hi) := by simp [z]
    rw [e]
    exact rd_le) (nomark _)
end Vd
set_option Elab.async false
set_option linter.all false
set_option maxRecDepth 100000
set_option maxHeartbeats 4000000
namespace Vd
open PySem L2
open PySem.Spec PyProof.Rows
section
variable {X : Cx} {B : Hp} {env : List (Option D)} {ow : Ow} {a b c e o i : Expr} {es : List Expr} {d d1 d2 d3 : D} {ds l m : List D} {pos : Pos} {Dn : Ends} {rest : List Stmt}
theorem ve_sliceT {lo hi : Option Expr} {vlo vhi : Option Int} {p2 : Pos} (h : Ve X e env ow (.tup l)) (h1 : Vp X lo env ow vlo) (h2 : Vp X hi env ow vhi) : Ve X (.Subscript e (.Slice lo hi none p2) pos) env ow (.tup (cutD l vlo vhi)) := .mk fun σ F H Q s w k => by
  obtain ⟨t1, p1, q1⟩ := h1
  obtain ⟨t2, p2, q2⟩ := h2
  refine wpe (pe_slice sl_tupA pe_can p1 p2) (h σ F H _ s w fun F1 H1 v e1 w1 r1 => q1 σ F1 H1 _ (s.mono e1) w1 fun F2 H2 e2 w2 => q2 σ F2 H2 _ (s.mono (e1.trans e2)) w2 fun F3 H3 e3 w3 => ?_)
  cases r1 with
  | @tup a xs _ g s1 =>
    have g3 : SqT X.K F3 a xs := Evl.ex_t (e2.trans e3) g
    refine ⟨_, _, rfl, Evl.ex_t w3.ex g3, fun full => ?_, fun _ p hp => (k.ex ((e1.trans e2).trans e3)).new w3 hp (.tup (SqT.of upd_same) (((s1.cut vlo vhi).mono (e2.trans e3)).mono (w3.exnew hp)))⟩
    have z : cutD l vlo vhi = l := by
      unfold Vd.cutD
      rw [← s1.length, full.1, full.2, List.drop_zero, Nat.sub_zero, s1.length, List.take_length]
    exact (k.ex ((e1.trans e2).trans e3)).here w3 (.tup g3 (by rw [z]; exact s1.mono (e2.trans e3)))
theorem to_listT : TyOk X ow "list" [.tup l] (.lst l) := ⟨_, call_list_of, .mk fun F H xs Q w r k => by
  cases r with
  | cons r1 r2 =>
    cases r2
    cases r1 with
    | tup g s1 => exact ⟨_, _, rfl, .inr (Evl.ex_t w.ex g), fun p hp => k.new w hp (.lst upd_same (s1.mono (w.exnew hp)))⟩⟩
theorem to_tupL : TyOk X ow "tuple" [.lst l] (.tup l) := ⟨_, call_tuple_of, .mk fun F H xs Q w r k => by
  cases r with
  | cons r1 r2 =>
    cases r2
    cases r1 with
    | lst g s1 => exact ⟨_, _, rfl, .inl ⟨SqL.of (w.ex _ _ g), fun p hp => k.new w hp (.tup (SqT.of upd_same) (s1.mono (w.exnew hp)))⟩⟩⟩
end
theorem pyL_ints : ∀ l : List Int, pyL (l.map D.int) = l.map PyData.int
  | [] => rfl
  | i :: l => by rw [List.map_cons, pyL, pyL_ints l]; rfl
theorem plainL_ints : ∀ l : List Int, plainL (l.map D.int) = true
  | [] => rfl
  | i :: l => by rw [List.map_cons, plainL, plainL_ints l]; rfl
theorem lay_ints : ∀ l : List Int, PyData.canLayAll0 (l.map PyData.int) = true
  | [] => rfl
  | i :: l => by rw [List.map_cons, PyData.canLayAll0, lay_ints l]; rfl
theorem depth_ints : ∀ l : List Int, PyData.depthAll (l.map PyData.int) ≤ 1
  | [] => by simp [PyData.depthAll]
  | i :: l => by
    have := depth_ints l
    simp only [List.map_cons, PyData.depthAll, PyData.depth]
    omega
theorem eqOk_ints (l : List Int) : (D.lst (l.map D.int)).eqOk = true := by
  unfold D.eqOk SeqAt.shaped
  have z := depth_ints l
  have y := lay_ints l
  simp only [D.plain, plainL_ints, D.py, pyL_ints, PyData.canLay0, y, PyData.depth, Bool.true_and, decide_eq_true_eq]
  omega
theorem eqOk_intsT (l : List Int) : (D.tup (l.map D.int)).eqOk = true := by
  unfold D.eqOk SeqAt.shaped
  have z := depth_ints l
  have y := lay_ints l
  simp only [D.plain, plainL_ints, D.py, pyL_ints, PyData.canLay0, y, PyData.depth, Bool.true_and, decide_eq_true_eq]
  omega
theorem eqvAll_ints : ∀ l m : List Int, PyData.eqvAll (l.map PyData.int) (m.map PyData.int) = decide (l = m)
  | [], [] => rfl
  | [], _ :: _ => rfl
  | _ :: _, [] => rfl
  | i :: l, j :: m => by
    rw [List.map_cons, List.map_cons, PyData.eqvAll, eqvAll_ints l m, PyData.eqv]
    by_cases h : i = j <;> by_cases q : l = m <;> simp [h, q]
theorem co_eqIL {X : Cx} {ow : Ow} {b : Expr} {l m : List Int} (hu : X.A.units + 64 < cLine) : CmpOk X ow .Eq b (.lst (l.map D.int)) (.lst (m.map D.int)) (.bl (decide (l = m))) := co_to (co_eqD hu (eqOk_ints l) (eqOk_ints m)) (by
  simp only [D.py, pyL_ints, PyData.eqv, eqvAll_ints])
theorem co_eqIT {X : Cx} {ow : Ow} {b : Expr} {l m : List Int} (hu : X.A.units + 64 < cLine) : CmpOk X ow .Eq b (.tup (l.map D.int)) (.tup (m.map D.int)) (.bl (decide (l = m))) := co_to (co_eqD hu (eqOk_intsT l) (eqOk_intsT m)) (by
  simp only [D.py, pyL_ints, PyData.eqv, eqvAll_ints])
def spE (K : PySem.W.Frag) (G : List D → Prop) (R : List D → D → Prop) : Sp := fun vs H Q _ => ∃ F ow ds, Wo K ow F H ∧ Rps K F vs ds ∧ G ds ∧ ∀ F2 H2 v d, Ex F F2 → Wo K ow F2 H2 → Rp K F2 v d → R ds d → Q v H2
section
variable {P : Program} {w : World} {K : PySem.W.Frag} {mg : Str → Option Value} {base : Heap}
theorem okE {x qual : Str} {st : Stmt} {f : Addr} {fd : FuncData} {N ps : List Str} {k : Nat} {G : List D → Prop} {R : List D → D → Prop} (Fn : Fun K x qual st f fd) (S : FnScope N ps (defScope st)) (len : ∀ ds, G ds → ds.length = ps.length)
    (body : ∀ (cdv : Value) (A : Around) (outer : List Env) (s : Shared) (H B : Hp) (ow : Ow) (ds : List D) (Q : VK) (E : XK), γ A.guards → Room k (A.deeper (envOfC qual (defScope st) s.heap.objs.size f cdv)) → G ds → (∀ d, R ds d → Post K ow B d Q) →
      Rn (cxOf CX0 P w K mg base N qual (defScope st) f cdv A outer s H E).nox B (defBody st) { nx := fun _ H' => Q .non H', rt := Q } (env0 N ds) ow) : FnG γ P w K mg base CX0 (k + 1) f fd ps (spE K G R) :=
  okG Fn S (fun vs H Q E ⟨F, ow, ds, wo, r, hG, _⟩ => by rw [r.length]; exact len ds hG) fun cdv A outer s H vs Q E hgd hr ⟨F, ow, ds, wo, r, hG, k⟩ =>
    ⟨F, ow, ds, wo, r, body cdv A outer s H F ow ds Q E hgd hr hG fun d hR F2 H2 v e2 w2 r2 => k F2 H2 v d e2 w2 r2 hR⟩
end
section
variable {X : Cx} {env : List (Option D)} {ow : Ow} {e : Expr} {es : List Expr} {ds : List D} {pos p : Pos} {x : Str} {f : Addr} {fd : FuncData} {ps : List Str} {k : Nat} {G : List D → Prop} {R : List D → D → Prop}
theorem vm_E (Fn : FnG γ X.prog X.w X.K X.mg X.base CX0 k f fd ps (spE X.K G R)) (hgd : γ X.A.guards) (hr : Room k X.A) (hg : Gl X x) (hm : X.mg x = some (.ref f)) (hk : PySem.W.keepIn X.K (.ref f) = true) (hb : Binds X.K fd ps []) (ha : Va X (e :: es) env ow ds) (hG : G ds)
    (hdb : (x == ("__debug__" : Str)) = false := by decide) (he : starEach (e :: es) X.env = (false, eval e X.env) :: starEach es X.env := by rfl) (hpl : (backTo pos (starEach es X.env)).any (·.1) = false := by rfl) :
    Vm X (.Call (.Name x p) (e :: es) [] pos) env ow fun d ow2 => ow2 = ow ∧ R ds d := vm_call Fn hgd hr hg hm hk hb .nil pass0 ha (fun F H vs Q w r k0 => by
  rw [List.append_nil]
  exact ⟨F, ow, ds, w, r, hG, fun F2 H2 v d e2 w2 rv hR => k0 F2 H2 v d ow e2 w2 rv ⟨rfl, hR⟩⟩) hdb he hpl
end
end Vd
set_option Elab.async false
set_option linter.all false
set_option maxRecDepth 100000
set_option maxHeartbeats 4000000
namespace Vd
open PySem L2
open PySem.Spec PyProof.Rows
section
variable {X : Cx} {B : Hp} {env : List (Option D)} {ow : Ow} {e : Expr} {pos : Pos} {Dn : Ends} {rest : List Stmt}
theorem rn_addTo {x : Str} {p : Pos} {j : Nat} {n k0 : Int} (hN : X.N.Nodup) (hi : X.N[j]? = some x) (hx : Loc X.env.scope x) (hj : env[j]? = some (some (.int n))) (h : Ve X e env ow (.int k0)) (k : ∀ B', Ex B B' → Rn X B' rest Dn (env.set j (some (.int (n + k0)))) ow)
    (hf : X.fn x = true ∨ X.env.scope.names.lookup x = some .local := by first | exact .inl rfl | exact .inr rfl | assumption) : Rn X B (.AugAssign (.Name x p) .Add e pos :: rest) Dn env ow :=
  rn_one ⟨_, ps_aug hN hi hx pe_can ip_add hf, fun σ F H eB s w => by
    obtain ⟨v, hv, rv⟩ := s.at_ j _ hj
    cases rv
    refine ⟨_, hv, h σ F H _ s w fun F1 H1 u e1 w1 r1 => ?_⟩
    cases r1
    exact ⟨n, k0, rfl, rfl, k F1 (eB.trans e1) _ F1 H1 (Evl.Ex.refl F1) ((s.mono e1).set (.int _) j) w1⟩⟩
end
end Vd
set_option Elab.async false
set_option linter.all false
set_option maxRecDepth 100000
set_option maxHeartbeats 4000000
namespace Vd
open PySem L2
open PySem.Spec PyProof.Rows
section
variable {X : Cx} {B : Hp} {env : List (Option D)} {ow : Ow} {tg it : Expr} {pos : Pos} {Dn : Ends} {rest : List Stmt}
theorem rn_forE {g : TG} {f : D → List (Option D) → List (Option D)} {body : List Stmt} (R : List D → Prop) (I : List D → Nat → List (Option D) → Ow → Prop) (hp : PassesOwn (model X.prog X.w) X.A X.env X.xe) (hc : X.calm = true) (hi : Vm X it env ow fun d ow2 => ow2 = ow ∧ ∃ ds, d = .lst ds ∧ R ds) (hg : PG X tg g) (hgd : ∀ ow d, Gd X.K ow g d (f d)) (h0 : ∀ ds, R ds → I ds 0 env ow)
    (hs : ∀ ds B' i d env' ow', R ds → Ex B B' → ds[i]? = some d → I ds i env' ow' → Rn X B' body (Turn X B' rest Dn (I ds (i + 1))) (f d env') ow') (hd : ∀ ds B' env' ow', R ds → Ex B B' → I ds ds.length env' ow' → Rn X B' rest Dn env' ow')
    (hfs : ∀ x, foldedSetIterable it X.env x = pure x := by intro _; rfl) : Rn X B (.For tg it body [] pos :: rest) Dn env ow := rn_one (by
  refine ⟨_, ps_for hp hc (pi_list pe_can) hg pss_can hfs, fun σ F H eB s w => hi σ F H _ s w fun F1 H1 v d ow2 e1 w1 r1 hR => ?_⟩
  obtain ⟨rfl, ds, rfl, hR⟩ := hR
  cases r1 with
  | lst h1 s1 =>
    have src := src_list (K := X.K) h1 s1
    refine ⟨_, rfl, ⟨_, SqL.of (w1.ex _ _ h1)⟩, ?_⟩
    refine ⟨fun i m σ H => m = ds.length - i ∧ i ≤ ds.length ∧ Nx X.K F1 (I ds i) σ H, ⟨ds.length, by simp, Nat.zero_le _, F1, env, ow2, Evl.Ex.refl F1, s.mono e1, w1, h0 ds hR⟩, ?_⟩
    rintro i m σ' H' ⟨rfl, hi, F', env', ow', eF, s', w', hI⟩
    obtain ⟨stop, go⟩ := src F' H' ow' i eF w'
    by_cases hlt : i < ds.length
    · obtain ⟨hgo, hy⟩ := go ds[i] (by simp [hlt])
      refine .inr ⟨hgo, Nx X.K F1 (I ds (i + 1)), fun σ2 H2 q => ⟨ds.length - (i + 1), by omega, rfl, hlt, q⟩, fun x H2 hx => ?_⟩
      obtain ⟨F2, e2, w2, r2⟩ := hy x H2 hx
      refine hgd ow' ds[i] env' σ' F2 H2 x _ (s'.mono e2) w2 r2 fun σ2 s2 => ?_
      exact hs ds F1 i ds[i] env' ow' hR (eB.trans e1) (by simp [hlt]) hI σ2 F2 H2 (eF.trans e2) s2 w2
    · have e : i = ds.length := by omega
      subst e
      exact .inl ⟨stop (Nat.le_refl _), hd ds F1 env' ow' hR (eB.trans e1) hI σ' F' H' eF s' w'⟩)
end
end Vd
set_option Elab.async false
set_option linter.all false
set_option maxRecDepth 100000
set_option maxHeartbeats 4000000
namespace Vd
open PySem L2
open PySem.Spec PyProof.Rows
section
variable {X : Cx} {env : List (Option D)} {ow : Ow} {o e : Expr} {es : List Expr} {d : D} {ds : List D} {pos apos : Pos} {C g p : Addr} {fl : List (Str × D)} {f m : Str} {fd : FuncData} {ps : List Str} {k : Nat} {R : List D → D → Prop}
theorem ve_at (c : Cls X.K C) (n : NoAttr X.K C f) (h : Ve X e env ow (.ins C fl)) (hl : fl.lookup f = some d) (hb : attributeBase e f X.env (eval e X.env) = eval e X.env := by rfl) : Ve X (.Attribute e f pos) env ow d := .mk fun σ F H Q s w k0 => wpe (pe_fld pe_can hb) (h σ F H _ s w fun F1 H1 v e1 w1 r1 => by
  cases r1 with
  | ins g1 r2 =>
    obtain ⟨y, hy, ry⟩ := r2.look hl
    exact ⟨_, _, _, _, y, rfl, w1.ex _ _ g1, c, n, hy, (k0.ex e1).here w1 ry⟩)
/-- a method, called with at least one argument -/
theorem pe_methG {sp : Sp} {te : TE} {ta : TA} {pl : Sem Bool} (he : PE X o te) (c : Cls X.K C) (hm : Meth X.K C m g) (F : FnG γ X.prog X.w X.K X.mg X.base CX0 k g fd ps sp) (hgd : γ X.A.guards) (hr : Room k X.A) (hb : Binds X.K fd ps []) (ha : PA X (e :: es) ta)
    (hst : starEach (e :: es) X.env = (false, eval e X.env) :: starEach es X.env := by rfl) (hpl : (backTo pos (starEach es X.env)).any (·.1) = false := by rfl)
    (ht : eval (.Call (.Attribute o m apos) (e :: es) [] pos) X.env = (do let ov ← eval o X.env; standAt apos.atName; let (fn, first) ← holding [ov] (getMethod ov m pl); callWith pos fn first (backTo pos (starEach (e :: es) X.env)) (backToKw pos (keywordEach [] X.env))) := by rfl) :
    PE X (.Call (.Attribute o m apos) (e :: es) [] pos) (tMeth C m sp [] E0 te ta) := by
  refine ⟨fun pins s σ H Q I h => PySem.W.methodCall_KW (pl := pl) (thn (he.run pins s σ H _ I h) fun u s1 ⟨x, H1, I1, rx, a, dx, fs, ex, ea, l, q⟩ => ?_) ht⟩
  subst ex
  obtain rfl : u = Value.ref a := rx
  refine getmeth_ok I1 ea c hm l (PySem.W.callWith_K (first := [.ref a]) (h₀ := X.base) I.ok.mod.kin hm.kp (thn (ha.run pos pins s1 σ H1 _ I1 q) fun us s2 ⟨vs, H2, I2, r, q2⟩ => ⟨I2.kIn, ?_⟩) hst hpl)
  exact run_fnG (us := .ref a :: us) (vs := .ref a :: vs) F hgd hr hb .nil pass0 I2 (.cons rfl r) q2
/-- o.m(e, ..) of a frozen object that has no field m -/
theorem ve_meth {pl : Sem Bool} (c : Cls X.K C) (hm : Meth X.K C m g) (F : FnG γ X.prog X.w X.K X.mg X.base CX0 k g fd ps (spR X.K R)) (hgd : γ X.A.guards) (hr : Room k X.A) (hb : Binds X.K fd ps []) (ho : Ve X o env ow (.ins C fl)) (hn : fl.lookup m = none) (ha : Va X (e :: es) env ow ds) (hR : R (.ins C fl :: ds) d)
    (hst : starEach (e :: es) X.env = (false, eval e X.env) :: starEach es X.env := by rfl) (hpl : (backTo pos (starEach es X.env)).any (·.1) = false := by rfl)
    (ht : eval (.Call (.Attribute o m apos) (e :: es) [] pos) X.env = (do let ov ← eval o X.env; standAt apos.atName; let (fn, first) ← holding [ov] (getMethod ov m pl); callWith pos fn first (backTo pos (starEach (e :: es) X.env)) (backToKw pos (keywordEach [] X.env))) := by rfl) :
    Ve X (.Call (.Attribute o m apos) (e :: es) [] pos) env ow d := .mk fun σ F0 H Q s w k0 => wpe (pe_methG pe_can c hm F hgd hr hb pa_can hst hpl ht) (ho σ F0 H _ s w fun F1 H1 v e1 w1 r1 => by
  have keep := r1
  cases r1 with
  | @ins a C2 dx fs l g1 r2 =>
    refine ⟨a, dx, fs, rfl, w1.ex _ _ g1, r2.none hn, ha σ F1 H1 _ (s.mono e1) w1 fun F2 H2 vs e2 w2 r3 => ?_⟩
    rw [List.append_nil]
    exact ⟨F2, ow, _, d, w2, .cons (keep.mono e2) r3, hR, k0.ex (e1.trans e2)⟩)
end
end Vd
set_option Elab.async false
set_option linter.all false
set_option maxRecDepth 100000
set_option maxHeartbeats 4000000
namespace Vd
open PySem L2
open PySem.Spec PyProof.Rows
section
variable {X : Cx} {env : List (Option D)} {ow : Ow} {o e : Expr} {d : D} {pos : Pos} {C g p a : Addr} {fl : List (Str × D)} {f : Str} {fd : FuncData} {ps : List Str} {k : Nat} {R : List D → D → Prop}
theorem getpropG {sp : Sp} {dx : Addr} {fs : List (Str × V)} {pins : List (Addr × Obj)} {σ : L2.St} {H : Hp} {s : Shared} {Q : VK} {b : Bool} {E2 : Value → Shared → Prop} (I : Inv X pins σ H s) (ea : H a = some (.ins C dx fs)) (c : Cls X.K C) (hp : PropOf X.K C f p g)
    (F : FnG γ X.prog X.w X.K X.mg X.base CX0 k g fd ps sp) (hgd : γ X.A.guards) (hr : Room (k + 1) X.A) (hb : Binds X.K fd ps []) (h : sp [.ref a] H Q E0) : wpAny (model X.prog X.w) X.A (getAttr (.ref a) f b) (EP X pins σ Q) E2 s := by
  obtain ⟨mA, O, _⟩ := ins_get I.hok ea
  obtain ⟨od, J, _⟩ := O.look
  obtain ⟨more, isP⟩ := hp.rec_
  have J1 := I.tok (s.toks + 1)
  have one : (([Value.ref a] : List Value) ++ []).length = ps.length := by
    rw [← F.len _ _ _ _ h]
    rfl
  have isC : (PySem.W.clsIn X.K C).isSome = true := by
    obtain ⟨cd, z, _⟩ := PySem.W.any_some c.hd
    rw [z]
    rfl
  have pg := PySem.W.plainGet_of (c.get f)
  refine PySem.W.get_bind I.kIn J pg.1 (PySem.W.findObj_data isC hp.at_ hp.get hp.tak) pg.2 (wpAny_call (PySem.W.prop_get (s := { s with toks := s.toks + 1 }) I.kIn isP ?_))
  have bnd := hb { s with toks := s.toks + 1 } [.ref a] J1.kIn one
  rw [List.append_nil] at bnd
  refine codeAny_mono (F.run X.A.in1 X.stack { s with toks := s.toks + 1 } H ⟨[.ref a], []⟩ [.ref a] [.ref a] Q E0 hgd hr.in1 J1.env0.in1 bnd (.cons rfl .nil) h) fun r s' hq => ?_
  match r, hq with
  | .error er, hq => exact False.elim hq
  | .ok (.ret u), hq =>
    obtain ⟨v, H', I3, rv, q3⟩ := J1.after hq
    show wpAny _ _ (handedOut u) _ _ _
    rw [PySem.W.handedOut_of (handed_of rv)]
    exact wpAny_pure ⟨v, H', I3, rv, q3⟩
  | .ok .next, hq => exact False.elim hq
  | .ok .brk, hq => exact False.elim hq
  | .ok .cont, hq => exact False.elim hq
theorem ve_prop (c : Cls X.K C) (hp : PropOf X.K C f p g) (F : FnG γ X.prog X.w X.K X.mg X.base CX0 k g fd ps (spR X.K R)) (hgd : γ X.A.guards) (hr : Room (k + 1) X.A) (hb : Binds X.K fd ps []) (h : Ve X e env ow (.ins C fl)) (hR : R [.ins C fl] d) (hab : attributeBase e f X.env (eval e X.env) = eval e X.env := by rfl) :
    Ve X (.Attribute e f pos) env ow d := .mk fun σ F0 H Q s w k0 => by
  have pe : PE X (.Attribute e f pos) (fun σ H Q => WpE X e σ H fun x H1 => ∃ a dx fs, x = .ref a ∧ H1 a = some (.ins C dx fs) ∧ spR X.K R [.ref a] H1 Q E0) := by
    refine ⟨fun pins s σ H Q I hh => attr_of hab (thn (pe_can.run pins s σ H _ I hh) fun u s1 ⟨x, H1, I1, rx, a, dx, fs, ex, ea, q⟩ => ?_)⟩
    subst ex
    obtain rfl : u = Value.ref a := rx
    exact getpropG I1 ea c hp F hgd hr hb q
  refine wpe pe (h σ F0 H _ s w fun F1 H1 v e1 w1 r1 => ?_)
  have keep := r1
  cases r1 with
  | @ins a C2 dx fs l g1 r2 => exact ⟨a, dx, fs, rfl, w1.ex _ _ g1, F1, ow, _, d, w1, .cons keep .nil, hR, k0.ex e1⟩
end
def putD (f : Str) (v : D) : List (Str × D) → List (Str × D)
  | [] => [(f, v)]
  | (g, x) :: r => if g = f then (g, v) :: r else (g, x) :: putD f v r
theorem Rpf.put {K : PySem.W.Frag} {F : Hp} {f : Str} {y : V} {d : D} (h : Rp K F y d) : ∀ {fs : List (Str × V)} {l : List (Str × D)}, Rpf K F fs l → Rpf K F (putF f y fs) (putD f d l)
  | [], [], .nil => .cons h .nil
  | (g, x) :: fs, (_, z) :: l, .cons r rs => by
    unfold putF putD
    by_cases q : g = f
    · rw [if_pos q, if_pos q]
      exact .cons h rs
    · rw [if_neg q, if_neg q]
      exact .cons r (Rpf.put h rs)
section
variable {X : Cx} {B : Hp} {env : List (Option D)} {ow : Ow} {o e : Expr} {d : D} {pos p2 : Pos} {C q : Addr} {fl : List (Str × D)} {f : Str} {Dn : Ends} {rest : List Stmt}
/-- o.f = e -/
theorem rn_fld (c : Cls X.K C) (n : NoAttr X.K C f) (h : Ve X e env ow d) (ho : Ve X o env ow (.ob (.ref q))) (hq : ow q = some (.ins C fl)) (hl : fl.length < 1000) (k : ∀ B', Ex B B' → Rn X B' rest Dn env (ou ow q (.ins C (putD f d fl))))
    (hs : swapsWith e (some (.Attribute o f p2)) pos.line X.env = pure false := by rfl) : Rn X B (.Assign [.Attribute o f p2] e pos :: rest) Dn env ow :=
  rn_one ⟨_, ps_fld pe_can pe_can hs, fun σ F H eB s w => h σ F H _ s w fun F1 H1 v e1 w1 r1 => ho σ F1 H1 _ (s.mono e1) w1 fun F2 H2 u e2 w2 r2 => by
    cases r2
    obtain ⟨_, dx, fs, hH, rf⟩ := w2.own q _ hq
    exact ⟨q, C, dx, fs, rfl, hH, c, n, by rw [rf.length]; exact hl, k F2 (eB.trans (e1.trans e2)) _ F2 _ (Evl.Ex.refl F2) (s.mono (e1.trans e2)) (w2.setI (fs0 := fs) hq (rf.put (r1.mono e2)))⟩⟩
/-- from here on an owned object is plain data -/
theorem rn_freezeI {j : Nat} (hj : env[j]? = some (some (.ob (.ref q)))) (hq : ow q = some (.ins C fl)) (k : ∀ B', Ex B B' → Rn X B' rest Dn (env.set j (some (.ins C fl))) (oz ow q)) : Rn X B rest Dn env ow := .mk fun σ F H eB s w => by
  obtain ⟨n, dx, fs, g, sx⟩ := w.own q _ hq
  obtain ⟨v, h1, h2⟩ := s.at_ j _ hj
  cases h2
  have e1 : Ex F (upd F q (.ins C dx fs)) := Evl.Ex.new n
  have w1 : Wo X.K (oz ow q) (upd F q (.ins C dx fs)) H := (w.drop (ow' := oz ow q) fun a o h => by
    by_cases z : a = q
    · subst z
      rw [oz_same] at h
      cases h
    · rw [oz_ne z] at h
      exact h).freeze n g oz_same
  have s1 : Sl X.K (upd F q (.ins C dx fs)) (σ.set j (some (.ref q))) (env.set j (some (.ins C fl))) := (s.mono e1).set (.ins upd_same (sx.mono e1)) j
  have z : σ.set j (some (.ref q)) = σ := by
    apply List.ext_getElem?
    intro m
    rw [List.getElem?_set]
    by_cases y : j = m
    · subst y
      rw [if_pos rfl, h1, if_pos (List.getElem?_eq_some_iff.mp h1).1]
    · rw [if_neg y]
  rw [z] at s1
  exact k _ (eB.trans e1) σ _ H (Evl.Ex.refl _) s1 w1
end
end Vd
set_option Elab.async false
set_option linter.all false
set_option maxRecDepth 100000
set_option maxHeartbeats 4000000
namespace Vd
open PySem L2
open PySem.Spec PyProof.Rows
/-- t looks names up in the dict at D, one behind another, and goes on as r -/
def Asks {α : Type} (D : Addr) : List (Str × Value) → Sem α → Sem α → Prop
  | [], t, r => t = r
  | q :: l, t, r => ∃ (β γ : Type) (k1 : Option Value → Sem β) (k2 : β → Sem γ) (k3 : γ → Sem α) (a : β), t = ((nsGet D q.1 >>= k1) >>= k2) >>= k3 ∧ k1 (some q.2) = pure a ∧ Asks D l (k2 a >>= k3) r
theorem Asks.run {α : Type} {K : PySem.W.Frag} {M : Model} {h : Heap} {D : Addr} (X : K.In h) : ∀ {l : List (Str × Value)} {t r : Sem α}, (∀ q ∈ l, PySem.W.nsIn K D q.1 = some (some q.2)) → Asks D l t r →
    ∀ {A : Around} {Q : α → Shared → Prop} {E : Value → Shared → Prop} {s : Shared}, (∀ b o, h.get? b = some o → s.heap.get? b = some o) → wpAny M A r Q E s → wpAny M A t Q E s
  | [], t, r, _, e => fun _ q => by
    rw [show t = r from e]
    exact q
  | q :: l, t, r, hl, e => fun kp z => by
    obtain ⟨β, γ, k1, k2, k3, a, e1, e2, e3⟩ := e
    have look : PySem.W.Looks M h (nsGet D q.1 >>= k1) a := (PySem.W.looks_nsIn X (hl q (List.mem_cons_self ..))).andThen (PySem.W.Looks.of_pure e2)
    have rest := Asks.run X (fun p hp => hl p (List.mem_cons_of_mem _ hp)) e3 kp z
    rw [e1, bind_assoc]
    exact wpAny_bind (look _ _ _ _ kp rest)
/-- a promise of such an __init__: x the object, vs and zs what is passed by position and by the names ks -/
def InS (γ : Gds) (P : Program) (w : World) (K : PySem.W.Frag) (mg : Str → Option Value) (base : Heap) (k : Nat) (f : Addr) (ks : List Str) (sp : Addr → List V → List V → Hp → VK → Prop) : Prop :=
  ∀ (A : Around) (outer : List Env) (s : Shared) (H : Hp) (us ws : List Value) (vs zs : List V) (x : Addr) (Q : VK), γ A.guards → Room k A → Env0 P w K mg base A outer s H → Vals vs us → Vals zs ws → zs.length = ks.length → sp x vs zs H Q →
    codeAny (model P w) A (.call (.ref f) ⟨.ref x :: us, ks.zip ws⟩) (CR CX0 outer P w H s Q E0) s
/-- told by data: ds by position, kd by name, fl the fields of the object behind it -/
def spI (K : PySem.W.Frag) (C : Addr) (R : List D → List D → List (Str × D) → Prop) : Addr → List V → List V → Hp → VK → Prop := fun x vs zs H Q => ∃ F ow ds kd fl, Wo K (ou ow x (.ins C [])) F H ∧ Rps K F vs ds ∧ Rps K F zs kd ∧ R ds kd fl ∧ ds.length ≤ 100000 ∧ ∀ F2 H2, Ex F F2 → Wo K (ou ow x (.ins C fl)) F2 H2 → Q .non H2
section
variable {P : Program} {w : World} {K : PySem.W.Frag} {mg : Str → Option Value} {base : Heap} {k : Nat} {f C D0 : Addr} {name qual pv : Str} {st : Stmt} {doc pm cdv ct oc : Value} {an od : Option Addr} {osl : Array (Option Value)} {N ps : List Str} {ks ms : List Str} {mv : List Value} {mz : List V} {md : List D}
theorem okS {R : List D → List D → List (Str × D) → Prop} (lk : K.lookup f = some ⟨oc, od, .func (PySem.W.fnOf name qual (defArgs st) (defBody st) (defScope st) .none (.ref D0) doc pm an cdv ct), osl⟩) (hcd : PySem.W.codeIn K cdv qual = true)
    (S : FnScope N ((("self" : Str) :: ps) ++ [pv]) (defScope st)) (hms : ∀ q ∈ ms.zip mv, PySem.W.nsIn K D0 q.1 = some (some q.2)) (rm : Vals mz mv) (rd : ∀ F, Rps K F mz md)
    (g : {α : Type} → List α → List α → List α) (gr : ∀ {zs : List V} {ws : List Value}, Vals zs ws → Vals (g zs mz) (g ws mv)) (gd : ∀ {F : Hp} {zs : List V} {kd : List D}, Rps K F zs kd → Rps K F (g zs mz) (g kd md)) (gl : ∀ ws : List Value, ws.length = ks.length → (g ws mv).length = ps.length)
    (hbind : ∀ (x : Value) (us ws : List Value), ws.length = ks.length → Asks D0 (ms.zip mv) (bindArgs (PySem.W.fnOf name qual (defArgs st) (defBody st) (defScope st) .none (.ref D0) doc pm an cdv ct) ⟨x :: us, ks.zip ws⟩) (newTuple us >>= fun t => pure (((("self" : Str) :: ps).zip (x :: g ws mv)) ++ [(pv, t)])))
    (body : ∀ (A : Around) (outer : List Env) (s : Shared) (H B : Hp) (ow : Ow) (x : Addr) (ds kd : List D) (fl : List (Str × D)) (Q : VK), γ A.guards → Room k (A.deeper (envOfC qual (defScope st) s.heap.objs.size f cdv)) → R ds kd fl → (∀ F2 H2, Ex B F2 → Wo K (ou ow x (.ins C fl)) F2 H2 → Q .non H2) →
      Rn (cxOf CX0 P w K mg base N qual (defScope st) f cdv A outer s H E0).nox B (defBody st) { nx := fun _ H' => Q .non H', rt := Q } (env0 N ((.ob (.ref x) :: g kd md) ++ [.tup ds])) (ou ow x (.ins C []))) :
    InS γ P w K mg base (k + 1) f ks (spI K C R) := by
  intro A outer s H us ws vs zs x Q hgd hr e0 r rz hl hsp
  obtain ⟨F, ow, ds, kd, fl, wo, rds, rkd, hR, hsz, kQ⟩ := hsp
  have KX : K.In s.heap := e0.mod.kin.keeps fun b o e => (e0.bs b o e).1
  have wl : ws.length = ks.length := by rw [← rz.length]; exact hl
  have usz : us.length ≤ sizeLine := by
    rw [← r.length, rds.length]
    exact Evl.sz_of hsz
  have hn : H s.heap.objs.size = Option.none := e0.hok.fresh (Nat.le_refl _)
  have r1 : Vals (V.ref x :: g zs mz) (Value.ref x :: g ws mv) := .cons rfl (gr rz)
  have l1 : (Value.ref x :: g ws mv).length = (("self" : Str) :: ps).length := by rw [List.length_cons, gl ws wl, List.length_cons]
  refine StX.run_bnd lk hcd S hr e0 (G := fun xs H2 => ∃ p, H p = Option.none ∧ xs = (V.ref x :: g zs mz) ++ [V.ref p] ∧ H2 = upd H p (.tup vs)) (fun A2 E2 Q2 hh => ?_) fun s2 H2 xs ⟨p, hp, ex, eH⟩ hr2 => ?_
  · refine Asks.run KX hms (hbind (.ref x) us ws wl) (fun b o e => e) (wpAny_bind (wpAny_newTuple (wpAny_pure ?_) usz))
    have new : ObjOk P w (upd H s.heap.objs.size (.tup vs)) (s.heap.push ({ cls := .type "tuple", data := .seq us.toArray } : Obj)) s.heap.objs.size (.tup vs) := ⟨by rw [r.length]; exact usz, us, r, ⟨_, Heap.get?_push_size _ rfl, rfl, _, rfl⟩⟩
    have un := StX.un_laid (fs := frs outer) (s := s) (o := ({ cls := .type "tuple", data := .seq us.toArray } : Obj)) (u := .tup vs) hn
    have z := hh _ _ ((V.ref x :: g zs mz) ++ [V.ref s.heap.objs.size]) ((Value.ref x :: g ws mv) ++ [Value.ref s.heap.objs.size]) (StX.env0_laid e0 new) un rfl (fun _ _ y => y) (r1.append (.cons rfl .nil))
      (by rw [List.length_append, List.length_append, r1.length, l1] <;> rfl) ⟨_, hn, rfl, rfl⟩
    rw [List.zip_append l1.symm] at z
    exact z
  · subst ex
    subst eH
    have w2 := wo.new (o := .tup vs) hp
    have e2 := wo.exnew (o := .tup vs) hp
    have b := body A outer s2 (upd H p (.tup vs)) (upd F p (.tup vs)) ow x ds kd fl Q hgd hr2 hR (fun F3 H3 e3 w3 => kQ F3 H3 (e2.trans e3) w3)
    refine ⟨_, pss_can.nox, b _ _ _ (Evl.Ex.refl _) (Sl.start ?_) w2⟩
    exact Rps.append (.cons (.ob _) (gd (rkd.mono e2))) (.cons (.tup (SqT.of upd_same) (rds.mono e2)) .nil)
end
end Vd
set_option Elab.async false
set_option linter.all false
set_option maxRecDepth 100000
set_option maxHeartbeats 4000000
namespace Vd
open PySem L2
open PySem.Spec PyProof.Rows
/-- values of keywords -/
def Vk (X : Cx) (kws : List Keyword) (env : List (Option D)) (ow : Ow) (kd : List D) : Prop := ∃ t, PK X kws t ∧ ∀ (σ : L2.St) (F H : Hp) (Q : List V → Hp → Prop), Sl X.K F σ env → Wo X.K ow F H → PostA X.K ow F kd Q → t σ H Q
section
variable {X : Cx} {env : List (Option D)} {ow : Ow} {e : Expr} {es : List Expr} {kws : List Keyword} {d : D} {ds kd : List D} {pos p kpos : Pos} {nm : Option Str} {C f : Addr} {k : Nat} {ks : List Str} {fl : List (Str × D)} {x : Str} {R : List D → List D → List (Str × D) → Prop}
theorem vk_nil : Vk X [] env ow [] := ⟨_, pk_nil, fun σ F H Q s w k => k F H [] (Evl.Ex.refl F) w .nil⟩
theorem vk_cons (h : Ve X e env ow d) (hs : Vk X kws env ow kd) : Vk X (⟨nm, e, kpos⟩ :: kws) env ow (d :: kd) := by
  obtain ⟨t, pt, q⟩ := hs
  refine ⟨_, pk_cons pe_can pt, fun σ F H Q s w k => h σ F H _ s w fun F1 H1 y e1 w1 r1 => q σ F1 H1 _ (s.mono e1) w1 fun F2 H2 ys e2 w2 r2 => k F2 H2 _ (e1.trans e2) w2 (.cons (r1.mono e2) r2)⟩
theorem run_mkS {pins : List (Addr × Obj)} {σ : L2.St} {H : Hp} {s : Shared} {Q : VK} {us ws : List Value} {vs zs : List V} (M : Mk X.K C f) (Fi : InS γ X.prog X.w X.K X.mg X.base k f ks (spI X.K C R)) (hgd : γ X.A.guards) (hr : Room (k + 1) X.A)
    (I : Inv X pins σ H s) (r : Vals vs us) (rz : Vals zs ws) (hl : zs.length = ks.length)
    (h : ∀ a dx, H a = none → H dx = none → dx ≠ a → spI X.K C R a vs zs (upd (upd H dx (.own a)) a (.ins C dx [])) (fun v H2 => v = .non ∧ Q (.ref a) H2)) :
    wpAny (model X.prog X.w) X.A (call (.ref C) us (ks.zip ws)) (EP X pins σ Q) X.xe s := by
  have hq := h (s.heap.objs.size + 1) s.heap.objs.size (I.hok.fresh (Nat.le_succ _)) (I.hok.fresh (Nat.le_refl _)) (Nat.ne_of_lt (Nat.lt_succ_self _))
  have J := Inv.made (C := C) I
  have run := Fi (X.A.under (.builtin "type.__call__" ⟨.ref C :: us, ks.zip ws⟩)) X.stack _ _ us ws vs zs (s.heap.objs.size + 1) _ (by exact hgd) (hr.make C us (ks.zip ws)) (J.env0.make C us (ks.zip ws)) r rz hl hq
  refine wpAny_call (make_map (f := f) I.kIn M.makes M.init (beq_iff_eq.mp M.fn) (codeAny_mono run fun r s' hq' => ?_))
  match r, hq' with
  | .error e, z => exact z.elim
  | .ok (.ret u), z =>
    obtain ⟨v, H', I3, rv, ev, q3⟩ := J.after z
    subst ev
    exact ⟨rv, ⟨V.ref (s.heap.objs.size + 1), H', I3, rfl, q3⟩⟩
  | .ok .next, z => exact False.elim z
  | .ok .brk, z => exact False.elim z
  | .ok .cont, z => exact False.elim z
/-- what the making comes to -/
theorem made {F2 H2 : Hp} {vs zs : List V} {Q : VK} (w2 : Wo X.K ow F2 H2) (r : Rps X.K F2 vs ds) (rz : Rps X.K F2 zs kd) (hR : R ds kd fl) (hz : ds.length ≤ 100000) (k0 : Post X.K ow F2 (.ins C fl) Q) (a dx : Addr) (ha : H2 a = none) (hd : H2 dx = none) (hne : dx ≠ a) :
    spI X.K C R a vs zs (upd (upd H2 dx (.own a)) a (.ins C dx [])) (fun v H3 => v = .non ∧ Q (.ref a) H3) := by
  have w3 := w2.new (o := .own a) hd
  have e3 := w2.exnew (o := .own a) hd
  have ha3 : upd H2 dx (.own a) a = none := by rw [upd_ne (Ne.symm hne)]; exact ha
  have oa : ow a = none := w2.ofree ha
  have w4 : Wo X.K (ou ow a (.ins C [])) (upd F2 dx (.own a)) (upd (upd H2 dx (.own a)) a (.ins C dx [])) := by
    have y := w3.grow (o := .ins C dx []) ha3
    refine ⟨y.ex, fun b o q => ?_⟩
    by_cases z : b = a
    · subst z
      rw [ou_same] at q
      cases q
      exact ⟨w3.free ha3, dx, [], upd_same, .nil⟩
    · rw [ou_ne z] at q
      exact y.own b o q
  refine ⟨_, ow, ds, kd, fl, w4, r.mono e3, rz.mono e3, hR, hz, fun F4 H4 e4 w5 => ⟨rfl, ?_⟩⟩
  obtain ⟨n, dx2, fs, g, sx⟩ := w5.own a _ ou_same
  have w6 : Wo X.K ow (upd F4 a (.ins C dx2 fs)) H4 := (w5.drop (ow' := ow) fun b o hb => by
    have z : b ≠ a := fun y => by rw [y, oa] at hb; cases hb
    rw [ou_ne z]
    exact hb).freeze n g oa
  have e5 : Ex F4 (upd F4 a (.ins C dx2 fs)) := Evl.Ex.new n
  exact k0 _ H4 _ (e3.trans (e4.trans e5)) w6 (.ins upd_same (sx.mono e5))
/-- C(k = v, ..) -/
theorem ve_mk0 (M : Mk X.K C f) (Fi : InS γ X.prog X.w X.K X.mg X.base k f ks (spI X.K C R)) (hgd : γ X.A.guards) (hr : Room (k + 1) X.A) (hg : Gl X x) (hm : X.mg x = some (.ref C)) (hk : Vk X kws env ow kd) (hkl : kd.length = ks.length) (hR : R [] kd fl)
    (hall : (backToKw pos (keywordEach kws X.env)).all (·.1.isSome) = true := by rfl) (hks : (backToKw pos (keywordEach kws X.env)).filterMap (·.1) = ks := by rfl) (hdb : (x == ("__debug__" : Str)) = false := by decide)
    (hpl : ((backTo pos (starEach [] X.env)).any (·.1) || (backToKw pos (keywordEach kws X.env)).any (·.1.isNone)) = false := by rfl) : Ve X (.Call (.Name x p) [] kws pos) env ow (.ins C fl) := .mk fun σ F H Q s w k0 => by
  obtain ⟨tk, pk, q⟩ := hk
  have pe : PE X (.Call (.Name x p) [] kws pos) (fun σ H Q => tk σ H fun zs H2 => zs.length = ks.length ∧ ∀ a dx, H2 a = none → H2 dx = none → dx ≠ a → spI X.K C R a [] zs (upd (upd H2 dx (.own a)) a (.ins C dx [])) (fun v H3 => v = .non ∧ Q (.ref a) H3)) := by
    refine ⟨fun pins s σ H Q I h => wpAny_Call_Name_kw (ld_glob I hg hm (PySem.W.callWith_KW0 (h₀ := X.base) I.ok.mod.kin M.kp hall (thn (pk.run pos pins s σ H _ I h) fun ws s2 ⟨zs, H2, I2, rz, l2, q2⟩ => ⟨I2.kIn, ?_⟩) hpl) hdb)⟩
    rw [hks]
    exact run_mkS (us := []) (vs := []) M Fi hgd hr I2 .nil rz l2 q2
  refine wpe pe (q σ F H _ s w fun F2 H2 zs e2 w2 rz => ⟨by rw [rz.length]; exact hkl, fun a dx ha hd hne => made w2 .nil rz hR (Nat.zero_le _) (k0.ex e2) a dx ha hd hne⟩)
/-- C(e, .., k = v, ..) -/
theorem ve_mk (M : Mk X.K C f) (Fi : InS γ X.prog X.w X.K X.mg X.base k f ks (spI X.K C R)) (hgd : γ X.A.guards) (hr : Room (k + 1) X.A) (hg : Gl X x) (hm : X.mg x = some (.ref C)) (ha : Va X (e :: es) env ow ds) (hk : Vk X kws env ow kd) (hkl : kd.length = ks.length) (hz : ds.length ≤ 100000) (hR : R ds kd fl)
    (hall : (backToKw pos (keywordEach kws X.env)).all (·.1.isSome) = true := by rfl) (hks : (backToKw pos (keywordEach kws X.env)).filterMap (·.1) = ks := by rfl) (hdb : (x == ("__debug__" : Str)) = false := by decide)
    (he : starEach (e :: es) X.env = (false, eval e X.env) :: starEach es X.env := by rfl) (hpl : ((backTo pos (starEach (e :: es) X.env)).any (·.1) || (backToKw pos (keywordEach kws X.env)).any (·.1.isNone)) = false := by rfl) : Ve X (.Call (.Name x p) (e :: es) kws pos) env ow (.ins C fl) := .mk fun σ F H Q s w k0 => by
  obtain ⟨tk, pk, q⟩ := hk
  have pe : PE X (.Call (.Name x p) (e :: es) kws pos) (fun σ H Q => WpA X (e :: es) σ H fun vs H1 => tk σ H1 fun zs H2 => zs.length = ks.length ∧ ∀ a dx, H2 a = none → H2 dx = none → dx ≠ a → spI X.K C R a vs zs (upd (upd H2 dx (.own a)) a (.ins C dx [])) (fun v H3 => v = .non ∧ Q (.ref a) H3)) := by
    refine ⟨fun pins s σ H Q I h => wpAny_Call_Name_kw (ld_glob I hg hm (PySem.W.callWith_KW (h₀ := X.base) I.ok.mod.kin M.kp hall (thn (pa_can.run pos pins s σ H _ I h) fun us s1 ⟨vs, H1, I1, r, q1⟩ => ?_) hpl he) hdb)⟩
    refine thn (pk.run pos pins s1 σ H1 _ I1 q1) fun ws s2 ⟨zs, H2, I2, rz, l2, q2⟩ => ⟨I2.kIn, ?_⟩
    rw [hks]
    exact run_mkS M Fi hgd hr I2 r rz l2 q2
  refine wpe pe (ha σ F H _ s w fun F1 H1 vs e1 w1 r1 => q σ F1 H1 _ (s.mono e1) w1 fun F2 H2 zs e2 w2 rz => ⟨by rw [rz.length]; exact hkl, fun a dx ha2 hd hne => made w2 (r1.mono e2) rz hR hz (k0.ex (e1.trans e2)) a dx ha2 hd hne⟩)
end
end Vd
set_option Elab.async false
set_option linter.all false
set_option maxRecDepth 100000
set_option maxHeartbeats 4000000
namespace Vd
open PySem L2
open PySem.Spec PyProof.Rows
section
variable {X : Cx} {B : Hp} {env : List (Option D)} {ow : Ow} {a b tg : Expr} {es : List Expr} {d2 : D} {ds : List D} {pos : Pos} {Dn : Ends} {rest : List Stmt}
/-- for i in range(e), e a draw -/
theorem rn_forRM {g : TG} {f : D → List (Option D) → List (Option D)} {body : List Stmt} {p cp : Pos} {P : D → Ow → Prop} (I : Nat → Nat → List (Option D) → Ow → Prop) (hp : PassesOwn (model X.prog X.w) X.A X.env X.xe) (hc : X.calm = true) (hgR : Gl X "range") (hmR : X.mg "range" = none) (hi : Vm X a env ow P) (hP : ∀ d ow2, P d ow2 → ∃ n : Nat, d = .int (n : Int) ∧ n ≤ 100000 ∧ I n 0 env ow2)
    (hg : PG X tg g) (hgd : ∀ ow d, Gd X.K ow g d (f d)) (hs : ∀ n B' i env' ow', Ex B B' → i < n → I n i env' ow' → Rn X B' body (Turn X B' rest Dn (I n (i + 1))) (f (.int (i : Nat)) env') ow') (hd : ∀ n B' env' ow', Ex B B' → I n n env' ow' → Rn X B' rest Dn env' ow')
    (hst : starEach [a] X.env = [(false, eval a X.env)] := by rfl) (hfs : ∀ x, foldedSetIterable (.Call (.Name "range" p) [a] [] cp) X.env x = pure x := by intro _; rfl) : Rn X B (.For tg (.Call (.Name "range" p) [a] [] cp) body [] pos :: rest) Dn env ow := rn_one (by
  refine ⟨_, ps_for hp hc (pi_range1 hgR hmR (pa_cons pe_can pa_nil hst) hst) hg pss_can hfs, fun σ F H eB s w => hi σ F H _ s w fun F1 H1 v d ow2 e1 w1 r1 hPd => ?_⟩
  obtain ⟨n, rfl, hn, h0⟩ := hP d ow2 hPd
  cases r1
  have src : Src X.K (Itr 0 (n : Int).toNat) F1 (rangeD 0 (n : Int).toNat) := src_range
  rw [Int.toNat_natCast] at src
  refine ⟨(n : Int), rfl, by omega, by omega, ?_⟩
  rw [Int.toNat_natCast]
  refine ⟨fun i m σ H => m = n - i ∧ i ≤ n ∧ Nx X.K F1 (I n i) σ H, ⟨n, by simp, Nat.zero_le _, F1, env, ow2, Evl.Ex.refl F1, s.mono e1, w1, h0⟩, ?_⟩
  rintro i m σ' H' ⟨rfl, hi2, F', env', ow', eF, s', w', hI⟩
  obtain ⟨stop, go⟩ := src F' H' ow' i eF w'
  have len : (rangeD 0 n).length = n := rangeD_len 0 n
  by_cases hlt : i < n
  · have hdi : (rangeD 0 n)[i]? = some (.int (i : Nat)) := by simp [rangeD, hlt]
    obtain ⟨hgo, hy⟩ := go (.int (i : Nat)) hdi
    refine .inr ⟨hgo, Nx X.K F1 (I n (i + 1)), fun σ2 H2 q => ⟨n - (i + 1), by omega, rfl, hlt, q⟩, fun x H2 hx => ?_⟩
    obtain ⟨F2, e2, w2, r2⟩ := hy x H2 hx
    refine hgd ow' _ env' σ' F2 H2 x _ (s'.mono e2) w2 r2 fun σ2 s2 => ?_
    exact hs n F1 i env' ow' (eB.trans e1) hlt hI σ2 F2 H2 (eF.trans e2) s2 w2
  · have e : i = n := by omega
    subst e
    exact .inl ⟨stop (by rw [len]; exact Nat.le_refl _), hd i F1 env' ow' (eB.trans e1) hI σ' F' H' eF s' w'⟩)
end
end Vd
set_option Elab.async false
set_option linter.all false
set_option maxRecDepth 100000
set_option maxHeartbeats 4000000
namespace Vd
open PySem L2
open PySem.Spec PyProof.Rows
end Vd
set_option Elab.async false
set_option linter.all false
set_option maxRecDepth 100000
set_option maxHeartbeats 4000000
namespace Vd
open PySem L2
open PySem.Spec PyProof.Rows
section
variable {X : Cx} {B : Hp} {env : List (Option D)} {ow : Ow} {a b it elt cnd : Expr} {ds : List D} {pos spos : Pos} {Dn : Ends} {rest : List Stmt}
abbrev lte (X : Cx) (scope : Scope) (elt : Expr) : TE := fun σ H Q => ∀ (s : Shared) (H0 : Hp) (C : Addr) (cl : List (Str × Addr)) (fp : List Addr), WpE (X.blk s H0 scope (compEnvC scope cl C X.env) fp) elt σ H Q
end
end Vd
set_option Elab.async false
set_option linter.all false
set_option maxRecDepth 100000
set_option maxHeartbeats 4000000
namespace Vd
open PySem L2
open PySem.Spec PyProof.Rows
section
variable {X : Cx} {env : List (Option D)} {ow : Ow} {e v1 v2 : Expr} {es rest : List Expr} {d : D} {pos p : Pos} {y : Str} {ys : List Str}
theorem Rps.strs {K : PySem.W.Frag} {F : Hp} : ∀ l : List Str, Rps K F (l.map V.str) (l.map D.str)
  | [] => .nil
  | x :: l => .cons (.str x) (Rps.strs l)
/-- sep.join([..]) -/
theorem ve_join {o : Expr} {ap : Pos} {sep : Str} {l : List Str} (ho : Ve X o env ow (.str sep)) (h : Ve X e env ow (.lst (l.map D.str))) (hz : (l.map (·.length)).sum + l.length * sep.length ≤ 16777216) (hs : starEach [e] X.env = [(false, eval e X.env)] := by rfl) (hbase : attributeBase o "join" X.env (eval o X.env) = eval o X.env := by rfl) (hline : (ap.endLine == pos.line) = true := by rfl) : Ve X (.Call (.Attribute o "join" ap) [e] [] pos) env ow (.str (Txt.join sep l)) := .mk fun σ F H Q s w k0 => wpe (pe_join pe_can pe_can (hs := hs) (hbase := hbase) (hline := hline)) (ho σ F H _ s w fun F1 H1 x e1 w1 r1 => by
  cases r1
  refine ⟨⟨sep, rfl⟩, h σ F1 H1 _ (s.mono e1) w1 fun F2 H2 y e2 w2 r2 => ?_⟩
  cases r2 with
  | lst g r3 =>
    have z := r3.strsV
    subst z
    exact ⟨sep, _, l, rfl, rfl, .inl (SqL.of (w2.ex _ _ g)), hz, (k0.ex (e1.trans e2)).here w2 (.str _)⟩)
theorem to_strI {i : Int} (h : i.natAbs.log2 < 1920) : TyOk X ow "str" [.int i] (.str (toString i)) := ⟨_, call_str_int, .mk fun F H xs Q w r k => by
  cases r with
  | cons r1 r2 =>
    cases r2
    cases r1
    exact ⟨i, rfl, h, k.here w (.str _)⟩⟩
end
end Vd
set_option Elab.async false
set_option linter.all false
set_option maxRecDepth 100000
set_option maxHeartbeats 4000000
namespace Vd
open PySem L2
open PySem.Spec PyProof.Rows
/-- what of the text a class must have that isinstance looks at its objects -/
structure ClsK (K : PySem.W.Frag) (C : Addr) : Prop where
  cl : Cls K C
  ha : PySem.W.findIn K (.ref C) "__class__" = some (some (.builtin "object.__class__"))
  hn : PySem.W.specialIn K (.builtin "object.__class__") "__get__" = some (some (.builtin "getset_descriptor.__get__"))
  tk : PySem.W.takesIn K (.builtin "object.__class__") = some true
  mo : PySem.W.mroIn K C (.type "object") = some true
/-- the class of a datum -/
inductive Ty (K : PySem.W.Frag) : D → Value → Prop where
  | kind {d : D} {t : String} : d.kind = some t → Ty K d (.type t)
  | ins {C : Addr} {fl : List (Str × D)} : ClsK K C → Ty K (.ins C fl) (.ref C)
theorem Rp.tyx {K : PySem.W.Frag} {F H : Hp} {v : V} {d : D} {t : Value} (r : Rp K F v d) (e : Ex F H) (h : Ty K d t) : TyX K H v t := by
  cases h with
  | kind h => exact r.ty e h
  | ins c =>
    cases r with
    | ins g _ => exact .base (.ins (e _ _ g) c.cl c.ha c.hn c.tk c.mo)
section
variable {γ : Gds} {X : Cx} {env : List (Option D)} {ow : Ow} {e : Expr} {d d2 : D} {C f : Addr} {fl : List (Str × D)} {t : Value} {b : Bool} {fd : FuncData} {ps : List Str} {k : Nat} {R : List D → D → Prop}
/-- isinstance(x, C) -/
theorem fo_isC (ht : Ty X.K d t) (h : PySem.W.kitOne X.K t (.ref C) = some b) : BiOk X ow "isinstance" [d, .ob (.ref C)] (.bl b) := ⟨_, call_isi, .mk fun F H xs Q w r k => by
  cases r with
  | cons r1 r2 =>
    cases r2 with
    | cons r3 r4 =>
      cases r4
      cases r3
      exact ⟨_, .ref C, t, .ref C, b, rfl, .own C, r1.tyx w.ex ht, h, k.here w (.bl _)⟩⟩
theorem inst_of {pins : List (Addr × Obj)} {σ : L2.St} {H : Hp} {s : Shared} {a dx : Addr} {fs : List (Str × V)} (I : Inv X pins σ H s) (ea : H a = some (.ins C dx fs)) : ∃ ox od, PySem.W.InstAt s.heap a ox C od := by
  obtain ⟨mA, O, _⟩ := ins_get I.hok ea
  obtain ⟨od, J, _⟩ := O.look
  exact ⟨_, _, J⟩
def rOwn2 (K : PySem.W.Frag) (C : Addr) (R : List D → D → Prop) (t : Value) (g : Bool → Bool) : R2 := fun x y H Q => ∃ a dx fs, x = .ref a ∧ H a = some (.ins C dx fs) ∧ TyX K H y t ∧ spR K R [x, y] H (fun v H' => ∃ b, v = .bl b ∧ Q (.bl (g b)) H') E0
def rOwnIn (K : PySem.W.Frag) (C : Addr) (R : List D → D → Prop) : R2 := fun x y H Q => ∃ a dx fs, y = .ref a ∧ H a = some (.ins C dx fs) ∧ spR K R [y, x] H (fun v H' => ∃ b, v = .bl b ∧ Q (.bl b) H') E0
theorem typeof_of {pins : List (Addr × Obj)} {σ : L2.St} {H : Hp} {s : Shared} {y : V} {u : Value} (I : Inv X pins σ H s) (r : RelV y u) (h : TyX X.K H y t) : PySem.W.Looks (model X.prog X.w) s.heap (typeOf u) t := by
  obtain ⟨P, Z, p, _⟩ := kit_of I r h
  exact Z.ty _ _ I.kIn p
theorem op_inOwn (F : FnG γ X.prog X.w X.K X.mg X.base CX0 k f fd ps (spR X.K R)) (hgd : γ X.A.guards) (hr : Room k X.A) (hb : Binds X.K fd ps []) (hs : PySem.W.findIn X.K (.ref C) "__contains__" = some (some (.ref f))) (hf : PySem.W.isFn X.K (.ref f) = true) : OpR X (compareOp .In) (rOwnIn X.K C R) := by
  intro pins s σ H x y v u Q I rx ry h
  obtain ⟨a, dx, fs, ex, ea, q⟩ := h
  subst ex
  obtain rfl : u = Value.ref a := ry
  obtain ⟨ox, od, J⟩ := inst_of I ea
  obtain ⟨m, fr⟩ := I.fr
  refine PySem.W.in_K fr I.ok.mod.kin J hs hf ?_
  refine wpAny_mono (run_fnG (us := [.ref a, v]) (vs := [.ref a, x]) F hgd hr hb .nil pass0 I (.cons rfl (.cons rx .nil)) q) (fun r s' z => ?_) fun _ _ z => z
  obtain ⟨z, H', I', rz, b, ez, q2⟩ := z
  subst ez
  obtain rfl : r = Value.bool b := rz
  exact wpAny_truthy_bool ⟨.bl b, H', I', rfl, q2⟩
theorem co_inOwn {c : Expr} (hm : behindInMarks .In c = false) (F : FnG γ X.prog X.w X.K X.mg X.base CX0 k f fd ps (spR X.K R)) (hgd : γ X.A.guards) (hr : Room k X.A) (hb : Binds X.K fd ps []) (hs : PySem.W.findIn X.K (.ref C) "__contains__" = some (some (.ref f))) (hf : PySem.W.isFn X.K (.ref f) = true) (hR : R [.ins C fl, d] (.bl b)) : CmpOk X ow .In c d (.ins C fl) (.bl b) := ⟨_, op_inOwn F hgd hr hb hs hf, hm, .mk fun F1 H x y Q w r1 r2 k0 => by
  have keep := r2
  cases r2 with
  | @ins a C2 dx fs l g1 r3 =>
    refine ⟨a, dx, fs, rfl, w.ex _ _ g1, F1, ow, _, _, w, .cons keep (.cons r1 .nil), hR, fun F2 H2 v e2 w2 r4 => ?_⟩
    have r5 := r4
    cases r4
    exact ⟨b, rfl, k0 F2 H2 _ e2 w2 r5⟩⟩
end
end Vd
set_option Elab.async false
set_option linter.all false
set_option maxRecDepth 100000
set_option maxHeartbeats 4000000
namespace Vd
open PySem L2
open PySem.Spec PyProof.Rows
section
variable {prog : Program} {w : World} {A : Around} {E : Value → Shared → Prop} {s : Shared}
/-- bool(x) by what the truth of x comes to -/
theorem call_truth {x : Value} {Q : Value → Shared → Prop} (h : wpAny (model prog w) A.in1.in1 (truthy x) (fun b s' => Q (.bool b) s') E s) : wpAny (model prog w) A (call (.type "bool") [x]) Q E s := by
  refine callType_codes (Q₁ := fun obj s1 => ∃ b, obj = .bool b ∧ Q (.bool b) s1) F.called_bool (F.typeCall_bool_1 x) F.entry_object_init ?_ ?_
  · refine codeAny_call_builtin F.called_bool.plain F.entry_bool_new (wpAny_of_eq (F.newCall_bool_1 x) ?_)
    obtain ⟨hp, g, d, tk, os⟩ := s
    have f1 := F.conv_sub_bool
    unfold Builtin.«bool.__new__»
    wp_step
    wp_step
    wp_step
    wp_step
    show wpAny _ _ (isSubtype _ _ >>= _) _ _ _
    refine wpAny_bind (wpAny_of_eq f1 ?_)
    rw [if_neg (by simp)]
    show wpAny _ _ (someArgs "bool" 0 1 _ >>= _) _ _ _
    refine wpAny_bind (wpAny_of_eq (a := [x]) (by rfl) ?_)
    show wpAny _ _ (truthy x >>= _) _ _ _
    refine wpAny_bind (wpAny_mono h (fun b s' q => ?_) fun _ _ z => z)
    exact wpAny_pure ⟨b, rfl, q⟩
  · rintro obj s1 ⟨b, rfl, q⟩
    refine ⟨PySem.typeIs_bool _ _, F.args_object_init_2 _ _, ?_⟩
    exact object_init_meets F.called_bool.init.lookup F.called_bool.made F.newNe_bool prog w A.in1 _ s1 ⟨PySem.typeIs_bool _ _, rfl, q⟩
end
section
variable {γ : Gds} {X : Cx} {env : List (Option D)} {ow : Ow} {e : Expr} {d d2 : D} {C f : Addr} {fl : List (Str × D)} {t : Value} {b : Bool} {fd : FuncData} {ps : List Str} {k : Nat} {R : List D → D → Prop} {l : List D} {pos : Pos}
theorem call_boolT : CallR X (.type "bool") (fun xs H Q => ∃ (a : Addr) (zs : List V), xs = [.ref a] ∧ SqT X.K H a zs ∧ Q (.bl (!zs.isEmpty)) H) := by
  intro pins s σ H xs us Q I r h
  obtain ⟨a, zs, rfl, hq, q⟩ := h
  obtain rfl := Vals.ref1 r
  obtain ⟨its, rv, pl, hz⟩ := I.tuple hq
  have hl := line63
  have hlen := rv.length
  refine call_truth (truthy_tuple pl (by simp only [List.size_toArray]; omega) ?_)
  rw [isEmpty_of rv]
  exact ⟨.bl (!zs.isEmpty), H, I.tok _, rfl, q⟩
theorem to_boolT : TyOk X ow "bool" [.tup l] (.bl (!l.isEmpty)) := ⟨_, call_boolT, .mk fun F H xs Q w r k => by
  cases r with
  | cons r1 r2 =>
    cases r2
    cases r1 with
    | @tup a zs l g s1 =>
      refine ⟨a, zs, rfl, Evl.ex_t w.ex g, ?_⟩
      have z : zs.isEmpty = l.isEmpty := by cases s1 <;> rfl
      rw [z]
      exact k.here w (.bl _)⟩
/-- the truth of an object by its own def -/
theorem truth_own {A : Around} {E : Value → Shared → Prop} {pins : List (Addr × Obj)} {σ : L2.St} {H : Hp} {s : Shared} {a dx : Addr} {fs : List (Str × V)} {Q : Bool → Hp → Prop} (I : Inv X pins σ H s) (hA : Env0 X.prog X.w X.K X.mg X.base A X.stack s H) (ea : H a = some (.ins C dx fs)) (F : FnG γ X.prog X.w X.K X.mg X.base CX0 k f fd ps (spR X.K R)) (hgd : γ A.guards) (hr : Room k A) (hb : Binds X.K fd ps [])
    (hs : PySem.W.findIn X.K (.ref C) "__bool__" = some (some (.ref f))) (hf : PySem.W.isFn X.K (.ref f) = true) (q : spR X.K R [.ref a] H (fun v H' => ∃ b, v = .bl b ∧ Q b H') E0) : wpAny (model X.prog X.w) A (truthy (.ref a)) (fun b s' => ∃ H', Inv X pins σ H' s' ∧ Q b H') E s := by
  obtain ⟨ox, od, J⟩ := inst_of I ea
  obtain ⟨m, fr⟩ := I.fr
  refine PySem.W.truthy_K fr I.ok.mod.kin J hs hf ?_
  have one : (([Value.ref a] : List Value) ++ []).length = ps.length := by
    rw [← F.len _ _ _ _ q]
    rfl
  have bnd := hb s [.ref a] I.kIn one
  rw [List.append_nil] at bnd
  refine wpAny_call (codeAny_mono (F.run A X.stack s H ⟨[.ref a], []⟩ [.ref a] [.ref a] _ E0 hgd hr hA bnd (.cons rfl .nil) q) fun r s' hq => ?_)
  match r, hq with
  | .error er, hq => exact False.elim hq
  | .ok (.ret u), hq =>
    obtain ⟨v, H', I3, rv, b, ey, q3⟩ := I.after hq
    subst ey
    obtain rfl : u = Value.bool b := rv
    exact ⟨H', I3, q3⟩
  | .ok .next, hq => exact False.elim hq
  | .ok .brk, hq => exact False.elim hq
  | .ok .cont, hq => exact False.elim hq
theorem call_boolOwn (F : FnG γ X.prog X.w X.K X.mg X.base CX0 k f fd ps (spR X.K R)) (hgd : γ X.A.guards) (hr : Room (k + 2) X.A) (hb : Binds X.K fd ps []) (hs : PySem.W.findIn X.K (.ref C) "__bool__" = some (some (.ref f))) (hf : PySem.W.isFn X.K (.ref f) = true) : CallR X (.type "bool") (fun xs H Q => ∃ a dx fs, xs = [.ref a] ∧ H a = some (.ins C dx fs) ∧ spR X.K R [.ref a] H (fun v H' => ∃ b, v = .bl b ∧ Q (.bl b) H') E0) := by
  intro pins s σ H xs us Q I rx h
  obtain ⟨a, dx, fs, rfl, ea, q⟩ := h
  obtain rfl := Vals.ref1 rx
  refine call_truth (wpAny_mono (truth_own (Q := fun b H' => Q (.bl b) H') I I.env0.in1.in1 ea F hgd hr.in1.in1 hb hs hf q) (fun b s' z => ?_) fun _ _ z => z)
  obtain ⟨H', I', q'⟩ := z
  exact ⟨.bl b, H', I', rfl, q'⟩
theorem to_boolOwn (F : FnG γ X.prog X.w X.K X.mg X.base CX0 k f fd ps (spR X.K R)) (hgd : γ X.A.guards) (hr : Room (k + 2) X.A) (hb : Binds X.K fd ps []) (hs : PySem.W.findIn X.K (.ref C) "__bool__" = some (some (.ref f))) (hf : PySem.W.isFn X.K (.ref f) = true) (hR : R [.ins C fl] (.bl b)) : TyOk X ow "bool" [.ins C fl] (.bl b) := ⟨_, call_boolOwn F hgd hr hb hs hf, .mk fun F1 H xs Q w r k0 => by
  cases r with
  | cons r1 r2 =>
    cases r2
    have keep := r1
    cases r1 with
    | @ins a C2 dx fs l g1 r3 =>
      refine ⟨a, dx, fs, rfl, w.ex _ _ g1, F1, ow, _, _, w, .cons keep .nil, hR, fun F2 H2 v e2 w2 r2 => ?_⟩
      have r4 := r2
      cases r2
      exact ⟨b, rfl, k0 F2 H2 _ e2 w2 r4⟩⟩
/-- an object in a test -/
theorem vt_own (F : FnG γ X.prog X.w X.K X.mg X.base CX0 k f fd ps (spR X.K R)) (hgd : γ X.A.guards) (hr : Room k X.A) (hb : Binds X.K fd ps []) (hs : PySem.W.findIn X.K (.ref C) "__bool__" = some (some (.ref f))) (hf : PySem.W.isFn X.K (.ref f) = true) (h : Ve X e env ow (.ins C fl)) (hR : R [.ins C fl] (.bl b)) (he : ∀ whole, isTrue e X.env whole = (do let v ← whole; standAt e.pos; holding [v] (truthy v)) := by intro _; rfl) : Vt X e env ow b := .mk fun σ F1 H Q s w k0 => by
  have p : PT X e (fun σ H Q => WpE X e σ H fun x H1 => ∃ a dx fs, x = .ref a ∧ H1 a = some (.ins C dx fs) ∧ spR X.K R [.ref a] H1 (fun v H' => ∃ b, v = .bl b ∧ Q b H') E0) := by
    refine ⟨fun pins s σ H Q I hh => ?_⟩
    rw [he]
    refine wpAny_bind (thn (pe_can.run pins s σ H _ I hh) fun u s1 ⟨x, H1, I1, rx, a, dx, fs, ex, ea, q⟩ => ?_)
    subst ex
    obtain rfl : u = Value.ref a := rx
    exact wpAny_bind (wpAny_standAt (wpAny_holding (truth_own I1 I1.env0 ea F hgd hr hb hs hf q)))
  refine wpt p (h σ F1 H _ s w fun F2 H2 v e2 w2 r2 => ?_)
  have keep := r2
  cases r2 with
  | @ins a C2 dx fs l g1 r3 =>
    refine ⟨a, dx, fs, rfl, w2.ex _ _ g1, F2, ow, _, _, w2, .cons keep .nil, hR, fun F3 H3 v e3 w3 r4 => ?_⟩
    cases r4
    exact ⟨b, rfl, k0 F3 H3 (e2.trans e3) w3⟩
end
end Vd
set_option Elab.async false
set_option linter.all false
set_option maxRecDepth 100000
set_option maxHeartbeats 4000000
namespace Vd
open PySem L2
open PySem.Spec PyProof.Rows
section
variable {prog : Program} {w : World} {A : Around} {E : Value → Shared → Prop} {s : Shared} {K : PySem.W.Frag} {x C L f : Addr} {h₀ : Heap} {m : Str → Option Value} {ox : Obj} {od : Option Obj} {b tb : Value}
/-- what is asked: the class takes its != from object -/
structure NeOf (K : PySem.W.Frag) (C f : Addr) : Prop where
  ne : PySem.W.findIn K (.ref C) "__ne__" = some (some (.builtin "object.__ne__"))
  sub : PySem.W.subIn K (.ref C) (.type "object") = some true
  eq : PySem.W.findIn K (.ref C) "__eq__" = some (some (.ref f))
  fn : PySem.W.isFn K (.ref f) = true
theorem ne_own {Q : Value → Shared → Prop} (hu : A.units + 1 < cLine) (frm : Fr h₀ L s.heap m) (X₀ : K.In h₀) (I : PySem.W.InstAt s.heap x ox C od) (hb : PySem.W.Looks (model prog w) s.heap (typeOf b) tb) (hn : PySem.W.notFirst K C tb = true) (T : NeOf K C f)
    (h : wpAny (model prog w) A.in1 (call (.ref f) [.ref x, b]) (fun v s' => ∃ t, v = .bool t ∧ Q (.bool (!t)) s') E s) : wpAny (model prog w) A (richCompare .NotEq (.ref x) b) Q E s := by
  have X := X₀.keeps frm.keep
  have inner : wpAny (model prog w) A.in1 (Builtin.«object.__ne__» ⟨[.ref x, b], []⟩) (fun fin s' => match fin with | .done fl => (match fl with | .ret v => Q v s' ∧ v ≠ .notImplemented | _ => False) | .again _ => False) E s := by
    unfold Builtin.«object.__ne__»
    refine wpAny_bind (wpAny_of_eq (a := (.ref x, [b])) (by rfl) ?_)
    show wpAny _ _ (cRoomFor "comparison" _ >>= _) _ _ _
    refine wpAny_bind (wpAny_cRoomFor (by show A.units + 1 < cLine; exact hu) ?_)
    refine wpAny_bind (PySem.W.ifBound_K X I T.eq T.fn (wpAny_mono h (fun v s' hv => ?_) fun _ _ e => e))
    obtain ⟨t, rfl, q⟩ := hv
    show wpAny _ _ (truthy (.bool t) >>= _) _ _ _
    refine wpAny_bind (wpAny_truthy_bool ?_)
    exact wpAny_pure ⟨q, fun z => by cases z⟩
  have one : wpAny (model prog w) A (tryCompare (.ref x) (cmpInfo .NotEq).2.1 b) (fun r s' => ∃ v, r = some v ∧ Q v s') E s := by
    unfold tryCompare
    simp only [callSpecialIfBound?, bindSpecialIfBound?]
    refine wpAny_bind (wpAny_holding (wpAny_bind (wpAny_bind (wpAny_bind (I.type.here ((PySem.W.looks_findIn X T.ne).here ?_))))))
    have call1 : wpAny (model prog w) A (call (.builtin "object.__ne__") ([.ref x] ++ [b])) (fun v s' => Q v s' ∧ v ≠ .notImplemented) E s := by
      have isObj : PySem.W.Looks (model prog w) s.heap (isInstance (.ref x) (.type "object")) true := I.type.andThen (PySem.W.looks_subIn X T.sub)
      refine wpAny_call (codeAny_call_builtin PySem.F.cmp_object.ne.plain PySem.F.cmpEntry_ne (@PySem.W.check_slot (model prog w) _ _ s "object.__ne__" "object" "__ne__" (.ref x) [b] [] _ PySem.F.cmpKind_ne PySem.F.cmpSplit_ne isObj (PySem.F.cmpArgs_ne _ _) ?_))
      refine wpAny_mono inner (fun fin s' z => ?_) fun _ _ e => e
      cases fin with
      | again c => exact z.elim
      | done fl => cases fl <;> first | exact z | exact z.elim
    have fin : wpAny (model prog w) A (call (.builtin "object.__ne__") ([.ref x] ++ [b]) >>= fun v => pure (some v)) (fun r s' => wpAny (model prog w) A (match r with | some .notImplemented | none => pure none | some v => pure (some v)) (fun r s' => ∃ v, r = some v ∧ Q v s') E s') E s :=
      wpAny_bind (wpAny_mono call1 (fun v s' hv => wpAny_pure (by
        obtain ⟨q, ne⟩ := hv
        cases v <;> first | exact absurd rfl ne | exact wpAny_pure ⟨_, rfl, q⟩)) fun _ _ e => e)
    refine wpAny_bind (wpAny_askSetting (wpAny_ite ?_))
    split
    · refine wpAny_bind ((PySem.W.Looks.of_pure (PySem.F.cmp_object.ne.bind (.ref x))).here (wpAny_pure ?_))
      exact fin
    · refine wpAny_tryCatch ?_
      refine wpAny_bind ((PySem.W.Looks.of_pure (PySem.F.cmp_object.ne.bind (.ref x))).here (wpAny_pure ?_))
      exact fin
  unfold richCompare
  rw [oneThing_ref]
  refine wpAny_holding (wpAny_bind (wpAny_cRoomFor (Nat.lt_of_succ_lt hu) ?_))
  refine wpAny_bind (I.type.here ?_)
  refine wpAny_bind (hb.here ?_)
  by_cases q : (Value.ref C != tb) = true
  · have e : PySem.W.subIn K tb (.ref C) = some false := (Bool.or_eq_true_iff.mp hn).elim (fun z => by
      rw [beq_iff_eq.mp z] at q
      simp at q) fun z => beq_iff_eq.mp z
    dsimp only
    rw [if_pos q]
    refine wpAny_bind ((PySem.W.looks_subIn X e).here ?_)
    rw [if_neg Bool.false_ne_true]
    refine wpAny_bind (wpAny_mono one (fun r s' z => ?_) fun _ _ y => y)
    obtain ⟨v, rfl, q2⟩ := z
    exact wpAny_pure q2
  · dsimp only
    rw [if_neg q]
    refine wpAny_bind (wpAny_pure ?_)
    rw [if_neg Bool.false_ne_true]
    refine wpAny_bind (wpAny_mono one (fun r s' z => ?_) fun _ _ y => y)
    obtain ⟨v, rfl, q2⟩ := z
    exact wpAny_pure q2
end
section
variable {γ : Gds} {X : Cx} {ow : Ow} {c : Expr} {d2 : D} {C f : Addr} {fl : List (Str × D)} {t : Value} {b : Bool} {fd : FuncData} {ps : List Str} {k : Nat} {R : List D → D → Prop}
theorem op_neOwn (F : FnG γ X.prog X.w X.K X.mg X.base CX0 k f fd ps (spR X.K R)) (hgd : γ X.A.guards) (hr : Room (k + 1) X.A) (hb : Binds X.K fd ps []) (T : NeOf X.K C f) (hn : PySem.W.notFirst X.K C t = true) : OpR X (compareOp .NotEq) (rOwn2 X.K C R t not) := by
  intro pins s σ H x y v u Q I rx ry h
  obtain ⟨a, dx, fs, ex, ea, ty, q⟩ := h
  subst ex
  obtain rfl : v = Value.ref a := rx
  obtain ⟨ox, od, J⟩ := inst_of I ea
  obtain ⟨m, fr⟩ := I.fr
  refine ne_own (tb := t) (by have := hr.units; omega) fr I.ok.mod.kin J (typeof_of I ry ty) hn T ?_
  have two : (([Value.ref a, u] : List Value) ++ []).length = ps.length := by
    rw [← F.len _ _ _ _ q]
    rfl
  have bnd := hb s [.ref a, u] I.kIn two
  rw [List.append_nil] at bnd
  refine wpAny_call (codeAny_mono (F.run X.A.in1 X.stack s H ⟨[.ref a, u], []⟩ [.ref a, u] [.ref a, y] _ E0 hgd hr.in1 I.env0.in1 bnd (.cons rfl (.cons ry .nil)) q) fun r s' hq => ?_)
  match r, hq with
  | .error er, hq => exact False.elim hq
  | .ok (.ret w), hq =>
    obtain ⟨v, H', I3, rv, b, ey, q3⟩ := I.after hq
    subst ey
    obtain rfl : w = Value.bool b := rv
    exact ⟨b, rfl, .bl (!b), H', I3, rfl, q3⟩
  | .ok .next, hq => exact False.elim hq
  | .ok .brk, hq => exact False.elim hq
  | .ok .cont, hq => exact False.elim hq
theorem co_neOwn (F : FnG γ X.prog X.w X.K X.mg X.base CX0 k f fd ps (spR X.K R)) (hgd : γ X.A.guards) (hr : Room (k + 1) X.A) (hb : Binds X.K fd ps []) (T : NeOf X.K C f) (ht : Ty X.K d2 t) (hn : PySem.W.notFirst X.K C t = true) (hR : R [.ins C fl, d2] (.bl b)) : CmpOk X ow .NotEq c (.ins C fl) d2 (.bl (!b)) := ⟨_, op_neOwn F hgd hr hb T hn, nomark _, .mk fun F1 H x y Q w r1 r2 k0 => by
  have keep := r1
  cases r1 with
  | @ins a C2 dx fs l g1 r3 =>
    refine ⟨a, dx, fs, rfl, w.ex _ _ g1, r2.tyx w.ex ht, F1, ow, _, _, w, .cons keep (.cons r2 .nil), hR, fun F2 H2 v e2 w2 r4 => ?_⟩
    cases r4
    exact ⟨b, rfl, k0 F2 H2 _ e2 w2 (.bl _)⟩⟩
end
end Vd
set_option Elab.async false
set_option linter.all false
set_option maxRecDepth 100000
set_option maxHeartbeats 4000000
namespace Vd
open PySem L2
open PySem.Spec PyProof.Rows GenW
end Vd
set_option Elab.async false
set_option linter.all false
set_option maxRecDepth 100000
set_option maxHeartbeats 4000000
namespace Vd
open PySem L2
open PySem.Spec PyProof.Rows GenW
end Vd
set_option Elab.async false
set_option linter.all false
set_option maxRecDepth 100000
set_option maxHeartbeats 4000000
namespace Vd
open PySem L2
open PySem.Spec PyProof.Rows
section
variable {X : Cx} {B : Hp} {env : List (Option D)} {ow : Ow} {it elt : Expr} {ds : List D} {pos spos : Pos} {Dn : Ends} {rest : List Stmt} {ifs : List Expr}
abbrev ltts (X : Cx) (scope : Scope) (ifs : List Expr) : TT := fun σ H Q => ∀ (s : Shared) (H0 : Hp) (C : Addr) (cl : List (Str × Addr)) (fp : List Addr), WpTs (X.blk s H0 scope (compEnvC scope cl C X.env) fp) ifs σ H Q
theorem lc_read {scope : Scope} {j : Nat} {wi : TI} (kp : D → Bool) (f : D → D)
    (hw : ∀ (σ : L2.St) (F H : Hp) (R : It → Hp → Prop), Sl X.K F σ env → Wo X.K ow F H → (∀ J F1 H1, Ex F F1 → Wo X.K ow F1 H1 → Src X.K J F1 ds → R J H1) → wi σ H R) (hl : ds.length ≤ 100000)
    (ht : ∀ d ow', d ∈ ds → Sub ow ow' → ∀ (s : Shared) (H : Hp) (C : Addr) (cl : List (Str × Addr)) (fp : List Addr), Vts (X.blk s H scope (compEnvC scope cl C X.env) fp) ifs ((env.set j none).set j (some d)) ow' (kp d))
    (he : ∀ d ow', d ∈ ds → kp d = true → Sub ow ow' → ∀ (s : Shared) (H : Hp) (C : Addr) (cl : List (Str × Addr)) (fp : List Addr), Ve (X.blk s H scope (compEnvC scope cl C X.env) fp) elt ((env.set j none).set j (some d)) ow' (f d))
    (σ : L2.St) (F H : Hp) (Q : VK) (s : Sl X.K F σ env) (w : Wo X.K ow F H) (k0 : Post X.K ow F (.lst ((ds.filter kp).map f)) Q) : tLc wi (gName j) (ltts X scope ifs) (lte X scope elt) [j] σ H Q := by
  refine hw σ F H _ s w fun J F1 H1 e1 w1 src => ?_
  intro Dl hD
  refine ⟨fun i m H => m = ds.length - i ∧ i ≤ ds.length ∧ ∃ F2 xs, Ex F1 F2 ∧ Wo X.K ow F2 H ∧ F2 Dl = none ∧ ow Dl = none ∧ H Dl = some (.lst xs) ∧ Rps X.K F2 xs (((ds.take i).filter kp).map f), ⟨ds.length, by simp, Nat.zero_le _, F1, [], Evl.Ex.refl F1, w1.grow hD, w1.free hD, w1.ofree hD, upd_same, .nil⟩, ?_⟩
  rintro i m H2 ⟨rfl, hi, F2, xs, e2, w2, hF2, hoD, hH2, r2⟩
  obtain ⟨stop, go⟩ := src F2 H2 ow i e2 w2
  by_cases hlt : i < ds.length
  · have hdi : ds[i]? = some ds[i] := by simp [hlt]
    have htk : ds.take (i + 1) = ds.take i ++ [ds[i]] := by rw [List.take_add_one, hdi]; rfl
    obtain ⟨hgo, hy⟩ := go ds[i] hdi
    refine .inr ⟨hgo, fun H3 => ∃ F3 xs, Ex F1 F3 ∧ Wo X.K ow F3 H3 ∧ F3 Dl = none ∧ ow Dl = none ∧ H3 Dl = some (.lst xs) ∧ Rps X.K F3 xs (((ds.take (i + 1)).filter kp).map f), fun H3 q => ⟨ds.length - (i + 1), by omega, rfl, hlt, q⟩, fun x H3 hx => ?_⟩
    -- the new list's place is owned meanwhile
    have w2' : Wo X.K (ou ow Dl (.lst (((ds.take i).filter kp).map f))) F2 H2 := ⟨w2.ex, fun a o q => by
      by_cases z : a = Dl
      · subst z
        rw [ou_same] at q
        cases q
        exact ⟨hF2, xs, hH2, r2⟩
      · rw [ou_ne z] at q
        exact w2.own a o q⟩
    obtain ⟨stop', go'⟩ := src F2 H2 _ i e2 w2'
    obtain ⟨_, hy'⟩ := go' ds[i] hdi
    obtain ⟨F3, e3, w3', r3⟩ := hy' x H3 hx
    have sub : ∀ a o, ow a = some o → ou ow Dl (.lst (((ds.take i).filter kp).map f)) a = some o := fun a o q => by
      rw [ou_ne (fun z => by rw [z, hoD] at q; cases q)]
      exact q
    have sl : Sl X.K F3 ((L2.wipe σ [j]).set j (some x)) ((env.set j none).set j (some ds[i])) := (((s.mono (e1.trans (e2.trans e3))).unset j).set r3 j)
    refine ⟨wipe_one, fun s0 H0 C cl fp => ?_⟩
    have hmem : ds[i] ∈ ds := List.getElem_mem hlt
    obtain ⟨tt, ptt, qtt⟩ := ht ds[i] _ hmem sub s0 H0 C cl fp
    intro pins s' I
    refine ptt.run pins s' _ H3 _ I (qtt _ F3 H3 _ sl w3' fun F4 H4 e4 w4 => ?_)
    cases hk : kp ds[i] with
    | true =>
      rw [if_pos rfl]
      intro s1 H01 C1 cl1 fp1
      refine he ds[i] _ hmem hk sub s1 H01 C1 cl1 fp1 _ F4 H4 _ (sl.mono e4) w4 fun F5 H5 y e5 w5 r5 => ?_
      obtain ⟨n5, ys, h5, s5⟩ := w5.own Dl _ ou_same
      refine ⟨ys, h5, ?_, F5, ys ++ [y], e2.trans (e3.trans (e4.trans e5)), ?_, n5, hoD, upd_same, ?_⟩
      · have z := s5.length
        have y1 : (((ds.take i).filter kp).map f).length ≤ i := by
          rw [List.length_map]
          exact Nat.le_trans (List.length_filter_le _ _) (by rw [List.length_take]; omega)
        exact Evl.sz_lt (by omega)
      · exact (w5.setL ou_same (s5.append (.cons r5 .nil))).drop fun a o q => by
          rw [ou_ne (fun z => by rw [z, hoD] at q; cases q)]
          exact sub a o q
      · rw [htk, List.filter_append, List.map_append]
        have y2 : ([ds[i]].filter kp).map f = [f ds[i]] := by simp [hk]
        rw [y2]
        exact s5.append (.cons r5 .nil)
    | false =>
      rw [if_neg Bool.false_ne_true]
      obtain ⟨n5, ys, h5, s5⟩ := w4.own Dl _ ou_same
      refine ⟨F4, ys, e2.trans (e3.trans e4), w4.drop sub, n5, hoD, h5, ?_⟩
      rw [htk, List.filter_append, List.map_append]
      have y2 : ([ds[i]].filter kp).map f = [] := by simp [hk]
      rw [y2, List.append_nil]
      exact s5
  · have e : i = ds.length := by omega
    subst e
    refine .inl ⟨stop (Nat.le_refl _), ?_⟩
    rw [List.take_length] at r2
    exact k0 (upd F2 Dl (.lst xs)) H2 _ ((e1.trans e2).trans (Evl.Ex.new hF2)) (w2.freeze hF2 hH2 hoD) (.lst upd_same (r2.mono (Evl.Ex.new hF2)))
/-- name = [elt for y in it if ..] in one row -/
theorem rn_setLc {scope : Scope} {j i : Nat} {y x : Str} {py px : Pos} (kp : D → Bool) (f : D → D) (hc : X.calm = true) (hN : X.N.Nodup) (hx : X.N[i]? = some x) (hxl : X.env.scope.names.lookup x = some .local) (hsw : swapsWith (.ListComp elt [⟨.Name y py, it, ifs, 0⟩] scope pos) (some (.Name x px)) spos.line X.env = pure true)
    (hi : Vi X (.Name y py) it env ow ds) (ok : BlkOk X.N X.env.scope scope [(y, j)]) (hl : ds.length ≤ 100000)
    (hg : ∀ (s : Shared) (H : Hp) (C : Addr) (cl : List (Str × Addr)) (fp : List Addr), PG (X.blk s H scope (compEnvC scope cl C X.env) fp) (.Name y py) (gName j))
    (ht : ∀ d ow', d ∈ ds → Sub ow ow' → ∀ (s : Shared) (H : Hp) (C : Addr) (cl : List (Str × Addr)) (fp : List Addr), Vts (X.blk s H scope (compEnvC scope cl C X.env) fp) ifs ((env.set j none).set j (some d)) ow' (kp d))
    (he : ∀ d ow', d ∈ ds → kp d = true → Sub ow ow' → ∀ (s : Shared) (H : Hp) (C : Addr) (cl : List (Str × Addr)) (fp : List Addr), Ve (X.blk s H scope (compEnvC scope cl C X.env) fp) elt ((env.set j none).set j (some d)) ow' (f d))
    (k : ∀ B', Ex B B' → Rn X B' rest Dn (env.set i (some (.lst ((ds.filter kp).map f)))) ow)
    (hsf : ∀ x, foldedSetIterable it X.env x = pure x := by intro _; rfl) : Rn X B (.Assign [.Name x px] (.ListComp elt [⟨.Name y py, it, ifs, 0⟩] scope pos) spos :: rest) Dn env ow := rn_one (by
  obtain ⟨wi, pi, hw⟩ := hi
  refine ⟨_, ps_setLc (own := [(y, j)]) (g := gName j) (tt := ltts X scope ifs) (te := lte X scope elt) hc hN hx hxl hsw pi ok hg (fun s0 H0 C cl fp => ⟨fun pins s σ H Q I h => h s0 H0 C cl fp pins s I⟩) (fun s0 H0 C cl fp => ⟨fun pins s σ H Q I h => h s0 H0 C cl fp pins s I⟩) hsf, fun σ F H eB s w => ?_⟩
  exact lc_read kp f hw hl ht he σ F H _ s w fun F1 H1 v e1 w1 r1 => k F1 (eB.trans e1) _ F1 H1 (Evl.Ex.refl F1) ((s.mono e1).set r1 i) w1)
end
end Vd
set_option Elab.async false
set_option linter.all false
set_option maxRecDepth 100000
set_option maxHeartbeats 4000000
namespace Vd
open PySem L2
open PySem.Spec PyProof.Rows
end Vd
set_option Elab.async false
set_option linter.all false
set_option maxRecDepth 100000
set_option maxHeartbeats 4000000
namespace Vd
open PySem L2
open PySem.Spec PyProof.Rows
end Vd
set_option Elab.async false
set_option linter.all false
set_option maxRecDepth 100000
set_option maxHeartbeats 4000000
namespace Vd
open PySem L2
open PySem.Spec PyProof.Rows
section
variable {γ : Gds} {X : Cx} {env : List (Option D)} {ow : Ow} {e : Expr} {es : List Expr} {kws : List Keyword} {d : D} {ds kd : List D} {pos p kpos : Pos} {nm : Option Str} {C f : Addr} {k : Nat} {ks : List Str} {fl : List (Str × D)} {x : Str} {R : List D → List D → List (Str × D) → Prop}
/-- what the making comes to where the object is still owned -/
theorem madeO {F2 H2 : Hp} {vs zs : List V} {Q : VK} (w2 : Wo X.K ow F2 H2) (r : Rps X.K F2 vs ds) (rz : Rps X.K F2 zs kd) (hR : R ds kd fl) (hz : ds.length ≤ 100000) (a dx : Addr) (ha : H2 a = none) (hd : H2 dx = none) (hne : dx ≠ a)
    (k0 : ow a = none → ∀ F4 H4, Ex F2 F4 → Wo X.K (ou ow a (.ins C fl)) F4 H4 → Q (.ref a) H4) :
    spI X.K C R a vs zs (upd (upd H2 dx (.own a)) a (.ins C dx [])) (fun v H3 => v = .non ∧ Q (.ref a) H3) := by
  have w3 := w2.new (o := .own a) hd
  have e3 := w2.exnew (o := .own a) hd
  have ha3 : upd H2 dx (.own a) a = none := by rw [upd_ne (Ne.symm hne)]; exact ha
  have oa : ow a = none := w2.ofree ha
  have w4 : Wo X.K (ou ow a (.ins C [])) (upd F2 dx (.own a)) (upd (upd H2 dx (.own a)) a (.ins C dx [])) := by
    have y := w3.grow (o := .ins C dx []) ha3
    refine ⟨y.ex, fun b o q => ?_⟩
    by_cases z : b = a
    · subst z
      rw [ou_same] at q
      cases q
      exact ⟨w3.free ha3, dx, [], upd_same, .nil⟩
    · rw [ou_ne z] at q
      exact y.own b o q
  exact ⟨_, ow, ds, kd, fl, w4, r.mono e3, rz.mono e3, hR, hz, fun F4 H4 e4 w5 => ⟨rfl, k0 oa F4 H4 (e3.trans e4) w5⟩⟩
/-- C(k = v, ..), still to be changed -/
theorem vm_mk0 (M : Mk X.K C f) (Fi : InS γ X.prog X.w X.K X.mg X.base k f ks (spI X.K C R)) (hgd : γ X.A.guards) (hr : Room (k + 1) X.A) (hg : Gl X x) (hm : X.mg x = some (.ref C)) (hk : Vk X kws env ow kd) (hkl : kd.length = ks.length) (hR : R [] kd fl)
    (hall : (backToKw pos (keywordEach kws X.env)).all (·.1.isSome) = true := by rfl) (hks : (backToKw pos (keywordEach kws X.env)).filterMap (·.1) = ks := by rfl) (hdb : (x == ("__debug__" : Str)) = false := by decide)
    (hpl : ((backTo pos (starEach [] X.env)).any (·.1) || (backToKw pos (keywordEach kws X.env)).any (·.1.isNone)) = false := by rfl) : Vm X (.Call (.Name x p) [] kws pos) env ow (fun d ow2 => ∃ q, ow q = none ∧ d = .ob (.ref q) ∧ ow2 = ou ow q (.ins C fl)) := .mk fun σ F H Q s w k0 => by
  obtain ⟨tk, pk, q⟩ := hk
  have pe : PE X (.Call (.Name x p) [] kws pos) (fun σ H Q => tk σ H fun zs H2 => zs.length = ks.length ∧ ∀ a dx, H2 a = none → H2 dx = none → dx ≠ a → spI X.K C R a [] zs (upd (upd H2 dx (.own a)) a (.ins C dx [])) (fun v H3 => v = .non ∧ Q (.ref a) H3)) := by
    refine ⟨fun pins s σ H Q I h => wpAny_Call_Name_kw (ld_glob I hg hm (PySem.W.callWith_KW0 (h₀ := X.base) I.ok.mod.kin M.kp hall (thn (pk.run pos pins s σ H _ I h) fun ws s2 ⟨zs, H2, I2, rz, l2, q2⟩ => ⟨I2.kIn, ?_⟩) hpl) hdb)⟩
    rw [hks]
    exact run_mkS (us := []) (vs := []) M Fi hgd hr I2 .nil rz l2 q2
  refine wpe pe (q σ F H _ s w fun F2 H2 zs e2 w2 rz => ⟨by rw [rz.length]; exact hkl, fun a dx ha hd hne => madeO w2 .nil rz hR (Nat.zero_le _) a dx ha hd hne fun oa F4 H4 e4 w4 => k0 F4 H4 (.ref a) (.ob (.ref a)) _ (e2.trans e4) w4 (.ob _) ⟨a, oa, rfl, rfl⟩⟩)
end
end Vd
set_option Elab.async false
set_option linter.all false
set_option maxRecDepth 100000
set_option maxHeartbeats 4000000
namespace Vd
open PySem L2
open PySem.Spec PyProof.Rows
section
variable {X : Cx} {env : List (Option D)} {ow : Ow} {e : Expr} {pos p p2 q : Pos}
/-- sorted(xs) of integers -/
theorem fo_sorted {ns l : List Int} (hs : l.Pairwise (· ≤ ·)) (hp : l.Perm ns) : BiOk X ow "sorted" [.lst (ns.map D.int)] (.lst (l.map D.int)) := ⟨_, cr_sortedI, .mk fun F H xs Q w r k => by
  cases r with
  | cons r1 r2 =>
    cases r2
    cases r1 with
    | lst g s1 =>
      have e := Rps.intsV s1
      subst e
      refine ⟨_, ns, rfl, SqL.of (w.ex _ _ g), fun l2 p hp2 hs2 hn => ?_⟩
      obtain rfl : l2 = l := List.Perm.eq_of_pairwise (le := fun a b : Int => a ≤ b) (fun a b _ _ h1 h2 => Int.le_antisymm h1 h2) hs2 hs (hp2.trans hp.symm)
      exact k.new w hn (.lst upd_same ((Rps.ints l2).mono (w.exnew hn)))⟩
end
end Vd
set_option Elab.async false
set_option linter.all false
set_option maxRecDepth 100000
set_option maxHeartbeats 4000000
namespace Vd
open PySem L2
open PySem.Spec PyProof.Rows
end Vd
set_option Elab.async false
set_option linter.all false
set_option maxRecDepth 100000
set_option maxHeartbeats 4000000
namespace Vd
open PySem L2
open PySem.Spec PyProof.Rows
section
variable {K : PySem.W.Frag} {F : Hp}
def valD (l : List (Key × D)) (k : Key) : Option D := (l.find? fun kv => decide (kv.1 = k)).map (·.2)
theorem Rpk.len : ∀ {v : List (Key × V)} {d : List (Key × D)}, Rpk K F v d → v.length = d.length
  | [], [], .nil => rfl
  | _ :: _, _ :: _, .cons _ rs => by simp [Rpk.len rs]
theorem Rpk.keys : ∀ {v : List (Key × V)} {d : List (Key × D)}, Rpk K F v d → v.map (·.1) = d.map (·.1)
  | [], [], .nil => rfl
  | _ :: _, _ :: _, .cons _ rs => by simp [Rpk.keys rs]
theorem Rpk.val : ∀ {v : List (Key × V)} {d : List (Key × D)} (k : Key), Rpk K F v d → (valV v k = none ∧ valD d k = none) ∨ ∃ x y, valV v k = some x ∧ valD d k = some y ∧ Rp K F x y
  | [], [], _, .nil => .inl ⟨rfl, rfl⟩
  | (k1, x) :: v, (_, y) :: d, k, .cons r rs => by
    by_cases h : k1 = k
    · refine .inr ⟨x, y, ?_, ?_, r⟩ <;> simp [valV, valD, h]
    · rcases Rpk.val k rs with ⟨a, b⟩ | ⟨x2, y2, a, b, c⟩
      · refine .inl ⟨?_, ?_⟩
        · unfold valV at a ⊢
          rw [List.find?_cons_of_neg (by simp [h])]
          exact a
        · unfold valD at b ⊢
          rw [List.find?_cons_of_neg (by simp [h])]
          exact b
      · refine .inr ⟨x2, y2, ?_, ?_, c⟩
        · unfold valV at a ⊢
          rw [List.find?_cons_of_neg (by simp [h])]
          exact a
        · unfold valD at b ⊢
          rw [List.find?_cons_of_neg (by simp [h])]
          exact b
end
end Vd
set_option Elab.async false
set_option linter.all false
set_option maxRecDepth 100000
set_option maxHeartbeats 4000000
namespace Vd
open PySem L2
open PySem.Spec PyProof.Rows
end Vd
set_option Elab.async false
set_option linter.all false
set_option maxRecDepth 100000
set_option maxHeartbeats 4000000
namespace Vd
open PySem L2
open PySem.Spec PyProof.Rows
section
variable {X : Cx} {B : Hp} {env : List (Option D)} {ow : Ow} {it elt a b : Expr} {ds : List D} {pos spos : Pos} {Dn : Ends} {rest : List Stmt} {ifs : List Expr}
def pairE (env : List (Option D)) (j j1 : Nat) (d : D) : List (Option D) := match d with
  | .tup [d1, d2] => (((env.set j1 none).set j none).set j (some d1)).set j1 (some d2)
  | _ => env
theorem wipe_pair {σ : L2.St} {j j1 : Nat} {v1 v2 : V} (h : j ≠ j1) : L2.wipe (((L2.wipe σ [j, j1]).set j (some v1)).set j1 (some v2)) [j, j1] = L2.wipe σ [j, j1] := by
  show (((((σ.set j1 none).set j none).set j (some v1)).set j1 (some v2)).set j1 none).set j none = (σ.set j1 none).set j none
  rw [List.set_set, List.set_set, List.set_comm _ _ h, List.set_set, List.set_set, List.set_comm _ _ (Ne.symm h), List.set_comm _ _ h]
theorem lcP_read {scope : Scope} {j j1 : Nat} {wi : TI} (kp : D → Bool) (f : D → D)
    (hw : ∀ (σ : L2.St) (F H : Hp) (R : It → Hp → Prop), Sl X.K F σ env → Wo X.K ow F H → (∀ J F1 H1, Ex F F1 → Wo X.K ow F1 H1 → Src X.K J F1 ds → R J H1) → wi σ H R) (hl : ds.length ≤ 100000) (hjj : j ≠ j1) (hp : ∀ d ∈ ds, ∃ d1 d2, d = D.tup [d1, d2])
    (ht : ∀ d ow', d ∈ ds → Sub ow ow' → ∀ (s : Shared) (H : Hp) (C : Addr) (cl : List (Str × Addr)) (fp : List Addr), Vts (X.blk s H scope (compEnvC scope cl C X.env) fp) ifs (pairE env j j1 d) ow' (kp d))
    (he : ∀ d ow', d ∈ ds → kp d = true → Sub ow ow' → ∀ (s : Shared) (H : Hp) (C : Addr) (cl : List (Str × Addr)) (fp : List Addr), Ve (X.blk s H scope (compEnvC scope cl C X.env) fp) elt (pairE env j j1 d) ow' (f d))
    (σ : L2.St) (F H : Hp) (Q : VK) (s : Sl X.K F σ env) (w : Wo X.K ow F H) (k0 : Post X.K ow F (.lst ((ds.filter kp).map f)) Q) : tLc wi (gTup X.K 2 (gCons (gName j) (gCons (gName j1) gNil))) (ltts X scope ifs) (lte X scope elt) [j, j1] σ H Q := by
  refine hw σ F H _ s w fun J F1 H1 e1 w1 src => ?_
  intro Dl hD
  refine ⟨fun i m H => m = ds.length - i ∧ i ≤ ds.length ∧ ∃ F2 xs, Ex F1 F2 ∧ Wo X.K ow F2 H ∧ F2 Dl = none ∧ ow Dl = none ∧ H Dl = some (.lst xs) ∧ Rps X.K F2 xs (((ds.take i).filter kp).map f), ⟨ds.length, by simp, Nat.zero_le _, F1, [], Evl.Ex.refl F1, w1.grow hD, w1.free hD, w1.ofree hD, upd_same, .nil⟩, ?_⟩
  rintro i m H2 ⟨rfl, hi, F2, xs, e2, w2, hF2, hoD, hH2, r2⟩
  obtain ⟨stop, go⟩ := src F2 H2 ow i e2 w2
  by_cases hlt : i < ds.length
  · have hdi : ds[i]? = some ds[i] := by simp [hlt]
    have htk : ds.take (i + 1) = ds.take i ++ [ds[i]] := by rw [List.take_add_one, hdi]; rfl
    obtain ⟨hgo, hy⟩ := go ds[i] hdi
    refine .inr ⟨hgo, fun H3 => ∃ F3 xs, Ex F1 F3 ∧ Wo X.K ow F3 H3 ∧ F3 Dl = none ∧ ow Dl = none ∧ H3 Dl = some (.lst xs) ∧ Rps X.K F3 xs (((ds.take (i + 1)).filter kp).map f), fun H3 q => ⟨ds.length - (i + 1), by omega, rfl, hlt, q⟩, fun x H3 hx => ?_⟩
    -- the new list's place is owned meanwhile
    have w2' : Wo X.K (ou ow Dl (.lst (((ds.take i).filter kp).map f))) F2 H2 := ⟨w2.ex, fun a o q => by
      by_cases z : a = Dl
      · subst z
        rw [ou_same] at q
        cases q
        exact ⟨hF2, xs, hH2, r2⟩
      · rw [ou_ne z] at q
        exact w2.own a o q⟩
    obtain ⟨stop', go'⟩ := src F2 H2 _ i e2 w2'
    obtain ⟨_, hy'⟩ := go' ds[i] hdi
    obtain ⟨F3, e3, w3', r3⟩ := hy' x H3 hx
    have sub : ∀ a o, ow a = some o → ou ow Dl (.lst (((ds.take i).filter kp).map f)) a = some o := fun a o q => by
      rw [ou_ne (fun z => by rw [z, hoD] at q; cases q)]
      exact q
    obtain ⟨d1, d2, hpd⟩ := hp ds[i] (List.getElem_mem hlt)
    have r3' := r3
    rw [hpd] at r3'
    cases r3' with
    | tup g3 s3 =>
    cases s3 with
    | cons q1 s4 =>
    cases s4 with
    | cons q2 s5 =>
    cases s5
    have sl := ((((s.mono (e1.trans (e2.trans e3))).unset j1).unset j).set q1 j).set q2 j1
    have hE : pairE env j j1 ds[i] = (((env.set j1 none).set j none).set j (some d1)).set j1 (some d2) := by rw [hpd]; rfl
    rw [← hE] at sl
    refine ⟨_, _, rfl, Evl.ex_t w3'.ex g3, rfl, _, _, rfl, _, _, rfl, rfl, ?_⟩
    refine ⟨wipe_pair hjj, fun s0 H0 C cl fp => ?_⟩
    have hmem : ds[i] ∈ ds := List.getElem_mem hlt
    obtain ⟨tt, ptt, qtt⟩ := ht ds[i] _ hmem sub s0 H0 C cl fp
    intro pins s' I
    refine ptt.run pins s' _ H3 _ I (qtt _ F3 H3 _ sl w3' fun F4 H4 e4 w4 => ?_)
    cases hk : kp ds[i] with
    | true =>
      rw [if_pos rfl]
      intro s1 H01 C1 cl1 fp1
      refine he ds[i] _ hmem hk sub s1 H01 C1 cl1 fp1 _ F4 H4 _ (sl.mono e4) w4 fun F5 H5 y e5 w5 r5 => ?_
      obtain ⟨n5, ys, h5, s5⟩ := w5.own Dl _ ou_same
      refine ⟨ys, h5, ?_, F5, ys ++ [y], e2.trans (e3.trans (e4.trans e5)), ?_, n5, hoD, upd_same, ?_⟩
      · have z := s5.length
        have y1 : (((ds.take i).filter kp).map f).length ≤ i := by
          rw [List.length_map]
          exact Nat.le_trans (List.length_filter_le _ _) (by rw [List.length_take]; omega)
        exact Evl.sz_lt (by omega)
      · exact (w5.setL ou_same (s5.append (.cons r5 .nil))).drop fun a o q => by
          rw [ou_ne (fun z => by rw [z, hoD] at q; cases q)]
          exact sub a o q
      · rw [htk, List.filter_append, List.map_append]
        have y2 : ([ds[i]].filter kp).map f = [f ds[i]] := by simp [hk]
        rw [y2]
        exact s5.append (.cons r5 .nil)
    | false =>
      rw [if_neg Bool.false_ne_true]
      obtain ⟨n5, ys, h5, s5⟩ := w4.own Dl _ ou_same
      refine ⟨F4, ys, e2.trans (e3.trans e4), w4.drop sub, n5, hoD, h5, ?_⟩
      rw [htk, List.filter_append, List.map_append]
      have y2 : ([ds[i]].filter kp).map f = [] := by simp [hk]
      rw [y2, List.append_nil]
      exact s5
  · have e : i = ds.length := by omega
    subst e
    refine .inl ⟨stop (Nat.le_refl _), ?_⟩
    rw [List.take_length] at r2
    exact k0 (upd F2 Dl (.lst xs)) H2 _ ((e1.trans e2).trans (Evl.Ex.new hF2)) (w2.freeze hF2 hH2 hoD) (.lst upd_same (r2.mono (Evl.Ex.new hF2)))
end
end Vd
set_option Elab.async false
set_option linter.all false
set_option maxRecDepth 100000
set_option maxHeartbeats 4000000
namespace Vd
open PySem L2
open PySem.Spec PyProof.Rows
theorem Rps.perm {K : PySem.W.Frag} {F : Hp} {xs ys : List V} (h : ys.Perm xs) : ∀ {ds : List D}, Rps K F xs ds → ∃ ds', ds'.Perm ds ∧ Rps K F ys ds' := by
  induction h with
  | nil =>
    intro ds r
    exact ⟨ds, List.Perm.refl _, r⟩
  | cons x _ ih =>
    intro ds r
    cases r with
    | cons r1 r2 =>
      obtain ⟨ds', p, q⟩ := ih r2
      exact ⟨_ :: ds', p.cons _, .cons r1 q⟩
  | swap x y l =>
    intro ds r
    cases r with
    | cons r1 r2 =>
      cases r2 with
      | cons r3 r4 => exact ⟨_, List.Perm.swap _ _ _, .cons r3 (.cons r1 r4)⟩
  | trans _ _ ih1 ih2 =>
    intro ds r
    obtain ⟨d1, p1, q1⟩ := ih2 r
    obtain ⟨d2, p2, q2⟩ := ih1 q1
    exact ⟨d2, p2.trans p1, q2⟩
end Vd
set_option Elab.async false
set_option linter.all false
set_option maxRecDepth 100000
set_option maxHeartbeats 4000000
namespace Vd
open PySem L2
open PySem.Spec PyProof.Rows
end Vd
set_option Elab.async false
set_option linter.all false
set_option maxRecDepth 100000
set_option maxHeartbeats 4000000
namespace Vd
open PySem L2
open PySem.Spec PyProof.Rows
section
variable {X : Cx} {B : Hp} {env : List (Option D)} {ow : Ow} {a b c : Expr} {d1 d2 d3 : D} {pos : Pos} {Dn : Ends} {rest : List Stmt}
theorem rn_parM {x y : Str} {px py p1 p2 : Pos} {k1 k2 i j : Nat} {P1 : D → Ow → Prop} {P2 : D → D → Ow → Prop} (hc : X.calm = true) (hN : X.N.Nodup) (hi : X.N[i]? = some x) (hj : X.N[j]? = some y) (hij : i ≠ j) (hx : X.env.scope.names.lookup x = some .local) (hy : X.env.scope.names.lookup y = some .local)
    (h1 : Vm X a env ow P1) (h2 : ∀ d1 ow2, P1 d1 ow2 → Vm X b env ow2 (P2 d1)) (k : ∀ B' d1 d2 ow3, Ex B B' → P2 d1 d2 ow3 → Rn X B' rest Dn ((env.set i (some d1)).set j (some d2)) ow3)
    (hw : swappedStores [.Tuple [.Name x px, .Name y py] k1 p1] (.Tuple [a, b] k2 p2) X.env = pure (some [x, y])) (hst : starEach [a, b] X.env = (false, eval a X.env) :: starEach [b] X.env := by rfl) (hst2 : starEach [b] X.env = (false, eval b X.env) :: starEach [] X.env := by rfl)
    (hs : swapsWithSole [.Tuple [.Name x px, .Name y py] k1 p1] (.Tuple [a, b] k2 p2) pos.line X.env = pure false := by rfl) :
    Rn X B (.Assign [.Tuple [.Name x px, .Name y py] k1 p1] (.Tuple [a, b] k2 p2) pos :: rest) Dn env ow := rn_one ⟨_, ps_par hc hN hi hj hij hx hy (pa_cons pe_can (pa_cons pe_can pa_nil hst2) hst) hw hs, fun σ F H eB s w =>
  h1 σ F H _ s w fun F1 H1 v dv ow1 e1 w1 r1 hp1 => h2 dv ow1 hp1 σ F1 H1 _ (s.mono e1) w1 fun F2 H2 u du ow2 e2 w2 r2 hp2 => ⟨_, _, rfl, k F2 dv du ow2 (eB.trans (e1.trans e2)) hp2 _ F2 H2 (Evl.Ex.refl F2) (((s.mono (e1.trans e2)).set (r1.mono e2) i).set r2 j) w2⟩⟩
end
theorem rn_asgM {X : Cx} {B : Hp} {rest : List Stmt} {Dn : Ends} {env : List (Option D)} {ow : Ow} {e tg : Expr} {pos : Pos} {g : TG} {P : D → Ow → Prop} (hg : PG X tg g) (h : Vm X e env ow P) (k : ∀ d ow2, P d ow2 → ∃ f, Gd X.K ow2 g d f ∧ ∀ B', Ex B B' → Rn X B' rest Dn (f env) ow2) (hs : swapsWithSole [tg] e pos.line X.env = pure false := by rfl) (hw : swappedStores [tg] e X.env = pure none := by rfl)
    (h1 : (assignEach [tg] X.env).map (·.2) = [assign tg X.env] := by rfl) : Rn X B (.Assign [tg] e pos :: rest) Dn env ow := rn_one ⟨_, ps_asg pe_can hg hs hw h1, fun σ F H eB s w => h σ F H _ s w fun F1 H1 v d ow2 e1 w1 r1 hp => by
  obtain ⟨f, hgd, k0⟩ := k d ow2 hp
  exact hgd env σ F1 H1 v _ (s.mono e1) w1 r1 fun σ2 s2 => k0 F1 (eB.trans e1) _ F1 H1 (Evl.Ex.refl F1) s2 w1⟩
end Vd
set_option Elab.async false
set_option linter.all false
set_option maxRecDepth 100000
set_option maxHeartbeats 4000000
namespace Vd
open PySem L2
open PySem.Spec PyProof.Rows
end Vd
set_option Elab.async false
set_option linter.all false
set_option maxRecDepth 100000
set_option maxHeartbeats 4000000
namespace Vd
open PySem L2
open PySem.Spec PyProof.Rows
section
variable {X : Cx} {ow : Ow} {k : Nat} {C f : Addr} {fd : FuncData} {ps : List Str} {R : List D → D → Prop}
/-- the items' texts -/
inductive Its (C : Addr) (R : List D → D → Prop) : List D → List Str → Prop
  | nil : Its C R [] []
  | cons {fl : List (Str × D)} {t : Str} {ds : List D} {ts : List Str} : R [.ins C fl] (.str t) → Its C R ds ts → Its C R (.ins C fl :: ds) (t :: ts)
theorem Its.len : ∀ {ds : List D} {ts : List Str}, Its C R ds ts → ts.length = ds.length
  | _, _, .nil => rfl
  | _, _, .cons _ r => by rw [List.length_cons, List.length_cons, r.len]
theorem Its.at_ : ∀ {ds : List D} {ts : List Str} {i : Nat} {d : D}, Its C R ds ts → ds[i]? = some d → ∃ fl t, d = .ins C fl ∧ ts[i]? = some t ∧ R [.ins C fl] (.str t)
  | _, _, _, _, .nil, h => by simp at h
  | _, _, 0, _, .cons h _, e => by
    simp at e
    subst e
    exact ⟨_, _, rfl, rfl, h⟩
  | _, _, i + 1, _, .cons _ r, e => by
    simp only [List.getElem?_cons_succ] at e ⊢
    exact r.at_ e
end
end Vd
set_option Elab.async false
set_option linter.all false
set_option maxRecDepth 100000
set_option maxHeartbeats 4000000
namespace Vd
open PySem L2
open PySem.Spec PyProof.Rows
open PySem.Sem (wp)
open PySem.Builtin PySem.Builtin.List
end Vd
set_option Elab.async false
set_option linter.all false
set_option maxRecDepth 100000
set_option maxHeartbeats 4000000
namespace Vd
open PySem L2
open PySem.Spec PyProof.Rows
/-- the text of these codes -/
def tx (l : List Nat) : Str := ⟨l.toArray⟩
theorem tx_cps (l : List Nat) : (tx l).cps.toList = l := by simp [tx]
theorem tx_len (l : List Nat) : (tx l).length = l.length := by show (tx l).cps.size = _; simp [tx]
theorem tx_inj {l m : List Nat} : tx l = tx m ↔ l = m := ⟨fun h => by rw [← tx_cps l, h, tx_cps], fun h => h ▸ rfl⟩
theorem tx_app (l m : List Nat) : tx l ++ tx m = tx (l ++ m) := by
  show (⟨l.toArray ++ m.toArray⟩ : Str) = ⟨(l ++ m).toArray⟩
  simp
theorem tx_of (z : Str) : tx z.cps.toList = z := by simp [tx]
section
variable {X : Cx} {B : Hp} {env : List (Option D)} {ow : Ow} {o e a b tg it : Expr} {d : D} {pos p ap : Pos}
/-- s.split(t) -/
theorem ve_split {x y : Str} (ho : Ve X o env ow (.str x)) (h : Ve X e env ow (.str y)) (hb : (y.length == 0) = false) (hz : x.length ≤ 90000)
    (hs : starEach [e] X.env = [(false, eval e X.env)] := by rfl) (hbase : attributeBase o "split" X.env (eval o X.env) = eval o X.env := by rfl) (hline : (ap.endLine == pos.line) = true := by rfl) :
    Ve X (.Call (.Attribute o "split" ap) [e] [] pos) env ow (.lst ((Txt.split x y).map D.str)) := .mk fun σ F H Q s w k => wpe (pe_split pe_can pe_can hs hbase hline) (ho σ F H _ s w fun F1 H1 v e1 w1 r1 => by
  cases r1
  refine ⟨⟨x, rfl⟩, h σ F1 H1 _ (s.mono e1) w1 fun F2 H2 u e2 w2 r2 => ?_⟩
  cases r2
  exact ⟨x, y, rfl, rfl, hb, Evl.sz_of (by omega), fun q hq => (k.ex (e1.trans e2)).new w2 hq (.lst upd_same (Rps.strs _))⟩)
/-- s.index(t), t in s -/
theorem ve_sindex {x y : Str} {i : Nat} {rest : List Nat} (ho : Ve X o env ow (.str x)) (h : Ve X e env ow (.str y)) (hi : Builtin.Str.occurrences x y 0 x.length 1 = i :: rest)
    (hs : starEach [e] X.env = [(false, eval e X.env)] := by rfl) (hbase : attributeBase o "index" X.env (eval o X.env) = eval o X.env := by rfl) (hline : (ap.endLine == pos.line) = true := by rfl) :
    Ve X (.Call (.Attribute o "index" ap) [e] [] pos) env ow (.int (i : Nat)) := .mk fun σ F H Q s w k => wpe (pe_m1 PySem.F.slot_str_index PySem.F.type_str_index mt_sindex pe_can pe_can hs hbase hline) (ho σ F H _ s w fun F1 H1 v e1 w1 r1 => by
  cases r1
  refine ⟨⟨x, rfl⟩, h σ F1 H1 _ (s.mono e1) w1 fun F2 H2 u e2 w2 r2 => ?_⟩
  cases r2
  exact ⟨x, y, i, rest, rfl, rfl, hi, (k.ex (e1.trans e2)).here w2 (.int _)⟩)
theorem bo_catS {x y : Str} (h : x.length + y.length ≤ 100000) : BinOk X ow .Add (.str x) (.str y) (.str (x ++ y)) := ⟨_, op_add_str, .mk fun F H v u Q w r1 r2 k => by
  cases r1
  cases r2
  exact ⟨x, y, rfl, rfl, Evl.sz_of h, k.here w (.str _)⟩⟩
theorem bo_catX {l m : List Nat} (h : l.length + m.length ≤ 100000) : BinOk X ow .Add (.str (tx l)) (.str (tx m)) (.str (tx (l ++ m))) := bo_to (bo_catS (by rw [tx_len, tx_len]; exact h)) (by rw [tx_app])
/-- s * n -/
theorem op_mulS : OpR X (binaryOp .Mult) (fun x y H Q => ∃ z n, x = .str z ∧ y = .int n ∧ PySem.MulOk z n ∧ Q (.str (Txt.mul z n)) H) := by
  intro pins s σ H x y v u Q I rx ry h
  obtain ⟨z, n, rfl, rfl, hm, q⟩ := h
  obtain ⟨t, rfl⟩ := rx
  obtain ⟨t2, rfl⟩ := ry
  exact PySem.SB.mul hm fun t' k => ⟨.str _, H, I.tok k, ⟨t', rfl⟩, q⟩
theorem foldl_app (a : Array Nat) : ∀ (n : Nat) (acc : Array Nat), ((List.replicate n a).foldl (· ++ ·) acc).toList = acc.toList ++ (List.replicate n a.toList).flatten
  | 0, acc => by simp
  | n + 1, acc => by
    rw [List.replicate_succ, List.foldl_cons, foldl_app a n, List.replicate_succ, List.flatten_cons, Array.toList_append, List.append_assoc]
theorem mul_tx (l : List Nat) (n : Nat) : Txt.mul (tx l) (n : Int) = tx (List.replicate n l).flatten := by
  unfold Txt.mul
  by_cases h0 : (n : Int) < 1
  · rw [if_pos h0]
    obtain rfl : n = 0 := by omega
    rfl
  · rw [if_neg h0]
    by_cases h1 : ((n : Int) == 1 || (tx l).length == 0) = true
    · rw [if_pos h1, tx_inj]
      rcases (Bool.or_eq_true _ _).mp h1 with h | h
      · obtain rfl : n = 1 := by have := eq_of_beq h; omega
        simp
      · have z := eq_of_beq h
        rw [tx_len] at z
        rw [List.eq_nil_of_length_eq_zero z]
        clear h0 h1 h z
        induction n with
        | zero => rfl
        | succ n ih => rw [List.replicate_succ, List.flatten_cons, ← ih]; rfl
    · rw [if_neg h1, Int.toNat_natCast]
      have z := foldl_app (tx l).cps n #[]
      rw [tx_cps] at z
      rw [← tx_of ⟨(List.replicate n (tx l).cps).foldl (· ++ ·) #[]⟩]
      show tx ((List.replicate n (tx l).cps).foldl (· ++ ·) #[]).toList = _
      rw [z]
      simp
theorem mulOk {l : List Nat} {n : Nat} (h : l.length * n ≤ 100000) (hn : n ≤ 100000) : PySem.MulOk (tx l) (n : Int) := by
  refine ⟨by simp; omega, fun _ _ => ?_, fun _ _ => ?_⟩
  · rw [tx_len]
    by_cases z : n = 0
    · subst z
      rename_i h1 _
      exact absurd (by decide : ((0 : Nat) : Int) < 1) h1
    · have y : (l.length : Int) ≤ 100000 := by
        have : l.length ≤ l.length * n := Nat.le_mul_of_pos_right _ (by omega)
        omega
      have x : (100000 : Int) ≤ (2 ^ 63 - 1) / (n : Int) := by
        apply (Int.le_ediv_iff_mul_le (by omega)).mpr
        omega
      omega
  · rw [tx_len, Int.toNat_natCast]
    unfold PySem.Builtin.Str.tooLong
    have z := Evl.sz_of h
    simp only [decide_eq_false_iff_not, gt_iff_lt, Nat.not_lt]
    exact z
theorem bo_mulX {l : List Nat} {n : Nat} (h : l.length * n ≤ 100000) (hn : n ≤ 100000) : BinOk X ow .Mult (.str (tx l)) (.int (n : Nat)) (.str (tx (List.replicate n l).flatten)) := ⟨_, op_mulS, .mk fun F H v u Q w r1 r2 k => by
  cases r1
  cases r2
  exact ⟨tx l, n, rfl, rfl, mulOk h hn, by rw [mul_tx]; exact k.here w (.str _)⟩⟩
/-- c in s, c a single sign -/
theorem co_inC {c : Nat} {z : Str} (hm : behindInMarks .In b = false) : CmpOk X ow .In b (.str (tx [c])) (.str z) (.bl (decide (c ∈ z.cps.toList))) := ⟨_, op_in_sign, hm, .mk fun F H v u Q w r1 r2 k => by
  cases r1
  cases r2
  exact ⟨c, z, rfl, rfl, k.here w (.bl _)⟩⟩
/-- int(s) -/
theorem to_intS {z : Str} {n : Int} (h : PySem.intText? z = some n) (hz : z.length ≤ 640) : TyOk X ow "int" [.str z] (.int n) := ⟨_, call_int_str, .mk fun F H xs Q w r k => by
  cases r with
  | cons r1 r2 =>
    cases r2
    cases r1
    exact ⟨z, n, rfl, h, hz, k.here w (.int _)⟩⟩
theorem fo_lenS {z : Str} (hz : z.length ≤ 100000) : BiOk X ow "len" [.str z] (.int (z.length : Nat)) := ⟨_, call_len_str, .mk fun F H xs Q w r k => by
  cases r with
  | cons r1 r2 =>
    cases r2
    cases r1
    exact ⟨z, rfl, Evl.sz_of hz, k.here w (.int _)⟩⟩
/-- s[lo:hi] -/
theorem ve_sliceS {lo hi : Option Expr} {vlo vhi : Option Int} {p2 : Pos} {z : Str} (h : Ve X e env ow (.str z)) (h1 : Vp X lo env ow vlo) (h2 : Vp X hi env ow vhi) (hz : z.length ≤ 100000) : Ve X (.Subscript e (.Slice lo hi none p2) pos) env ow (.str (cutS z vlo vhi)) := .mk fun σ F H Q s w k => by
  obtain ⟨t1, p1, q1⟩ := h1
  obtain ⟨t2, p2, q2⟩ := h2
  refine wpe (pe_slice sl_str pe_can p1 p2) (h σ F H _ s w fun F1 H1 v e1 w1 r1 => q1 σ F1 H1 _ (s.mono e1) w1 fun F2 H2 e2 w2 => q2 σ F2 H2 _ (s.mono (e1.trans e2)) w2 fun F3 H3 e3 w3 => ?_)
  cases r1
  exact ⟨z, rfl, Evl.sz_of hz, (k.ex (e1.trans (e2.trans e3))).here w3 (.str _)⟩
/-- for c in s -/
theorem vi_str {l : List Nat} (h : Ve X it env ow (.str (tx l))) : Vi X tg it env ow (l.map fun c => .str (tx [c])) := ⟨_, pi_str pe_can, fun σ F H R s w k => h σ F H _ s w fun F1 H1 v e1 w1 r1 => by
  cases r1
  refine ⟨tx l, rfl, k _ F1 H1 e1 w1 fun F2 H2 ow2 i e2 w2 => ⟨fun hl => by rw [List.length_map] at hl; exact (by show (tx l).cps.size ≤ i; simpa [tx] using hl), fun d hd => ?_⟩⟩
  obtain ⟨c, hc, rfl⟩ : ∃ c, l[i]? = some c ∧ d = .str (tx [c]) := by
    rw [List.getElem?_map] at hd
    cases q : l[i]? with
    | none => rw [q] at hd; cases hd
    | some c => rw [q] at hd; exact ⟨c, rfl, (Option.some.inj hd).symm⟩
  refine ⟨by show i < (tx l).cps.size; simpa [tx] using (List.getElem?_eq_some_iff.mp hc).1, fun x H' hy => ?_⟩
  obtain ⟨rfl, c2, hc2, rfl⟩ := hy
  have z : l[i]? = some c2 := by simpa [tx] using hc2
  rw [hc] at z
  cases z
  exact ⟨F2, Evl.Ex.refl F2, w2, .str _⟩⟩
theorem co_inKd {q : Addr} {es : Array DictEntry} {n : Nat} {z : Str} {r : Option Value} (hm : behindInMarks .In b = false) (T : KDict X.K X.w q es n) (h : PySem.W.nsIn X.K q z = some r) : CmpOk X ow .In b (.str z) (.ob (.ref q)) (.bl r.isSome) := ⟨_, op_in_kd T, hm, .mk fun F H v u Q w r1 r2 k => by
  cases r1
  cases r2
  exact ⟨z, r, rfl, rfl, h, k.here w (.bl _)⟩⟩
theorem co_notInKd {q : Addr} {es : Array DictEntry} {n : Nat} {z : Str} {r : Option Value} (hm : behindInMarks .NotIn b = false) (T : KDict X.K X.w q es n) (h : PySem.W.nsIn X.K q z = some r) : CmpOk X ow .NotIn b (.str z) (.ob (.ref q)) (.bl (!r.isSome)) := ⟨_, op_notIn_kd T, hm, .mk fun F H v u Q w r1 r2 k => by
  cases r1
  cases r2
  exact ⟨z, r, rfl, rfl, h, k.here w (.bl _)⟩⟩
theorem xo_kd {q : Addr} {z : Str} {v : V} (T : KDct X.K X.w q z v) (h : ∀ F, Rp X.K F v d) : IxOk X ow (.ob (.ref q)) (.str z) d := ⟨_, ix_kdict, .mk fun F H v u Q w r1 r2 k => by
  cases r1
  cases r2
  exact ⟨q, z, _, rfl, rfl, T, k.here w (h F)⟩⟩
end
end Vd
set_option Elab.async false
set_option linter.all false
set_option maxRecDepth 100000
set_option maxHeartbeats 4000000
namespace Vd
open PySem L2
open PySem.Spec PyProof.Rows
section
variable {X : Cx} {pins : List (Addr × Obj)} {σ : L2.St} {H : Hp} {s : Shared} {kvs : List (List Key × V)} {k : List Key} {a b : Addr} {v : V}
/-- what stands behind a store -/
theorem dt_stored {h' : Heap} {tk : Nat} {r : Value} {xs : List (List Key × Addr × Value)} (I : Inv X pins σ H s) (e : H a = some (.dT kvs)) (eb : H b = some (.tup (k.map kV))) (hl : kvs.length < sizeLine) (low : (a == sysModules) = false)
    (rel : KT H kvs xs) (rv : RelV v r) (dd : h'.DictOfH (tupleKind (mixKind X.prog X.w)) a (storedH xs k b r)) (same : Heap.SameBut a s.heap h') : Inv X pins σ (upd H a (.dT (putK kvs k v))) { s with heap := h', toks := tk } := by
  have most : (putK kvs k v).length ≤ sizeLine := by have := length_putK kvs k v; omega
  obtain ⟨q, es, ep, hq, c1, c2, c3, _, c4⟩ := dd
  refine d_write I (by rw [e]; exact True.intro) same ⟨q, hq⟩ ⟨most, low, _, (rel.put k eb rv).keeps fun c ys hc => ?_, q, es, ep, hq, c1, c2, c3, c4⟩
  have ne : c ≠ a := fun z => by
    rw [z, e] at hc
    cases hc
  rw [upd_ne ne]
  exact hc
/-- the store of a comprehension -/
theorem dt_set {r : Value} {E : Value → Shared → Prop} {Q : Unit → Shared → Prop} (I : Inv X pins σ H s) (hu : X.A.units + 1 < cLine) (e : H a = some (.dT kvs)) (eb : H b = some (.tup (k.map kV))) (hl : kvs.length < sizeLine) (rv : RelV v r)
    (go : ∀ s', Inv X pins σ (upd H a (.dT (putK kvs k v))) s' → Q () s') : wpAny (model X.prog X.w) X.A (dictSet a (.ref b) r) Q E s := by
  obtain ⟨z, low, xs, rel, dd⟩ := dt_of I.hok e
  have xz : xs.length ≤ sizeLine := by rw [← Paired.length rel]; exact z
  have hroom : (tupleKind (mixKind X.prog X.w)).room X.A := by show X.A.units < cLine; omega
  unfold dictSet
  refine wpAny_holding (wpAny_bind ((tupleKind (mixKind X.prog X.w)).pyHash hroom (key_of I.hok eb) ?_))
  exact wpAny_dictSetHashed_heap (s := { s with toks := s.toks + (tupleKind (mixKind X.prog X.w)).draws k }) hroom (key_of I.hok eb) dd (fun h' dd' same => go _ (dt_stored (I.tok _) e eb hl low rel rv dd' same)) xz
/-- d.setdefault(t, x), t a tuple -/
def tSetdT (td ty tx : TE) : TE := fun σ H Q => td σ H fun x H1 => ∃ a kvs0, x = .ref a ∧ H1 a = some (.dT kvs0) ∧ ty σ H1 fun y H2 => tx σ H2 fun z H3 => ∃ (kvs : List (List Key × V)) (k : List Key) (b : Addr), H3 a = some (.dT kvs) ∧ y = .ref b ∧ H3 b = some (.tup (k.map kV)) ∧ kvs.length < sizeLine ∧
  (∀ v, valV kvs k = some v → Q v H3) ∧ (valV kvs k = none → Q z (upd H3 a (.dT (putK kvs k z))))
theorem pe_setdT {o e f : Expr} {td ty tx : TE} {apos cpos : Pos} (hu : X.A.units + 3 < cLine) (ho : PE X o td) (he : PE X e ty) (hf : PE X f tx) (m : M2 X o "setdefault" apos e f cpos) : PE X (.Call (.Attribute o "setdefault" apos) [e, f] [] cpos) (tSetdT td ty tx) := by
  refine ⟨fun pins s σ H Q I h => wpAny_Call_method m.base m.few m.line PySem.F.plainAttrs_dict PySem.F.slot_dict_setdefault PySem.F.type_dict_setdefault (thn (ho.run pins s σ H _ I h) fun u s1 ⟨x, H1, I1, rx, a, kvs0, ex, e0, q1⟩ => ?_)⟩
  subst ex
  obtain rfl : u = Value.ref a := rx
  obtain ⟨_, _, xs0, _, dd0⟩ := dt_of I1.hok e0
  refine ⟨dd0.typeIs, fun c hc => ?_, ?_⟩
  · cases hc
    obtain ⟨ob, _, _, g1, g2, _⟩ := dd0
    exact ⟨ob, g1, g2.2.1⟩
  rw [m.trees]
  refine Calls.callWith_builtin rfl (Calls.evalArgs_plain (Calls.spliced_cons (thn (he.run pins s1 σ H1 _ I1 q1) fun kv s2 ⟨y, H2, I2, ry, q2⟩ =>
    Calls.spliced_cons (thn (hf.run pins s2 σ H2 _ I2 q2) fun dv s3 ⟨z, H3, I3, rz, kvs, k, b, ea, ey, eb, hl, there, new⟩ => Calls.spliced_nil ?_))))
  subst ey
  obtain rfl : kv = Value.ref b := ry
  obtain ⟨zz, low, xs, rel, dd⟩ := dt_of I3.hok ea
  have xz : xs.length ≤ sizeLine := by rw [← Paired.length rel]; exact zz
  have val := rel.val k
  refine call_setdefault_heap (tupleKind_room_in1 (by omega)) (key_of I3.hok eb) low dd (fun p hp => ?_) (fun hn h' dd' same => ?_) xz
  · cases hv : valV kvs k with
    | none =>
      rw [hv, hp] at val
      exact val.elim
    | some v =>
      rw [hv, hp] at val
      exact ⟨v, H3, I3.tok _, val, there v hv⟩
  · refine ⟨z, _, dt_stored I3 ea eb hl low rel rz dd' same, rz, new ?_⟩
    cases hv : valV kvs k with
    | none => rfl
    | some v =>
      rw [hv, hn] at val
      exact val.elim
end
end Vd
set_option Elab.async false
set_option linter.all false
set_option maxRecDepth 100000
set_option maxHeartbeats 4000000
namespace Vd
open PySem L2
open PySem.Spec PyProof.Rows
section
variable {X : Cx}
/-- one turn: the key and its value are stored -/
def turnT (D : Addr) (g : TG) (tk tv : TE) (vs : List Nat) (σ : L2.St) (x : V) (H : Hp) (Nx : Hp → Prop) : Prop :=
  g x (L2.wipe σ vs) H fun σ2 H2 => L2.wipe σ2 vs = L2.wipe σ vs ∧ tk σ2 H2 fun y H3 => tv σ2 H3 fun z H4 => ∃ (kvs : List (List Key × V)) (k : List Key) (b : Addr), y = .ref b ∧ H4 b = some (.tup (k.map kV)) ∧ H4 D = some (.dT kvs) ∧ kvs.length < sizeLine ∧ Nx (upd H4 D (.dT (putK kvs k z)))
/-- W i m: what holds ahead of turn i, m growing less -/
def tDcT (wi : TI) (g : TG) (tk tv : TE) (vs : List Nat) : TE := fun σ H Q => wi σ H fun J H1 => ∀ D, H1 D = none → ∃ W : Nat → Nat → Hp → Prop, (∃ m, W 0 m (upd H1 D (.dT []))) ∧ ∀ i m H2, W i m H2 →
  (J.stop i H2 ∧ Q (.ref D) H2) ∨ (J.go i H2 ∧ ∃ Nx : Hp → Prop, (∀ H', Nx H' → ∃ m', m' < m ∧ W (i + 1) m' H') ∧ ∀ x H', J.yld i H2 x H' → turnT D g tk tv vs σ x H' Nx)
theorem pe_dcT {kx vx tg iter : Expr} {scope : Scope} {own : List (Str × Nat)} {pos : Pos} {wi : TI} {g : TG} {tk tv : TE} (hu : X.A.units + 1 < cLine) (hc : X.calm = true) (hN : X.N.Nodup) (hi : PI X tg iter wi) (ok : BlkOk X.N X.env.scope scope own)
    (hg : ∀ (s : Shared) (H : Hp) (C : Addr) (cl : List (Str × Addr)) (fp : List Addr), PG (X.blk s H scope (compEnvC scope cl C X.env) fp) tg g)
    (hk : ∀ (s : Shared) (H : Hp) (C : Addr) (cl : List (Str × Addr)) (fp : List Addr), PE (X.blk s H scope (compEnvC scope cl C X.env) fp) kx tk)
    (hv : ∀ (s : Shared) (H : Hp) (C : Addr) (cl : List (Str × Addr)) (fp : List Addr), PE (X.blk s H scope (compEnvC scope cl C X.env) fp) vx tv) (hs : ∀ x, foldedSetIterable iter X.env x = pure x := by intro _; rfl) :
    PE X (.DictComp kx vx [⟨tg, iter, [], 0⟩] scope pos) (tDcT wi g tk tv (own.map (·.2))) := by
  refine ⟨fun pins s σ H Q I h => ?_⟩
  rw [arm_eval_DictComp]
  have frees : ∀ y ∈ scope.names, y.2 = .free → ∃ c, X.env.cells.lookup y.1 = some c := fun y hy e => (ok.free y hy e).elim (fun z => I.ok.has _ (.inl z)) fun z => I.ok.has _ (.inr z)
  refine wpAny_comprehension_free (use := none) rfl hs (closure_ok frees) ok.kind (fun y hy e => by rw [ok.uniq y hy, e]) (thn (hi.run pins s σ H _ I h) fun xv sa ha => thn ha fun itv sb hb => ?_)
  obtain ⟨it, fp, tn, J, H1, rfl, Ib, T, stb, fb, q⟩ := hb
  refine wpAny_newObj_type (newEnv_comp ?_)
  -- the new dict, at the heap's end
  obtain ⟨D, hD⟩ : ∃ D, D = sb.heap.objs.size := ⟨_, rfl⟩
  have Dn : H1 D = none := Ib.hok.fresh (Nat.le_of_eq hD.symm)
  obtain ⟨W, ⟨m0, w0⟩, turn⟩ := q D Dn
  obtain ⟨sc, hsc⟩ : ∃ sc : Shared, sc = { sb with heap := sb.heap.push { cls := .type "dict", data := .dict #[] } } := ⟨_, rfl⟩
  obtain ⟨Hc, hHc⟩ : ∃ Hc, Hc = upd H1 D (.dT []) := ⟨_, rfl⟩
  have heapc : sc.heap = sb.heap.push { cls := .type "dict", data := .dict #[] } := by rw [hsc]
  have keepc : ∀ b o, sb.heap.get? b = some o → sc.heap.get? b = some o := fun b o e => by rw [heapc]; exact Heap.get?_push_of_some _ e
  have Ic : Inv X pins σ Hc sc := by
    rw [hHc, hsc]
    refine Ib.laid (t' := sb.toks) (fun b o e => Heap.get?_push_of_some _ e) (Nat.le_of_eq hD.symm) ?_
    rw [hD]
    exact dt_empty sb.heap Ib.big
  have old : ∀ b ∈ fp, b < sb.heap.objs.size := fun b hb => let ⟨_, e, _⟩ := T.obj _ _ stb b hb; Heap.lt_size e
  have fc : ∀ b ∈ fp, FpOk X pins Hc b ∧ b < sc.heap.objs.size := fun b hb => by
    have lt := old b hb
    have ne : b ≠ D := by rw [hD]; exact Nat.ne_of_lt lt
    refine ⟨⟨by rw [hHc, upd_ne ne]; exact (fb b hb).1, (fb b hb).2⟩, ?_⟩
    rw [heapc, Heap.size_push]
    exact Nat.lt_succ_of_lt lt
  have stc : tn 0 sc.heap := T.keep _ _ _ stb fun b _ o e => keepc b o e
  have Id := block_start Ic ok hN fc
  obtain ⟨ce, hce⟩ : ∃ ce, ce = compEnvC scope (cellsFrom (sc.heap.objs.size + 1) scope.names (cloFrom X.env.cells scope.names [])) sc.heap.objs.size X.env := ⟨_, rfl⟩
  have G := hg sc Hc sc.heap.objs.size (cellsFrom (sc.heap.objs.size + 1) scope.names (cloFrom X.env.cells scope.names [])) fp
  have KK := hk sc Hc sc.heap.objs.size (cellsFrom (sc.heap.objs.size + 1) scope.names (cloFrom X.env.cells scope.names [])) fp
  have VV := hv sc Hc sc.heap.objs.size (cellsFrom (sc.heap.objs.size + 1) scope.names (cloFrom X.env.cells scope.names [])) fp
  rw [← hce] at G KK VV Id
  have cl : ce.locals = sc.heap.objs.size := by rw [hce]; rfl
  obtain ⟨sd, hsd⟩ : ∃ sd : Shared, sd = { sc with heap := pushCells (sc.heap.push { cls := .type "dict", data := .dict #[] }) scope.names } := ⟨_, rfl⟩
  rw [← hsd] at Id
  have std : tn 0 sd.heap := T.keep _ _ _ stc fun b _ o e => by
    rw [hsd]
    exact pushCells_keeps _ _ _ _ (Heap.get?_push_of_some _ e)
  have nof : ∀ b ∈ fp, Hc b = none := fun b hb => (fc b hb).1.1
  have fine : ∀ {σ' : L2.St} {H' : Hp} {s' : Shared}, Inv (X.blk sc Hc scope ce fp) [] σ' H' s' → (∀ b ∈ fp, H' b = none) → ∀ b ∈ fp, FpOk (X.blk sc Hc scope ce fp) [] H' b := fun {σ' H' s'} I' no b hb =>
    ⟨no b hb, (I'.ok.exf b hb).1, I'.ok.exfs b hb, .inl hb, (I'.ok.exf b hb).2, fun p hp => nomatch hp⟩
  have loop : codeAny (model X.prog X.w) X.A (.compLoop (.DictComp kx vx [⟨tg, iter, [], 0⟩] scope pos) 0 (.ref it) (.ref D) ce) (compPost (model X.prog X.w) X.A X.xe none (EP X pins σ Q) (.ref D) sc.heap.objs.size) sd := by
    refine compLoop_anyD (fun n s' => ∃ i H', Inv (X.blk sc Hc scope ce fp) [] (L2.wipe σ (own.map (·.2))) H' s' ∧ tn i s'.heap ∧ (∀ b ∈ fp, H' b = none) ∧ W i n H') ?step m0 ⟨0, Hc, Id, std, nof, by rw [hHc]; exact w0⟩
    rintro n se ⟨i, He, Ie, ste, noe, we⟩
    rcases turn i n He we with ⟨stop, fin⟩ | ⟨go, Nx, less, each⟩
    · refine thnF (T.done (X.blk sc Hc scope ce fp) rfl rfl rfl hc i [] se _ He (fun _ _ => False) Ie (fine Ie noe) ste stop) fun r sf ⟨hr, If⟩ => ?_
      subst hr
      have Iout : Inv X pins σ He sf := Ic.call' (ch := fp) If.os If.base If.hok If.bare fun b hb => let ⟨_, a1, _, a2, a3, a4⟩ := (fc b hb).1; ⟨a2, a1, a3, a4⟩
      have frameFree : He sc.heap.objs.size = none := by rw [← cl]; exact If.free
      obtain ⟨m, hm, _⟩ := If.loc
      have hm2 : sf.heap.Ns sc.heap.objs.size m := by rw [← cl]; exact hm
      obtain ⟨f0, f1, _, f3, f4, f5⟩ := Ic.fpOk (Nat.le_refl _) frameFree
      exact ⟨m, hm2, fun h2 same => ⟨.ref D, He, Iout.turned (t' := sf.toks) (fun b o hb e => (same.2 b hb).trans e) f0 f1 f3 f4 f5, rfl, fin⟩⟩
    · refine thnF (T.item (X.blk sc Hc scope ce fp) rfl rfl rfl hc i [] se _ He (fun _ _ => False) Ie (fine Ie noe) ste go) fun r sf ⟨u, hr, hf⟩ => ?_
      subst hr
      refine thnF hf fun _ sg ⟨x, Hg, Ig, rx, yx, stg, nog⟩ => ?_
      refine thnF (G.run _ sg _ Hg x u _ (Ig.pinned (fine Ig nog) (T.obj _ _ stg)) rx (each x Hg yx)) fun _ sh ⟨σh, Hh, Ih, hw, qh⟩ => ?_
      refine wpAny_pure ?_
      rw [if_pos rfl]
      refine thnF (KK.run _ sh σh Hh _ Ih qh) fun kv si ⟨y, Hi, Ii, ry, qi⟩ => ?_
      refine thnF (VV.run _ si σh Hi _ Ii qi) fun vv sj ⟨z, Hj, Ij, rz, kvs, k, b, ey, eb, eD, hl, nx⟩ => ?_
      subst ey
      obtain rfl : kv = Value.ref b := ry
      refine dt_set (X := X.blk sc Hc scope ce fp) Ij hu eD eb hl rz fun sk Ik => ?_
      obtain ⟨m', lt, wk⟩ := less _ nx
      have still : ∀ b ∈ fp, ∀ o, sg.heap.get? b = some o → sk.heap.get? b = some o ∧ upd Hj D (.dT (putK kvs k z)) b = none := fun b hb o e =>
        let w := Ik.pin (b, o) (List.mem_append_right _ (List.mem_append_right _ (mem_pinsAt hb e)))
        ⟨w.1, w.2.1⟩
      have lens : (L2.wipe σ (own.map (·.2))).length = σh.length := by rw [← hw, wipe_length]
      refine ⟨m', lt, i + 1, _, (Ik.unpinned (pins := [])).weak lens (fun j v e => ?_), T.keep _ _ _ stg fun b hb o e => (still b hb o e).1, fun b hb => ?_, wk⟩
      · rw [← hw] at e
        exact (wipe_some e).1
      · obtain ⟨o, e, _⟩ := T.obj _ _ stg b hb
        exact (still b hb o e).2
  rw [hce, hsd, hsc, hD] at loop
  exact codeAny_compStart_dict loop (T.self X.A 0 _ _ _ (by rw [hsd, hsc] at std; exact std) loop)
end
end Vd
set_option Elab.async false
set_option linter.all false
set_option maxRecDepth 100000
set_option maxHeartbeats 4000000
namespace Vd
open PySem L2
open PySem.Spec PyProof.Rows
def kD : Key → D
  | .inl i => .int i
  | .inr x => .str x
section
variable {K : PySem.W.Frag} {F : Hp}
theorem Rps.keys : ∀ {xs : List V} {k : List Key}, Rps K F xs (k.map kD) → xs = k.map kV
  | _, [], .nil => rfl
  | _, .inl i :: k, .cons h r => by
    cases h
    rw [Rps.keys r]
    rfl
  | _, .inr x :: k, .cons h r => by
    cases h
    rw [Rps.keys r]
    rfl
theorem Rps.ofKeys : ∀ k : List Key, Rps K F (k.map kV) (k.map kD)
  | [] => .nil
  | .inl i :: k => .cons (.int i) (Rps.ofKeys k)
  | .inr x :: k => .cons (.str x) (Rps.ofKeys k)
def valT (l : List (List Key × D)) (k : List Key) : Option D := (l.find? fun p => decide (p.1 = k)).map (·.2)
theorem valT_cons (q : List Key) (d : D) (l : List (List Key × D)) (k : List Key) : valT ((q, d) :: l) k = if q = k then some d else valT l k := by
  unfold valT
  rw [List.find?_cons]
  by_cases h : q = k <;> simp [h]
theorem valV_cons (q : List Key) (d : V) (l : List (List Key × V)) (k : List Key) : valV ((q, d) :: l) k = if q = k then some d else valV l k := by
  unfold valV
  rw [List.find?_cons]
  by_cases h : q = k <;> simp [h]
theorem Rpt.val {k : List Key} : ∀ {xs : List (List Key × V)} {l : List (List Key × D)}, Rpt K F xs l → (∀ d, valT l k = some d → ∃ v, valV xs k = some v ∧ Rp K F v d) ∧ (valT l k = none → valV xs k = none)
  | _, _, .nil => ⟨(fun d h => by cases h), fun _ => rfl⟩
  | _, _, .cons (k := q) h r => by
    obtain ⟨r1, r2⟩ := r.val (k := k)
    rw [valT_cons, valV_cons]
    by_cases z : q = k
    · simp only [if_pos z]
      refine ⟨fun d e => ?_, fun e => by cases e⟩
      cases e
      exact ⟨_, rfl, h⟩
    · simp only [if_neg z]
      exact ⟨r1, r2⟩
theorem Rpt.length : ∀ {xs : List (List Key × V)} {l : List (List Key × D)}, Rpt K F xs l → xs.length = l.length
  | _, _, .nil => rfl
  | _, _, .cons _ r => by simp [r.length]
theorem Rpt.get {i : Nat} {k : List Key} {v : V} : ∀ {xs : List (List Key × V)} {l : List (List Key × D)}, Rpt K F xs l → xs[i]? = some (k, v) → ∃ d, l[i]? = some (k, d) ∧ Rp K F v d := by
  induction i with
  | zero =>
    intro xs l r e
    cases r with
    | nil => simp at e
    | cons h _ =>
      simp at e
      obtain ⟨rfl, rfl⟩ := e
      exact ⟨_, rfl, h⟩
  | succ i ih =>
    intro xs l r e
    cases r with
    | nil => simp at e
    | cons _ r =>
      simp only [List.getElem?_cons_succ] at e ⊢
      exact ih r e
theorem Rpt.keys : ∀ {xs : List (List Key × V)} {l : List (List Key × D)}, Rpt K F xs l → xs.map (·.1) = l.map (·.1)
  | _, _, .nil => rfl
  | _, _, .cons _ r => by rw [List.map_cons, List.map_cons, r.keys]
theorem Rpt.snoc {k : List Key} {v : V} {d : D} (h : Rp K F v d) : ∀ {xs : List (List Key × V)} {l : List (List Key × D)}, Rpt K F xs l → Rpt K F (xs ++ [(k, v)]) (l ++ [(k, d)])
  | _, _, .nil => .cons h .nil
  | _, _, .cons g r => .cons g (r.snoc h)
theorem put_new {A : Type} [DecidableEq A] (l : List (A × V)) (k : A) (v : V) (h : k ∉ l.map (·.1)) : putK l k v = l ++ [(k, v)] := by
  unfold putK
  rw [if_neg]
  intro z
  obtain ⟨p, hp, e⟩ := List.any_eq_true.mp z
  exact h (List.mem_map.mpr ⟨p, hp, of_decide_eq_true e⟩)
theorem valV_new : ∀ {l : List (List Key × V)} {k : List Key}, valV l k = none → k ∉ l.map (·.1)
  | [], _, _ => by simp
  | (q, d) :: l, k, h => by
    rw [valV_cons] at h
    by_cases z : q = k
    · rw [if_pos z] at h
      cases h
    · rw [if_neg z] at h
      simp only [List.map_cons, List.mem_cons, not_or]
      exact ⟨fun e => z e.symm, valV_new h⟩
end
section
variable {X : Cx} {B : Hp} {env : List (Option D)} {ow : Ow} {o e i it kx vx : Expr} {es : List Expr} {d : D} {ds : List D} {pos ap cp : Pos} {Dn : Ends} {rest ss : List Stmt}
theorem wps_lock {σ : L2.St} {H : Hp} {a : Addr} {u : HO} (h : H a = some u) (mu : Mut (some u)) (q : ∀ od, WpS X ss Dn σ (upd H a (.frz od u))) : WpS X ss Dn σ H := fun pins s I => by
  obtain ⟨od, J⟩ := I.lock h mu
  exact q od pins s J
theorem wpe_lock {σ : L2.St} {H : Hp} {Q : VK} (q : WpE X e σ H fun v H' => ∃ a u, v = .ref a ∧ H' a = some u ∧ Mut (some u) ∧ ∀ od, Q v (upd H' a (.frz od u))) : WpE X e σ H Q := fun pins s I =>
  wpAny_mono (q pins s I) (fun u s' hs => by
    obtain ⟨v, H', J, r, a, u, e, g, mu, q⟩ := hs
    obtain ⟨od, J2⟩ := J.lock g mu
    exact ⟨v, _, J2, r, q od⟩) fun _ _ z => z
/-- an owned dict is locked and frozen -/
theorem lock_wo {F H : Hp} {a : Addr} {m : List (List Key × D)} {K : PySem.W.Frag} (w : Wo K ow F H) (ha : ow a = some (.dtp m)) : ∃ kvs, H a = some (.dT kvs) ∧ Rpt K F kvs m ∧ F a = none ∧ ∀ od, Ex F (upd F a (.frz od (.dT kvs))) ∧ Wo K (oz ow a) (upd F a (.frz od (.dT kvs))) (upd H a (.frz od (.dT kvs))) := by
  obtain ⟨n, kvs, g, r⟩ := w.own a _ ha
  refine ⟨kvs, g, r, n, fun od => ⟨Evl.Ex.new n, fun b u hb => ?_, fun b u hb => ?_⟩⟩
  · by_cases z : b = a
    · subst z
      rw [upd_same] at hb ⊢
      exact hb
    · rw [upd_ne z] at hb ⊢
      exact w.ex b u hb
  · have z : b ≠ a := fun y => by
      rw [y, oz_same] at hb
      cases hb
    rw [oz_ne z] at hb
    obtain ⟨h1, h2⟩ := w.own b u hb
    exact ⟨by rw [upd_ne z]; exact h1, h2.stay (Evl.Ex.new n) (upd_ne z)⟩
theorem rn_freezeT {j : Nat} {a : Addr} {m : List (List Key × D)} (hj : env[j]? = some (some (.ob (.ref a)))) (ha : ow a = some (.dtp m)) (k : ∀ B', Ex B B' → Rn X B' rest Dn (env.set j (some (.dtp m))) (oz ow a)) : Rn X B rest Dn env ow := .mk fun σ F H eB s w => by
  obtain ⟨kvs, g, r, n, z⟩ := lock_wo w ha
  refine wps_lock g trivial fun od => ?_
  obtain ⟨e1, w1⟩ := z od
  obtain ⟨v, h1, h2⟩ := s.at_ j _ hj
  cases h2
  have s1 : Sl X.K (upd F a (.frz od (.dT kvs))) (σ.set j (some (.ref a))) (env.set j (some (.dtp m))) := (s.mono e1).set (.dtp upd_same (r.mono e1)) j
  have y : σ.set j (some (.ref a)) = σ := by
    apply List.ext_getElem?
    intro q
    rw [List.getElem?_set]
    by_cases c : j = q
    · subst c
      rw [if_pos rfl, h1, if_pos (List.getElem?_eq_some_iff.mp h1).1]
    · rw [if_neg c]
  rw [y] at s1
  exact k _ (eB.trans e1) σ _ _ (Evl.Ex.refl _) s1 w1
theorem ve_tupF {k0 : Nat} (h : Va X es env ow ds) (hl : ds.length ≤ 100000) : Ve X (.Tuple es k0 pos) env ow (.tupF ds) := .mk fun σ F H Q s w k =>
  wpe (pe_tup pa_can) (h σ F H _ s w fun F1 H1 xs e1 w1 r1 => ⟨Evl.sz_of (by rw [r1.length]; exact hl), fun p hp => (k.ex e1).new w1 hp (.tupF upd_same (r1.mono (w1.exnew hp)))⟩)
/-- name = {}: a dict for tuples -/
theorem rn_newT {x : Str} {p lp : Pos} {j : Nat} (hN : X.N.Nodup) (hi : X.N[j]? = some x) (hx : Loc X.env.scope x) (k : ∀ B' q, Ex B B' → ow q = none → Rn X B' rest Dn (env.set j (some (.ob (.ref q)))) (ou ow q (.dtp [])))
    (hs : swapsWith (.Dict [] [] lp) (some (.Name x p)) pos.line X.env = pure false := by rfl) (hf : X.fn x = true ∨ X.env.scope.names.lookup x = some .local := by first | exact .inl rfl | exact .inr rfl | assumption) : Rn X B (.Assign [.Name x p] (.Dict [] [] lp) pos :: rest) Dn env ow :=
  rn_one ⟨_, ps_set hN hi hx pe_dnewT hs hf, fun σ F H eB s w q hq => k F q eB (w.ofree hq) _ F _ (Evl.Ex.refl F) (s.set (.ob _) j) (w.newT hq .nil)⟩
/-- d[t] -/
theorem ve_getT {m : List (List Key × D)} {k : List Key} (hu : X.A.units + 1 < cLine) (ho : Ve X o env ow (.dtp m)) (hi : Ve X i env ow (.tupF (k.map kD))) (hv : valT m k = some d) (hs : NoSl i := by intro _ _; rfl) : Ve X (.Subscript o i pos) env ow d := .mk fun σ F H Q s w k0 =>
  wpe (pe_dget hu pe_can pe_can hs) (ho σ F H _ s w fun F1 H1 x e1 w1 r1 => hi σ F1 H1 _ (s.mono e1) w1 fun F2 H2 y e2 w2 r2 => by
    have r1' := r1.mono e2
    cases r1' with
    | @dtp a oo kvs _ g r =>
      cases r2 with
      | tupF g2 rk =>
        have z := rk.keys
        subst z
        obtain ⟨v, hv2, rv⟩ := (r.val (k := k)).1 d hv
        exact ⟨a, v, rfl, .inr ⟨kvs, k, _, .inr ⟨oo, w2.ex _ _ g⟩, rfl, w2.ex _ _ g2, hv2.symm⟩, (k0.ex (e1.trans e2)).here w2 rv⟩)
/-- for t in d -/
theorem vi_keysT {tg : Expr} {m : List (List Key × D)} (h : Ve X it env ow (.dtp m)) : Vi X tg it env ow (m.map fun p => .tupF (p.1.map kD)) := ⟨_, pi_keys pe_can, fun σ F H R s w k => h σ F H _ s w fun F1 H1 v e1 w1 r1 => by
  cases r1 with
  | @dtp a oo kvs _ g r =>
    refine ⟨a, oo, rfl, .inr ⟨kvs, w1.ex _ _ g, k _ F1 H1 e1 w1 fun F2 H2 ow2 n e2 w2 => ⟨fun hl => ?_, fun d hd => ?_⟩⟩⟩
    · rw [List.length_map, ← r.length] at hl
      exact ⟨w2.ex _ _ (e2 _ _ g), hl⟩
    · obtain ⟨p, hp, rfl⟩ : ∃ p, m[n]? = some p ∧ d = .tupF (p.1.map kD) := by
        rw [List.getElem?_map] at hd
        cases q : m[n]? with
        | none => rw [q] at hd; cases hd
        | some p => rw [q] at hd; exact ⟨p, rfl, (Option.some.inj hd).symm⟩
      have nl : n < kvs.length := by rw [r.length]; exact (List.getElem?_eq_some_iff.mp hp).1
      refine ⟨⟨w2.ex _ _ (e2 _ _ g), nl⟩, fun x H' hy => ?_⟩
      obtain ⟨rfl, k2, v2, q, hk, rfl, hq⟩ := hy
      obtain ⟨d2, hd2, _⟩ := r.get hk
      rw [hp] at hd2
      cases hd2
      -- the key's tuple is known to the heap, and now to the frozen part
      have noq : ow2 q = none := by
        cases z : ow2 q with
        | none => rfl
        | some u =>
          obtain ⟨_, ok⟩ := w2.own q u z
          cases u with
          | lst l => obtain ⟨_, y, _⟩ := ok; rw [hq] at y; cases y
          | dct l => obtain ⟨_, y, _⟩ := ok; rw [hq] at y; cases y
          | ins C l => obtain ⟨_, _, y, _⟩ := ok; rw [hq] at y; cases y
          | dtp l => obtain ⟨_, y, _⟩ := ok; rw [hq] at y; cases y
      cases z : F2 q with
      | some u =>
        have y := w2.ex _ _ z
        rw [hq] at y
        cases y
        exact ⟨F2, Evl.Ex.refl F2, w2, .tupF z (Rps.ofKeys _)⟩
      | none => exact ⟨upd F2 q (.tup (k2.map kV)), Evl.Ex.new z, w2.freeze z hq noq, .tupF upd_same (Rps.ofKeys _)⟩⟩
end
end Vd
set_option Elab.async false
set_option linter.all false
set_option maxRecDepth 100000
set_option maxHeartbeats 4000000
namespace Vd
open PySem L2
open PySem.Spec PyProof.Rows
section
variable {X : Cx} {B : Hp} {env : List (Option D)} {ow : Ow} {o e i it kx vx : Expr} {es : List Expr} {d : D} {ds : List D} {pos ap cp lp : Pos} {Dn : Ends} {rest : List Stmt}
/-- what d.setdefault(t, []) comes to -/
def PSetd (ow : Ow) (a : Addr) (m : List (List Key × D)) (k : List Key) (d : D) (ow2 : Ow) : Prop := (valT m k = some d ∧ ow2 = ow) ∨ (valT m k = none ∧ ∃ q, d = .ob (.ref q) ∧ ow q = none ∧ q ≠ a ∧ ow2 = ou (ou ow q (.lst [])) a (.dtp (m ++ [(k, .ob (.ref q))])))
theorem vm_setdT {a : Addr} {m : List (List Key × D)} {k : List Key} (hu : X.A.units + 3 < cLine) (ho : Ve X o env ow (.ob (.ref a))) (ha : ow a = some (.dtp m)) (he : Ve X e env ow (.tupF (k.map kD))) (hl : m.length < 100000) (mm : M2 X o "setdefault" ap e (.List [] lp) cp) :
    Vm X (.Call (.Attribute o "setdefault" ap) [e, .List [] lp] [] cp) env ow (PSetd ow a m k) := .mk fun σ F H Q s w k0 => wpe (pe_setdT hu pe_can pe_can (pe_lst pa_nil) mm) (ho σ F H _ s w fun F1 H1 x e1 w1 r1 => by
  cases r1
  obtain ⟨_, kv0, g0, _⟩ := w1.own a _ ha
  refine ⟨a, kv0, rfl, g0, he σ F1 H1 _ (s.mono e1) w1 fun F2 H2 y e2 w2 r2 => ⟨Nat.zero_le _, fun p hp => ?_⟩⟩
  cases r2 with
  | @tupF b xs l g2 rk =>
  have z := rk.keys
  subst z
  obtain ⟨na, kvs, ga, ra⟩ := w2.own a _ ha
  have pa : a ≠ p := fun z => by rw [z, hp] at ga; cases ga
  have pb : b ≠ p := fun z => by
    have y := w2.ex _ _ g2
    rw [z, hp] at y
    cases y
  have w3 := w2.newL hp (.nil : Rps X.K F2 [] [])
  have op : ow p = none := w2.ofree hp
  refine ⟨kvs, k, b, by rw [upd_ne pa]; exact ga, rfl, by rw [upd_ne pb]; exact w2.ex _ _ g2, Evl.sz_lt (by rw [ra.length]; exact hl), fun v hv => ?_, fun hv => ?_⟩
  · cases q : valT m k with
    | none =>
      rw [(ra.val (k := k)).2 q] at hv
      cases hv
    | some d =>
      obtain ⟨v2, hv2, rv⟩ := (ra.val (k := k)).1 d q
      rw [hv] at hv2
      cases hv2
      exact k0 F2 _ v d ow (e1.trans e2) (w3.drop fun c u hc => by
        rw [ou_ne (fun z => by rw [z, op] at hc; cases hc)]
        exact hc) rv (.inl ⟨q, rfl⟩)
  · have q : valT m k = none := by
      cases q : valT m k with
      | none => rfl
      | some d =>
        obtain ⟨v2, hv2, _⟩ := (ra.val (k := k)).1 d q
        rw [hv] at hv2
        cases hv2
    rw [put_new _ _ _ (valV_new hv)]
    have oa : ou ow p (.lst []) a = some (.dtp m) := by rw [ou_ne pa]; exact ha
    exact k0 F2 _ _ _ _ (e1.trans e2) (w3.setT oa (ra.snoc (.ob (.ref p)))) (.ob _) (.inr ⟨q, p, rfl, op, fun z => pa z.symm, rfl⟩))
/-- o.append(e), o what changes the owned -/
theorem rn_appM {P : D → Ow → Prop} (ho : Vm X o env ow P) (h : ∀ d ow2, P d ow2 → ∃ q l de, d = .ob (.ref q) ∧ ow2 q = some (.lst l) ∧ l.length < 100000 ∧ Ve X e env ow2 de ∧ ∀ B', Ex B B' → Rn X B' rest Dn env (ou ow2 q (.lst (l ++ [de]))))
    (hbase : attributeBase o "append" X.env (eval o X.env) = eval o X.env := by rfl)
    (hfew : ((backTo cp (starEach [e] X.env)).all (fun x => !x.1) && (backToKw cp (keywordEach [] X.env)).all (fun x => x.1.isSome) && decide ([e].length + ([] : List Keyword).length + (if ([] : List Keyword).isEmpty then 0 else 1) < 30)) = true := by rfl)
    (hline : (ap.endLine == cp.line) = true := by rfl) (hst : starEach [e] X.env = (false, eval e X.env) :: starEach [] X.env := by rfl) (hpl : (backTo cp (starEach [] X.env)).any (·.1) = false := by rfl) (hs : swapsWith (.Call (.Attribute o "append" ap) [e] [] cp) none pos.line X.env = pure false := by rfl) :
    Rn X B (.Expr (.Call (.Attribute o "append" ap) [e] [] cp) pos :: rest) Dn env ow := rn_one ⟨_, ps_expr (pe_bm PySem.F.plainAttrs_list PySem.F.slot_list_append PySem.F.type_list_append mt_append pe_can (pa_cons pe_can pa_nil hst) hbase hfew hline hst hpl) hs, fun σ F H eB s w => ho σ F H _ s w fun F1 H1 v d ow2 e1 w1 r1 hp => by
  obtain ⟨q, l, de, rfl, hq, hl, he, go⟩ := h d ow2 hp
  cases r1
  obtain ⟨_, xs0, g0, _⟩ := w1.own q _ hq
  refine ⟨.inl ⟨rfl, _, SqL.of g0⟩, he σ F1 H1 _ (s.mono e1) w1 fun F2 H2 y e2 w2 r2 => ?_⟩
  obtain ⟨_, xs, g, sx⟩ := w2.own q _ hq
  exact ⟨q, xs, y, rfl, rfl, g, Evl.sz_lt (by rw [sx.length]; exact hl), go F2 (eB.trans (e1.trans e2)) σ F2 _ (Evl.Ex.refl F2) (s.mono (e1.trans e2)) (w2.setL hq (sx.append (.cons r2 .nil)))⟩⟩
/-- {kx: vx for name in it}, the keys tuples, no two alike -/
theorem ve_dcT {scope : Scope} {j : Nat} {y : Str} {py : Pos} (kf : D → List Key) (vf : D → D) (hu : X.A.units + 1 < cLine) (hc : X.calm = true) (hN : X.N.Nodup) (hi : Vi X (.Name y py) it env ow ds) (ok : BlkOk X.N X.env.scope scope [(y, j)]) (hl : ds.length ≤ 100000) (nd : (ds.map kf).Nodup)
    (hg : ∀ (s : Shared) (H : Hp) (C : Addr) (cl : List (Str × Addr)) (fp : List Addr), PG (X.blk s H scope (compEnvC scope cl C X.env) fp) (.Name y py) (gName j))
    (hk : ∀ d ow', d ∈ ds → Sub ow ow' → ∀ (s : Shared) (H : Hp) (C : Addr) (cl : List (Str × Addr)) (fp : List Addr), Ve (X.blk s H scope (compEnvC scope cl C X.env) fp) kx ((env.set j none).set j (some d)) ow' (.tupF ((kf d).map kD)))
    (hv : ∀ d ow', d ∈ ds → Sub ow ow' → ∀ (s : Shared) (H : Hp) (C : Addr) (cl : List (Str × Addr)) (fp : List Addr), Ve (X.blk s H scope (compEnvC scope cl C X.env) fp) vx ((env.set j none).set j (some d)) ow' (vf d))
    (hsf : ∀ x, foldedSetIterable it X.env x = pure x := by intro _; rfl) : Ve X (.DictComp kx vx [⟨.Name y py, it, [], 0⟩] scope pos) env ow (.dtp (ds.map fun d => (kf d, vf d))) := .mk fun σ F H Q s w k0 => by
  obtain ⟨wi, pi, hw⟩ := hi
  refine wpe_lock (wpe (pe_dcT (own := [(y, j)]) (g := gName j) (tk := fun σ H Q => ∀ (s : Shared) (H0 : Hp) (C : Addr) (cl : List (Str × Addr)) (fp : List Addr), WpE (X.blk s H0 scope (compEnvC scope cl C X.env) fp) kx σ H Q)
    (tv := fun σ H Q => ∀ (s : Shared) (H0 : Hp) (C : Addr) (cl : List (Str × Addr)) (fp : List Addr), WpE (X.blk s H0 scope (compEnvC scope cl C X.env) fp) vx σ H Q) hu hc hN pi ok hg
    (fun s0 H0 C cl fp => ⟨fun pins s σ H Q I h => h s0 H0 C cl fp pins s I⟩) (fun s0 H0 C cl fp => ⟨fun pins s σ H Q I h => h s0 H0 C cl fp pins s I⟩) hsf) ?_)
  refine hw σ F H _ s w fun J F1 H1 e1 w1 src => ?_
  intro Dl hD
  refine ⟨fun n m H => m = ds.length - n ∧ n ≤ ds.length ∧ ∃ F2 kvs, Ex F1 F2 ∧ Wo X.K ow F2 H ∧ F2 Dl = none ∧ ow Dl = none ∧ H Dl = some (.dT kvs) ∧ Rpt X.K F2 kvs ((ds.take n).map fun d => (kf d, vf d)), ⟨ds.length, by simp, Nat.zero_le _, F1, [], Evl.Ex.refl F1, w1.grow hD, w1.free hD, w1.ofree hD, upd_same, .nil⟩, ?_⟩
  rintro n m H2 ⟨rfl, hn, F2, kvs, e2, w2, hF2, hoD, hH2, r2⟩
  -- the new dict's place is owned meanwhile
  have w2' : Wo X.K (ou ow Dl (.dtp ((ds.take n).map fun d => (kf d, vf d)))) F2 H2 := ⟨w2.ex, fun a u q => by
    by_cases z : a = Dl
    · subst z
      rw [ou_same] at q
      cases q
      exact ⟨hF2, kvs, hH2, r2⟩
    · rw [ou_ne z] at q
      exact w2.own a u q⟩
  have sub : Sub ow (ou ow Dl (.dtp ((ds.take n).map fun d => (kf d, vf d)))) := fun a u q => by
    rw [ou_ne (fun z => by rw [z, hoD] at q; cases q)]
    exact q
  obtain ⟨stop, go⟩ := src F2 H2 _ n e2 w2'
  by_cases hlt : n < ds.length
  · have hdi : ds[n]? = some ds[n] := by simp [hlt]
    have htk : ds.take (n + 1) = ds.take n ++ [ds[n]] := by rw [List.take_add_one, hdi]; rfl
    obtain ⟨hgo, hy⟩ := go ds[n] hdi
    refine .inr ⟨hgo, fun H3 => ∃ F3 kvs, Ex F1 F3 ∧ Wo X.K ow F3 H3 ∧ F3 Dl = none ∧ ow Dl = none ∧ H3 Dl = some (.dT kvs) ∧ Rpt X.K F3 kvs ((ds.take (n + 1)).map fun d => (kf d, vf d)), fun H3 q => ⟨ds.length - (n + 1), by omega, rfl, hlt, q⟩, fun x H3 hx => ?_⟩
    obtain ⟨F3, e3, w3, r3⟩ := hy x H3 hx
    have sl : Sl X.K F3 ((L2.wipe σ [j]).set j (some x)) ((env.set j none).set j (some ds[n])) := (((s.mono (e1.trans (e2.trans e3))).unset j).set r3 j)
    have hmem : ds[n] ∈ ds := List.getElem_mem hlt
    refine ⟨wipe_one, fun s0 H0 C cl fp => hk ds[n] _ hmem sub s0 H0 C cl fp _ F3 H3 _ sl w3 fun F4 H4 ky e4 w4 rk => ?_⟩
    intro s1 H01 C1 cl1 fp1
    refine hv ds[n] _ hmem sub s1 H01 C1 cl1 fp1 _ F4 H4 _ (sl.mono e4) w4 fun F5 H5 z e5 w5 rz => ?_
    cases rk with
    | @tupF b xs l g4 rks =>
    have zk := rks.keys
    subst zk
    obtain ⟨n5, kv5, h5, s5⟩ := w5.own Dl _ ou_same
    have len5 : kv5.length = n := by
      rw [s5.length, List.length_map, List.length_take]
      omega
    have fresh : kf ds[n] ∉ kv5.map (·.1) := by
      rw [s5.keys, List.map_map]
      intro hm
      obtain ⟨c, hc1, hc2⟩ := List.mem_map.mp hm
      obtain ⟨m2, hm2, hc3⟩ := List.getElem_of_mem hc1
      rw [List.length_take] at hm2
      rw [List.getElem_take] at hc3
      have e : (ds.map kf)[m2]'(by rw [List.length_map]; omega) = (ds.map kf)[n]'(by rw [List.length_map]; exact hlt) := by
        rw [List.getElem_map, List.getElem_map, hc3]
        exact hc2
      have := (List.getElem_inj nd).mp e
      omega
    refine ⟨kv5, kf ds[n], b, rfl, w5.ex _ _ (e5 _ _ g4), h5, Evl.sz_lt (by omega), F5, _, e2.trans (e3.trans (e4.trans e5)), ?_, n5, hoD, upd_same, ?_⟩
    · rw [put_new _ _ _ fresh]
      exact (w5.setT ou_same (s5.snoc rz)).drop fun a u q => by
        rw [ou_ne (fun z => by rw [z, hoD] at q; cases q)]
        exact sub a u q
    · rw [put_new _ _ _ fresh, htk, List.map_append]
      exact s5.snoc rz
  · have e : n = ds.length := by omega
    subst e
    refine .inl ⟨stop (Nat.le_refl _), Dl, .dT kvs, rfl, hH2, trivial, fun od => ?_⟩
    obtain ⟨kv3, g3, r3, n3, zz⟩ := lock_wo w2' ou_same
    rw [hH2] at g3
    cases g3
    obtain ⟨ex, w4⟩ := zz od
    rw [List.take_length] at r3
    refine k0 _ _ _ (e1.trans (e2.trans ex)) (w4.drop fun a u q => ?_) (.dtp upd_same (r3.mono ex))
    have na : a ≠ Dl := fun z => by rw [z, hoD] at q; cases q
    rw [oz_ne na, ou_ne na]
    exact q
end
def pF (p : Int × Int) : D := .tupF [.int p.1, .int p.2]
def leP (p q : Int × Int) : Prop := p.1 < q.1 ∨ (p.1 = q.1 ∧ p.2 ≤ q.2)
/-- the pair that stands at a place -/
def pairAt (H : Hp) : V → Int × Int
  | .ref t => match H t with
    | some (.tup [.int i, .int j]) => (i, j)
    | _ => (0, 0)
  | _ => (0, 0)
theorem sort_run {X : Cx} {ow : Ow} {F H : Hp} {a : Addr} {xs : List V} {l S : List (Int × Int)} {Q : VK} (w : Wo X.K ow F H) (ha : SqL X.K H a xs) (r : Rps X.K F xs (l.map pF)) (hp : S.Perm l) (hs : S.Pairwise leP) (k : Post X.K ow F (.lst (S.map pF)) Q) : rSortedPO X.K [.ref a] H Q := by
  have at_ : ∀ {ys : List V} {l2 : List (Int × Int)}, Rps X.K F ys (l2.map pF) → ys.map (pairAt H) = l2 := by
    intro ys
    induction ys with
    | nil =>
      intro l2 r2
      cases l2 with
      | nil => rfl
      | cons q l2 => cases r2
    | cons y ys ih =>
      intro l2 r2
      cases l2 with
      | nil => cases r2
      | cons q l2 =>
        cases r2 with
        | cons r3 r4 =>
          cases r3 with
          | @tupF t zs _ g rz =>
            have e := Rps.intsV (l := [q.1, q.2]) rz
            subst e
            rw [List.map_cons, ih r4]
            have z : H t = some (.tup [.int q.1, .int q.2]) := w.ex _ _ g
            show (match H t with | some (.tup [.int i, .int j]) => (i, j) | _ => (0, 0)) :: l2 = _
            rw [z]
  refine ⟨a, xs, pairAt H, rfl, ha, fun x hx => ?_, fun ys p hsr hst hn => ?_⟩
  · obtain ⟨i, hi⟩ := List.getElem?_of_mem hx
    obtain ⟨d, hd, rd⟩ := r.get' hi
    obtain ⟨q, hq, rfl⟩ := List.mem_map.mp (List.mem_of_getElem? hd)
    cases rd with
    | @tupF t zs _ g rz =>
      have e := Rps.intsV (l := [q.1, q.2]) rz
      subst e
      have z : H t = some (.tup [.int q.1, .int q.2]) := w.ex _ _ g
      have y : pairAt H (.ref t) = q := by
        show (match H t with | some (.tup [.int i, .int j]) => (i, j) | _ => (0, 0)) = _
        rw [z]
      exact ⟨t, rfl, by rw [y]; exact z⟩
  · obtain ⟨ds', pd, rd⟩ := Rps.perm hst.perm r
    obtain ⟨l2, rfl⟩ : ∃ l2 : List (Int × Int), ds' = l2.map pF := by
      have all : ∀ d ∈ ds', ∃ q, d = pF q := fun d hd => by
        obtain ⟨q, _, e⟩ := List.mem_map.mp (pd.mem_iff.mp hd)
        exact ⟨q, e.symm⟩
      clear pd rd
      induction ds' with
      | nil => exact ⟨[], rfl⟩
      | cons d ds' ih =>
        obtain ⟨q, rfl⟩ := all d (List.mem_cons_self ..)
        obtain ⟨l2, e⟩ := ih fun d hd => all d (List.mem_cons_of_mem _ hd)
        exact ⟨q :: l2, by rw [e]; rfl⟩
    have e1 := at_ rd
    have e2 := at_ r
    have pl : l2.Perm l := by
      rw [← e1, ← e2]
      exact hst.perm.map _
    have sl : l2.Pairwise leP := by
      rw [← e1, List.pairwise_map]
      refine hsr.imp fun {x y} h => ?_
      have z := SrtO.lexB_no.mp h
      unfold leP
      omega
    obtain rfl : l2 = S := List.Perm.eq_of_pairwise (le := leP) (fun p q _ _ h1 h2 => by
      unfold leP at h1 h2
      exact Prod.ext (by omega) (by omega)) sl hs (pl.trans hp.symm)
    exact k.new w hn (.lst upd_same (rd.mono (w.exnew hn)))
section
variable {X : Cx} {ow : Ow}
/-- of an owned list -/
theorem fo_sortPO {q : Addr} {l S : List (Int × Int)} (hq : ow q = some (.lst (l.map pF))) (hp : S.Perm l) (hs : S.Pairwise leP) : BiOk X ow "sorted" [.ob (.ref q)] (.lst (S.map pF)) := ⟨_, cr_sortedPO, .mk fun F H xs Q w r k => by
  cases r with
  | cons r1 r2 =>
    cases r2
    cases r1
    obtain ⟨_, ys, g, sx⟩ := w.own q _ hq
    exact sort_run w (SqL.of g) sx hp hs k⟩
end
end Vd
set_option Elab.async false
set_option linter.all false
set_option maxRecDepth 100000
set_option maxHeartbeats 4000000
namespace Vd
open PySem L2
open PySem.Spec PyProof.Rows
theorem lit_pairs {prog : Program} {w : World} : ∀ {l : List DictEntry}, PySem.W.KeysLit w.params l → PySem.Pairs (knd := PySem.strKind prog w) l (l.map fun e => (keyS e, e.val))
  | [], _ => .nil
  | e :: l, ⟨⟨x, t, h, _⟩, r⟩ => by
    refine .cons ?_ rfl (lit_pairs r)
    show (PySem.strKind prog w).is (keyS e) e.key = true
    unfold keyS
    rw [h]
    exact PySem.strKind_is prog w x t
section
variable {X : Cx} {ow : Ow} {a b : Expr} {d : D} {pos : Pos}
theorem call_listKd {q : Addr} {es : Array DictEntry} {n : Nat} {ks : List Str} (hc : X.calm = true) (T : KDict X.K X.w q es n) (hks : es.toList.map keyS = ks) (nd : ks.Nodup) (hz : ks.length ≤ 1000) :
    CallR X (.type "list") (fun xs H Q => xs = [.ref q] ∧ ∀ p, H p = none → Q (.ref p) (upd H p (.lst (ks.map V.str)))) := by
  intro pins s σ H xs us Q I r h
  obtain ⟨rfl, k0⟩ := h
  obtain rfl := Vals.ref1 r
  have here : s.heap.DictAt (PySem.strKind X.prog X.w) q (es.toList.map fun e => (keyS e, e.val)) n := by
    refine ⟨_, es, I.kIn _ _ T.at_, ⟨rfl, rfl, rfl⟩, rfl, fun e he => ?_, lit_pairs T.lit, ?_⟩
    · obtain ⟨x, t, e1, e2⟩ := T.lit.all e (Array.mem_toList_iff.mpr he)
      exact ⟨x, by rw [e1]; exact PySem.strKind_is X.prog X.w x t, e2⟩
    · rw [List.map_map]
      show (es.toList.map keyS).Nodup
      rw [hks]
      exact nd
  have len : (es.toList.map fun e => (keyS e, e.val)).length = ks.length := by rw [← hks, List.length_map, List.length_map]
  refine PySem.W.kdl_call (PySem.W.kdl_dict (knd := PySem.strKind X.prog X.w) (kvs := es.toList.map fun e => (keyS e, e.val)) (ep := n) T.low) (I.ok.hd hc) here (by rw [len]; exact Evl.sz_of (by omega)) fun h' tk acc c keep there items => ?_
  have vals : ∀ {us : List Value} {ss : List Str}, us.length = ss.length → (∀ (j : Nat) (v : Value), us[j]? = some v → ∃ x, ss[j]? = some x ∧ Value.isStrOf x v = true) → Vals (ss.map V.str) us := by
    intro us
    induction us with
    | nil =>
      intro ss e _
      cases ss with
      | nil => exact .nil
      | cons _ _ => cases e
    | cons u us ih =>
      intro ss e h
      cases ss with
      | nil => cases e
      | cons x ss =>
        obtain ⟨y, e1, e2⟩ := h 0 u rfl
        cases e1
        obtain ⟨t, rfl⟩ := Value.isStrOf_shape e2
        exact .cons ⟨t, rfl⟩ (ih (by simpa using e) fun j v hj => h (j + 1) v hj)
  have hv : Vals (ks.map V.str) acc.toList := by
    refine vals (by rw [Array.length_toList, items.1, len]) fun j v hj => ?_
    obtain ⟨x, u, e1, e2⟩ := items.2 j v (by rw [← Array.getElem?_toList]; exact hj)
    refine ⟨x, ?_, e2⟩
    rw [← hks]
    rw [List.getElem?_map] at e1 ⊢
    cases z : es.toList[j]? with
    | none => rw [z] at e1; cases e1
    | some e =>
      rw [z] at e1
      have y := Option.some.inj e1
      exact congrArg some (congrArg Prod.fst y)
  exact ⟨.ref s.heap.objs.size, upd H s.heap.objs.size (.lst (ks.map V.str)), I.laid (t' := tk) keep (Nat.le_refl _) ⟨by rw [List.length_map]; exact Evl.sz_of (by omega), acc.toList, c, hv, by rw [Array.toArray_toList]; exact there⟩, rfl, k0 _ (I.hok.fresh (Nat.le_refl _))⟩
theorem to_listKd {q : Addr} {es : Array DictEntry} {n : Nat} {ks : List Str} (hc : X.calm = true) (T : KDict X.K X.w q es n) (hks : es.toList.map keyS = ks) (nd : ks.Nodup) (hz : ks.length ≤ 1000) : TyOk X ow "list" [.ob (.ref q)] (.lst (ks.map D.str)) := ⟨_, call_listKd hc T hks nd hz, .mk fun F H xs Q w r k => by
  cases r with
  | cons r1 r2 =>
    cases r2
    cases r1
    exact ⟨rfl, fun p hp => k.new w hp (.lst upd_same (Rps.strs _))⟩⟩
/-- x // n, n not 0 and small -/
theorem bo_fdiv {i j : Int} (h : j ≠ 0) (h2 : j.natAbs < 1073741824) : BinOk X ow .FloorDiv (.int i) (.int j) (.int (i.fdiv j)) := ⟨_, op_fdivN, .mk fun F H x y Q w r1 r2 k => by
  cases r1
  cases r2
  exact ⟨i, j, rfl, rfl, ⟨h, h2⟩, k.here w (.int _)⟩⟩
end
end Vd
set_option Elab.async false
set_option linter.all false
set_option maxRecDepth 100000
set_option maxHeartbeats 4000000
namespace Vd
open PySem L2
open PySem.Spec PyProof.Rows
/-- the module's def x keeps the promise sp -/
def Df (γ : Gds) (P : Program) (w : World) (K : PySem.W.Frag) (mg : Str → Option Value) (base : Heap) (k : Nat) (x : Str) (ps : List Str) (sp : Sp) : Prop := ∃ f fd, FnG γ P w K mg base CX0 k f fd ps sp ∧ mg x = some (.ref f) ∧ PySem.W.keepIn K (.ref f) = true ∧ Binds K fd ps []
theorem Df.mono {γ : Gds} {P : Program} {w : World} {K : PySem.W.Frag} {mg : Str → Option Value} {base : Heap} {j k : Nat} {x : Str} {ps : List Str} {sp : Sp} (h : Df γ P w K mg base j x ps sp) (l : j ≤ k) : Df γ P w K mg base k x ps sp := by
  obtain ⟨f, fd, a, b, c, d⟩ := h
  exact ⟨f, fd, a.mono l, b, c, d⟩
section
variable {γ : Gds} {X : Cx} {env : List (Option D)} {ow : Ow} {e : Expr} {es : List Expr} {d : D} {ds : List D} {pos p : Pos} {k : Nat} {x : Str} {ps : List Str} {G : List D → Prop} {R : List D → D → Prop}
theorem ve_D (h : Df γ X.prog X.w X.K X.mg X.base k x ps (spR X.K R)) (hgd : γ X.A.guards) (hr : Room k X.A) (hg : Gl X x) (ha : Va X (e :: es) env ow ds) (hR : R ds d)
    (hdb : (x == ("__debug__" : Str)) = false := by decide) (he : starEach (e :: es) X.env = (false, eval e X.env) :: starEach es X.env := by rfl) (hpl : (backTo pos (starEach es X.env)).any (·.1) = false := by rfl) : Ve X (.Call (.Name x p) (e :: es) [] pos) env ow d := by
  obtain ⟨f, fd, Fn, hm, hk, hb⟩ := h
  exact ve_call Fn hgd hr hg hm hk hb .nil pass0 ha (fun F H vs Q w r k0 => by
    rw [List.append_nil]
    exact ⟨F, ow, ds, d, w, r, hR, k0⟩) hdb he hpl
theorem vm_DC {c : Addr} (h : Df γ X.prog X.w X.K X.mg X.base k x ps (spC X.K G R)) (hgd : γ X.A.guards) (hr : Room k X.A) (hg : Gl X x) (ha : Va X (e :: es) env ow (.ob (.ref c) :: ds)) (hc : CupO ow c) (hG : G ds)
    (hdb : (x == ("__debug__" : Str)) = false := by decide) (he : starEach (e :: es) X.env = (false, eval e X.env) :: starEach es X.env := by rfl) (hpl : (backTo pos (starEach es X.env)).any (·.1) = false := by rfl) : Vm X (.Call (.Name x p) (e :: es) [] pos) env ow fun d ow2 => SameO c ow ow2 ∧ CupO ow2 c ∧ R ds d := by
  obtain ⟨f, fd, Fn, hm, hk, hb⟩ := h
  exact vm_draw Fn hgd hr hg hm hk hb ha hc hG hdb he hpl
theorem inV_strs {z : Str} : ∀ l : List Str, inV (.str z) (l.map V.str) = decide (z ∈ l)
  | [] => rfl
  | y :: l => by
    have ih := inV_strs (z := z) l
    unfold inV at ih ⊢
    rw [List.map_cons, List.any_cons, ih]
    have e : eqV (.str y) (.str z) = decide (z = y) := by
      show (y == z) = _
      by_cases h : z = y
      · subst h; simp
      · have h2 : ¬ y = z := fun q => h q.symm
        simp [h, h2]
    rw [e]
    by_cases h : z = y
    · simp [h]
    · simp [h]
theorem flat_strs : ∀ l : List Str, (l.map V.str).all flatV = true
  | [] => rfl
  | y :: l => by rw [List.map_cons, List.all_cons, flat_strs l]; rfl
theorem co_inSL {b : Expr} {z : Str} {l : List Str} (hm : behindInMarks .In b = false) : CmpOk X ow .In b (.str z) (.lst (l.map D.str)) (.bl (decide (z ∈ l))) := ⟨_, op_in_seq, hm, .mk fun F H x y Q w r1 r2 k => by
  cases r1
  cases r2 with
  | lst g s1 =>
    have e := Rps.strsV s1
    subst e
    refine ⟨_, _, rfl, .inl (SqL.of (w.ex _ _ g)), rfl, flat_strs l, ?_⟩
    rw [if_neg Bool.false_ne_true, inV_strs]
    exact k.here w (.bl _)⟩
end
end Vd
set_option Elab.async false
set_option linter.all false
namespace Per
def P (f : Nat → Bool) (m : Nat) : Prop := ∀ x, f (x + m) = f x
variable {f : Nat → Bool} {m n : Nat}
theorem P.zero (f : Nat → Bool) : P f 0 := fun x => rfl
theorem P.add (a : P f m) (b : P f n) : P f (m + n) := fun x => by rw [← Nat.add_assoc, b, a]
theorem P.mul (a : P f m) : ∀ k : Nat, P f (k * m)
  | 0 => by rw [Nat.zero_mul]; exact P.zero f
  | k + 1 => by rw [Nat.succ_mul]; exact (P.mul a k).add a
theorem P.dvd (a : P f m) (h : m ∣ n) : P f n := by
  obtain ⟨k, rfl⟩ := h
  rw [Nat.mul_comm]
  exact a.mul k
theorem P.sub (a : P f m) (b : P f n) (h : n ≤ m) : P f (m - n) := fun x => by
  have z := b (x + (m - n))
  have e : x + (m - n) + n = x + m := by omega
  rw [e] at z
  rw [← z, a]
theorem P.mod (a : P f m) (b : P f n) : P f (m % n) := by
  have e : m % n = m - n * (m / n) := by
    have := Nat.div_add_mod m n
    omega
  rw [e]
  exact a.sub (b.dvd (Nat.dvd_mul_right _ _)) (Nat.mul_div_le m n)
theorem P.gcd (a : P f m) (b : P f n) : P f (Nat.gcd m n) := by
  induction m, n using Nat.gcd.induction with
  | H0 n => rw [Nat.gcd_zero_left]; exact b
  | H1 m n hm ih => rw [Nat.gcd_rec]; exact ih (b.mod a) a
def Prm (p : Nat) : Prop := 2 ≤ p ∧ ∀ d, d ∣ p → d = 1 ∨ d = p
theorem prm_ex (n : Nat) : 2 ≤ n → ∃ p, Prm p ∧ p ∣ n := by
  induction n using Nat.strongRecOn with
  | ind n ih =>
    intro h
    by_cases hp : Prm n
    · exact ⟨n, hp, Nat.dvd_refl n⟩
    · have : ∃ d, d ∣ n ∧ d ≠ 1 ∧ d ≠ n := by
        apply Classical.byContradiction
        intro no
        apply hp
        refine ⟨h, fun d hd => ?_⟩
        apply Classical.byContradiction
        intro q
        exact no ⟨d, hd, fun z => q (.inl z), fun z => q (.inr z)⟩
      obtain ⟨d, hd, h1, h2⟩ := this
      have pos : 0 < d := Nat.pos_of_dvd_of_pos hd (by omega)
      have le := Nat.le_of_dvd (by omega) hd
      obtain ⟨p, hp, hpd⟩ := ih d (by omega) (by omega)
      exact ⟨p, hp, Nat.dvd_trans hpd hd⟩
/-- a period that no prime makes shorter divides every period -/
theorem least (hn : 0 < n) (h : P f n) (irr : ∀ p, Prm p → p ∣ n → ¬ P f (n / p)) (hm : P f m) : n ∣ m := by
  have hg := hm.gcd h
  obtain ⟨k, hk⟩ := Nat.gcd_dvd_right m n
  by_cases k1 : k = 1
  · rw [k1, Nat.mul_one] at hk
    rw [hk]
    exact Nat.gcd_dvd_left m n
  · have k0 : k ≠ 0 := by
      intro z
      rw [z, Nat.mul_zero] at hk
      omega
    obtain ⟨p, hp, q, hq⟩ := prm_ex k (by omega)
    have pp : 0 < p := by have := hp.1; omega
    have e : n = p * (Nat.gcd m n * q) := by
      rw [hq] at hk
      rw [Nat.mul_left_comm]
      exact hk
    have e2 : n / p = Nat.gcd m n * q := by
      conv => lhs; rw [e]
      exact Nat.mul_div_cancel_left _ pp
    refine absurd ?_ (irr p hp ⟨_, e⟩)
    rw [e2]
    exact hg.dvd (Nat.dvd_mul_right _ _)
def Asc (l : List Nat) : Prop := l.Pairwise (· < ·)
theorem asc_ext : ∀ {l k : List Nat}, Asc l → Asc k → (∀ x, x ∈ l ↔ x ∈ k) → l = k
  | [], [], _, _, _ => rfl
  | [], b :: k, _, _, h => absurd ((h b).mpr (List.mem_cons_self ..)) (by simp)
  | a :: l, [], _, _, h => absurd ((h a).mp (List.mem_cons_self ..)) (by simp)
  | a :: l, b :: k, hl, hk, h => by
    have hl1 := List.pairwise_cons.mp hl
    have hk1 := List.pairwise_cons.mp hk
    have e : a = b := by
      rcases List.mem_cons.mp ((h a).mp (List.mem_cons_self ..)) with z | z
      · exact z
      · rcases List.mem_cons.mp ((h b).mpr (List.mem_cons_self ..)) with y | y
        · exact y.symm
        · have z1 := hk1.1 a z
          have z2 := hl1.1 b y
          omega
    subst e
    rw [asc_ext hl1.2 hk1.2 fun x => ?_]
    constructor
    · intro hx
      rcases List.mem_cons.mp ((h x).mp (List.mem_cons_of_mem _ hx)) with z | z
      · have := hl1.1 x hx
        omega
      · exact z
    · intro hx
      rcases List.mem_cons.mp ((h x).mpr (List.mem_cons_of_mem _ hx)) with z | z
      · have := hk1.1 x hx
        omega
      · exact z
/-- so many copies of a list, each one moved by s from the one ahead -/
def blk (B : List Nat) (s : Nat) : Nat → List Nat
  | 0 => []
  | k + 1 => B ++ (blk B s k).map (· + s)
theorem blk_len {B : List Nat} {s : Nat} : ∀ k : Nat, (blk B s k).length = k * B.length
  | 0 => by simp [blk]
  | k + 1 => by rw [blk, List.length_append, List.length_map, blk_len k, Nat.succ_mul]; omega
theorem mem_blk {B : List Nat} {s x : Nat} (hs : 0 < s) (hB : ∀ b ∈ B, b < s) : ∀ k : Nat, x ∈ blk B s k ↔ x < k * s ∧ x % s ∈ B
  | 0 => by simp [blk]
  | k + 1 => by
    rw [blk, List.mem_append, List.mem_map, Nat.succ_mul]
    constructor
    · rintro (h | ⟨y, hy, rfl⟩)
      · have := hB x h
        exact ⟨by omega, by rw [Nat.mod_eq_of_lt this]; exact h⟩
      · obtain ⟨z1, z2⟩ := (mem_blk hs hB k).mp hy
        exact ⟨by omega, by rw [Nat.add_mod_right]; exact z2⟩
    · rintro ⟨h1, h2⟩
      by_cases q : x < s
      · left
        rw [Nat.mod_eq_of_lt q] at h2
        exact h2
      · right
        refine ⟨x - s, (mem_blk hs hB k).mpr ⟨by omega, ?_⟩, by omega⟩
        have e : x = (x - s) + s := by omega
        rw [e, Nat.add_mod_right] at h2
        exact h2
theorem asc_blk {B : List Nat} {s : Nat} (hs : 0 < s) (hB : ∀ b ∈ B, b < s) (a : Asc B) : ∀ k : Nat, Asc (blk B s k)
  | 0 => List.Pairwise.nil
  | k + 1 => by
    rw [blk]
    refine List.pairwise_append.mpr ⟨a, ?_, ?_⟩
    · rw [List.pairwise_map]
      exact (asc_blk hs hB a k).imp fun h => by omega
    · intro x hx y hy
      obtain ⟨z, _, rfl⟩ := List.mem_map.mp hy
      have := hB x hx
      omega
theorem blk_snoc {B : List Nat} {s : Nat} : ∀ k : Nat, blk B s (k + 1) = blk B s k ++ B.map (· + k * s)
  | 0 => by simp [blk]
  | k + 1 => by
    show B ++ (blk B s (k + 1)).map (· + s) = (B ++ (blk B s k).map (· + s)) ++ B.map (· + (k + 1) * s)
    rw [blk_snoc k, List.map_append, List.map_map, ← List.append_assoc]
    congr 1
    apply List.map_congr_left
    intro x _
    show x + k * s + s = x + (k + 1) * s
    rw [Nat.succ_mul]
    omega
/-- what the program asks of the marks: c of them in each of k parts of s -/
def Rep (M : List Nat) (k s c : Nat) : Prop := c * k = M.length ∧ M.drop c = (M.take (M.length - c)).map (· + s)
theorem rep_blk {M : List Nat} {k s c : Nat} (h : Rep M k s c) : ∀ j, j ≤ k → M.take (j * c) = blk (M.take c) s j
  | 0, _ => by simp [blk]
  | j + 1, hj => by
    have ih := rep_blk h j (by omega)
    obtain ⟨h1, h2⟩ := h
    have le : j * c + c ≤ M.length := by
      have z : (j + 1) * c ≤ k * c := Nat.mul_le_mul_right c hj
      rw [Nat.succ_mul] at z
      rw [← h1, Nat.mul_comm c k]
      exact z
    rw [Nat.succ_mul, Nat.add_comm, List.take_add, blk, h2, ← List.map_take, List.take_take, Nat.min_eq_left (by omega), ih]
theorem rep_all {M : List Nat} {k s c : Nat} (h : Rep M k s c) : M = blk (M.take c) s k := by
  have z := rep_blk h k (Nat.le_refl k)
  rw [Nat.mul_comm, h.1, List.take_length] at z
  exact z
def fn (n : Nat) (M : List Nat) : Nat → Bool := fun x => decide (x % n ∈ M)
theorem fn_mem {n x : Nat} {M : List Nat} : fn n M x = true ↔ x % n ∈ M := by simp [fn]
theorem fn_P {n : Nat} {M : List Nat} : P (fn n M) n := fun x => by simp [fn]
theorem bool_ext {a b : Bool} (h : a = true ↔ b = true) : a = b := by cases a <;> cases b <;> simp_all
section
variable {M : List Nat} {k s c : Nat}
theorem rep_lt (hk : 0 < k) (hM : ∀ x ∈ M, x < k * s) (h : Rep M k s c) : ∀ b ∈ M.take c, b < s := by
  intro b hb
  have e := rep_all h
  have mv : ∀ j, b + j * s ∈ blk (M.take c) s (j + 1) := by
    intro j
    induction j with
    | zero =>
      rw [blk, Nat.zero_mul]
      exact List.mem_append_left _ hb
    | succ j ih =>
      rw [blk]
      refine List.mem_append_right _ (List.mem_map.mpr ⟨b + j * s, ih, ?_⟩)
      rw [Nat.succ_mul]
      omega
  obtain ⟨j, rfl⟩ : ∃ j, k = j + 1 := ⟨k - 1, by omega⟩
  have z := mv j
  rw [← e] at z
  have y := hM _ z
  rw [Nat.succ_mul] at y
  omega
/-- the shorter pattern is the same set -/
theorem rep_fn (hs : 0 < s) (hk : 0 < k) (hM : ∀ x ∈ M, x < k * s) (h : Rep M k s c) : fn s (M.take c) = fn (k * s) M := by
  funext x
  have e := rep_all h
  have hB := rep_lt hk hM h
  apply bool_ext
  rw [fn_mem, fn_mem]
  conv => rhs; rw [e]
  rw [mem_blk hs hB, Nat.mod_mul_left_mod]
  constructor
  · intro z
    exact ⟨Nat.mod_lt _ (Nat.mul_pos hk hs), z⟩
  · exact fun z => z.2
theorem P_rep (hs : 0 < s) (hk : 0 < k) (a : Asc M) (hM : ∀ x ∈ M, x < k * s) (h : P (fn (k * s) M) s) : Rep M k s (M.length / k) := by
  have hB : ∀ b ∈ M.filter (· < s), b < s := fun b hb => by simpa using (List.mem_filter.mp hb).2
  have hsk : s ≤ k * s := Nat.le_mul_of_pos_left s hk
  have low : ∀ x, fn (k * s) M x = fn (k * s) M (x % s) := fun x => by
    have z := h.mul (x / s) (x % s)
    have y : x % s + x / s * s = x := by
      have := Nat.div_add_mod x s
      rw [Nat.mul_comm] at this
      omega
    rw [y] at z
    exact z
  have e : M = blk (M.filter (· < s)) s k := by
    refine asc_ext a (asc_blk hs hB (a.filter _) k) fun x => ?_
    rw [mem_blk hs hB, List.mem_filter]
    constructor
    · intro hx
      have lt := hM x hx
      have f1 : fn (k * s) M x = true := fn_mem.mpr (by rw [Nat.mod_eq_of_lt lt]; exact hx)
      rw [low x] at f1
      have f2 := fn_mem.mp f1
      have l2 : x % s < s := Nat.mod_lt _ hs
      rw [Nat.mod_eq_of_lt (Nat.lt_of_lt_of_le l2 hsk)] at f2
      exact ⟨lt, f2, by simpa using l2⟩
    · rintro ⟨lt, hx, _⟩
      have l2 : x % s < s := Nat.mod_lt _ hs
      have f1 : fn (k * s) M (x % s) = true := fn_mem.mpr (by rw [Nat.mod_eq_of_lt (Nat.lt_of_lt_of_le l2 hsk)]; exact hx)
      rw [← low x] at f1
      have f2 := fn_mem.mp f1
      rw [Nat.mod_eq_of_lt lt] at f2
      exact f2
  have len : M.length = k * (M.filter (· < s)).length := by
    conv => lhs; rw [e]
    exact blk_len k
  have q : M.length / k = (M.filter (· < s)).length := by
    rw [len]
    exact Nat.mul_div_cancel_left _ hk
  rw [q]
  refine ⟨by rw [len, Nat.mul_comm], ?_⟩
  obtain ⟨B, hBd⟩ : ∃ B, B = M.filter (· < s) := ⟨_, rfl⟩
  rw [← hBd] at e len ⊢
  obtain ⟨j, rfl⟩ : ∃ j, k = j + 1 := ⟨k - 1, by omega⟩
  have d1 : M.drop B.length = (blk B s j).map (· + s) := by
    rw [e, blk, List.drop_left]
  have d2 : M.take (M.length - B.length) = blk B s j := by
    have l2 : M.length - B.length = (blk B s j).length := by
      rw [len, blk_len, Nat.succ_mul]
      omega
    rw [l2, e, blk_snoc, List.take_left]
  rw [d1, d2]
end
/-- the pattern is told by its set -/
theorem marks_uniq {n : Nat} {M N : List Nat} (hM : Asc M) (hN : Asc N) (lM : ∀ x ∈ M, x < n) (lN : ∀ x ∈ N, x < n) (h : fn n M = fn n N) : M = N := by
  refine asc_ext hM hN fun x => ?_
  constructor
  · intro hx
    have z : fn n M x = true := fn_mem.mpr (by rw [Nat.mod_eq_of_lt (lM x hx)]; exact hx)
    rw [h] at z
    have y := fn_mem.mp z
    rw [Nat.mod_eq_of_lt (lM x hx)] at y
    exact y
  · intro hx
    have z : fn n N x = true := fn_mem.mpr (by rw [Nat.mod_eq_of_lt (lN x hx)]; exact hx)
    rw [← h] at z
    have y := fn_mem.mp z
    rw [Nat.mod_eq_of_lt (lN x hx)] at y
    exact y
/-- a pattern: a length and ascending remainders by it -/
structure Pat (n : Nat) (M : List Nat) : Prop where
  pos : 0 < n
  asc : Asc M
  lt : ∀ x ∈ M, x < n
/-- the same set by the least period -/
structure Lst (n : Nat) (M : List Nat) (n' : Nat) (M' : List Nat) : Prop where
  pat : Pat n' M'
  eq : fn n' M' = fn n M
  min : ∀ m, 0 < m → P (fn n M) m → n' ≤ m
theorem Lst.uniq {n : Nat} {M : List Nat} {a b : Nat} {A B : List Nat} (h1 : Lst n M a A) (h2 : Lst n M b B) : a = b ∧ A = B := by
  have pa : P (fn n M) a := by rw [← h1.eq]; exact fn_P
  have pb : P (fn n M) b := by rw [← h2.eq]; exact fn_P
  have z1 := h1.min b h2.pat.pos pb
  have z2 := h2.min a h1.pat.pos pa
  have e : a = b := by omega
  subst e
  exact ⟨rfl, marks_uniq h1.pat.asc h2.pat.asc h1.pat.lt h2.pat.lt (h1.eq.trans h2.eq.symm)⟩
/-- what no prime makes shorter is told by the least period -/
theorem Lst.of_irr {n : Nat} {M : List Nat} {a : Nat} {A : List Nat} (p : Pat a A) (e : fn a A = fn n M) (irr : ∀ q, Prm q → q ∣ a → ¬ P (fn a A) (a / q)) : Lst n M a A :=
  ⟨p, e, fun m hm h => Nat.le_of_dvd hm (least p.pos fn_P irr (by rw [e]; exact h))⟩
/-- one step of making it shorter -/
theorem Pat.step {n k c : Nat} {M : List Nat} (p : Pat n M) (hk : 0 < k) (d : k ∣ n) (h : Rep M k (n / k) c) : Pat (n / k) (M.take c) ∧ fn (n / k) (M.take c) = fn n M := by
  have e : k * (n / k) = n := Nat.mul_div_cancel' d
  have hs : 0 < n / k := Nat.div_pos (Nat.le_of_dvd p.pos d) hk
  have lt : ∀ x ∈ M, x < k * (n / k) := fun x hx => by rw [e]; exact p.lt x hx
  refine ⟨⟨hs, p.asc.sublist (List.take_sublist ..), rep_lt hk lt h⟩, ?_⟩
  have z := rep_fn hs hk lt h
  rw [e] at z
  exact z
theorem Pat.stop {n k : Nat} {M : List Nat} (p : Pat n M) (hk : 0 < k) (d : k ∣ n) (h : ¬ Rep M k (n / k) (M.length / k)) : ¬ P (fn n M) (n / k) := fun q => by
  have e : k * (n / k) = n := Nat.mul_div_cancel' d
  have hs : 0 < n / k := Nat.div_pos (Nat.le_of_dvd p.pos d) hk
  refine h (P_rep hs hk p.asc (fun x hx => by rw [e]; exact p.lt x hx) ?_)
  rw [e]
  exact q
end Per
set_option Elab.async false
set_option linter.all false
set_option maxRecDepth 100000
set_option maxHeartbeats 4000000
namespace Vd
open PySem L2
open PySem.Spec PyProof.Rows
section
variable {X : Cx} {B : Hp} {env : List (Option D)} {ow : Ow} {e : Expr} {d1 d2 d : D} {pos : Pos} {Dn : Ends} {rest : List Stmt}
theorem pg_two {x y : Str} {p1 p2 tp : Pos} {kk i j : Nat} (hc : X.calm = true) (hN : X.N.Nodup) (hi : X.N[i]? = some x) (hj : X.N[j]? = some y) (hx : Loc X.env.scope x) (hy : Loc X.env.scope y)
    (fx : X.fn x = true ∨ X.env.scope.names.lookup x = some .local := by first | exact .inl rfl | exact .inr rfl) (fy : X.fn y = true ∨ X.env.scope.names.lookup y = some .local := by first | exact .inl rfl | exact .inr rfl) :
    PG X (.Tuple [.Name x p1, .Name y p2] kk tp) (gTup X.K 2 (gCons (gName i) (gCons (gName j) gNil))) := pg_tup hc (pgs_cons (pg_name hN hi hx (hf := fx)) (pgs_cons (pg_name hN hj hy (hf := fy)) pgs_nil))
/-- a, b = e -/
theorem rn_two {x y : Str} {p1 p2 tp : Pos} {kk : Nat} (i j : Nat) (hc : X.calm = true) (hN : X.N.Nodup) (hi : X.N[i]? = some x) (hj : X.N[j]? = some y) (hx : Loc X.env.scope x) (hy : Loc X.env.scope y) (h : Ve X e env ow (.tup [d1, d2])) (k : ∀ B', Ex B B' → Rn X B' rest Dn ((env.set i (some d1)).set j (some d2)) ow)
    (fx : X.fn x = true ∨ X.env.scope.names.lookup x = some .local := by first | exact .inl rfl | exact .inr rfl) (fy : X.fn y = true ∨ X.env.scope.names.lookup y = some .local := by first | exact .inl rfl | exact .inr rfl)
    (hs : swapsWithSole [.Tuple [.Name x p1, .Name y p2] kk tp] e pos.line X.env = pure false := by rfl) (hw : swappedStores [.Tuple [.Name x p1, .Name y p2] kk tp] e X.env = pure none := by rfl)
    (h1 : (assignEach [.Tuple [.Name x p1, .Name y p2] kk tp] X.env).map (·.2) = [assign (.Tuple [.Name x p1, .Name y p2] kk tp) X.env] := by rfl) : Rn X B (.Assign [.Tuple [.Name x p1, .Name y p2] kk tp] e pos :: rest) Dn env ow :=
  rn_asg (pg_two hc hN hi hj hx hy fx fy) h (gd_two i j) k hs hw h1
end
end Vd
set_option Elab.async false
set_option linter.all false
set_option maxRecDepth 100000
set_option maxHeartbeats 4000000
namespace Vd
open PySem L2
open PySem.Spec PyProof.Rows
section
variable {X : Cx} {env : List (Option D)} {ow : Ow} {e : Expr} {d : D} {pos : Pos} {C q : Addr} {fl : List (Str × D)} {f : Str}
/-- o.f of an owned object -/
theorem ve_atO (c : Cls X.K C) (n : NoAttr X.K C f) (h : Ve X e env ow (.ob (.ref q))) (hq : ow q = some (.ins C fl)) (hl : fl.lookup f = some d) (hb : attributeBase e f X.env (eval e X.env) = eval e X.env := by rfl) : Ve X (.Attribute e f pos) env ow d := .mk fun σ F H Q s w k0 => wpe (pe_fld pe_can hb) (h σ F H _ s w fun F1 H1 v e1 w1 r1 => by
  cases r1
  obtain ⟨_, dx, fs, g1, r2⟩ := w1.own q _ hq
  obtain ⟨y, hy, ry⟩ := r2.look hl
  exact ⟨_, _, _, _, y, rfl, g1, c, n, hy, (k0.ex e1).here w1 ry⟩)
end
section
variable {γ : Gds} {P : Program} {w : World} {K : PySem.W.Frag} {mg : Str → Option Value} {base : Heap} {k n : Nat} {f C : Addr} {fd : FuncData} {x qual : Str} {st : Stmt} {N ps ks : List Str} {dvs : List V} {kws : List (Str × V)}
/-- a def with defaults, by its body -/
theorem fnG_ofD {CX : CXT} {sp : Sp} (Fn : FunD K x qual (defArgs st) (defBody st) (defScope st) dvs kws f fd) (S : FnScope N ps (defScope st)) (len : ∀ vs H Q E, sp vs H Q E → vs.length = ps.length)
    (hbody : ∀ (cdv : Value) (A : Around) (outer : List Env) (s : Shared) (H : Hp) (vs : List V) (Q : VK) (E : XK), γ A.guards → Room k (A.deeper (envOfC qual (defScope st) s.heap.objs.size f cdv)) → sp vs H Q E →
      ∃ t, PSs (cxOf CX P w K mg base N qual (defScope st) f cdv A outer s H E) (defBody st) t ∧ t { nx := fun _ H' => Q .non H', rt := Q } (start N vs) H) : FnG γ P w K mg base CX (k + 1) f fd ps sp := by
  obtain ⟨oc, od, dV, kV, doc, pm, an, cdv, ct, osl, rfl, lk, hcd, _, _⟩ := Fn.ex
  refine ⟨len, fun A outer s H args us vs Q E hgd hr e0 hb r hsp => ?_⟩
  have inK : K.In s.heap := e0.mod.kin.keeps fun b o e => (e0.bs b o e).1
  have kinds : ∀ y ∈ ps.zip us, (defScope st).names.lookup y.1 = some .local ∨ ((defScope st).names.lookup y.1 = some .cell ∧ ((cellsFrom (s.heap.objs.size + 1) (defScope st).names []).lookup y.1).isSome = true) := fun ⟨nm, v⟩ hy => by
    rcases S.par nm (List.of_mem_zip hy).1 with q | q
    · exact .inl q
    · exact .inr ⟨q, PySem.W.cellsFrom_some _ _ _ (.inl q)⟩
  refine codeAny_call_function hr.depth (inK _ _ lk) rfl S.co S.gen rfl (PySem.W.codeRec_of inK hcd) (hb _ _ _ _ ?_)
  refine wpAny_newFunctionEnv_cells S.kind kinds fun env he s1 z => ?_
  subst he
  refine ⟨(e0.mod.nolimit.keeps fun b o e => (e0.bs b o e).1).keeps z.toInCall.keep, codeAny_func ?_⟩
  obtain ⟨t, ht, hq⟩ := hbody cdv A outer s H vs Q E hgd (hr.deeper _) hsp
  refine wpAny_mono (ht.run [] s1 (start N vs) H _ (inv_start S hr.hd e0 (len _ _ _ _ hsp) r z) hq) (fun fl s' hs => ?_) fun e s' hs => hs
  match fl, hs with
  | .ret u, ⟨v, σ', H', J, rv, q⟩ => exact ⟨v, H', J.os, J.bare, J.base, J.hok, rv, q⟩
  | .next, ⟨σ', H', J, q⟩ => exact ⟨.non, H', J.os, J.bare, J.base, J.hok, rfl, q⟩
  | .brk, ⟨_, _, _, q⟩ => exact q.elim
  | .cont, ⟨_, _, _, q⟩ => exact q.elim
/-- the promise of an __init__: the object, owned and bare, then data -/
def spIn (K : PySem.W.Frag) (C : Addr) (R : List D → List (Str × D) → Prop) : Sp := fun vs H Q _ => ∃ x ws F ow ds fl, vs = .ref x :: ws ∧ Wo K (ou ow x (.ins C [])) F H ∧ Rps K F ws ds ∧ R ds fl ∧ ∀ F2 H2, Ex F F2 → Wo K (ou ow x (.ins C fl)) F2 H2 → Q .non H2
theorem okIn {R : List D → List (Str × D) → Prop} (Fn : FunD K x qual (defArgs st) (defBody st) (defScope st) dvs kws f fd) (S : FnScope N ps (defScope st)) (len : ∀ ds fl, R ds fl → ds.length + 1 = ps.length)
    (body : ∀ (cdv : Value) (A : Around) (outer : List Env) (s : Shared) (H B : Hp) (ow : Ow) (x : Addr) (ds : List D) (fl : List (Str × D)) (Q : VK) (E : XK), γ A.guards → Room k (A.deeper (envOfC qual (defScope st) s.heap.objs.size f cdv)) → R ds fl → (∀ F2 H2, Ex B F2 → Wo K (ou ow x (.ins C fl)) F2 H2 → Q .non H2) →
      Rn (cxOf CX0 P w K mg base N qual (defScope st) f cdv A outer s H E).nox B (defBody st) { nx := fun _ H' => Q .non H', rt := Q } (env0 N (.ob (.ref x) :: ds)) (ou ow x (.ins C []))) : FnG γ P w K mg base CX0 (k + 1) f fd ps (spIn K C R) :=
  fnG_ofD Fn S (fun vs H Q E ⟨x, ws, F, ow, ds, fl, e, _, r, hR, _⟩ => by rw [e, List.length_cons, r.length]; exact len ds fl hR) fun cdv A outer s H vs Q E hgd hr ⟨x, ws, F, ow, ds, fl, e, wo, r, hR, kQ⟩ => by
    subst e
    exact ⟨_, pss_can.nox, (body cdv A outer s H F ow x ds fl Q E hgd hr hR kQ) (start N _) F H (Evl.Ex.refl F) (Sl.start (.cons (.ob _) r)) wo⟩
/-- the same as a promise by position and by keyword: the defaults dvs fill up -/
theorem inS_of {R : List D → List (Str × D) → Prop} {T : Addr} {oT : Obj} {its : List Value} {nT : Nat} {dd : List D} (F : FnG γ P w K mg base CX0 k f fd ps (spIn K C R)) (g : {α : Type} → List α → List α → List α → List α)
    (lT : K.lookup T = some oT) (dT : oT.data = .seq its.toArray nT) (rT : Vals dvs its) (rD : ∀ F, Rps K F dvs dd)
    (gr : ∀ {vs ds zs : List V} {us ts ws : List Value}, Vals vs us → Vals ds ts → Vals zs ws → Vals (g vs ds zs) (g us ts ws)) (gd : ∀ {F : Hp} {vs ds zs : List V} {us ts ws : List D}, Rps K F vs us → Rps K F ds ts → Rps K F zs ws → Rps K F (g vs ds zs) (g us ts ws))
    (hb : ∀ (x : Value) (us ws : List Value), us.length = n → ws.length = ks.length → ∃ kk, bindArgs fd ⟨x :: us, ks.zip ws⟩ = seqItems? (.ref T) >>= kk ∧ kk (some its.toArray) = pure (ps.zip (x :: g us its ws))) :
    InS γ P w K mg base k f ks (spI K C fun ds kd fl => ds.length = n ∧ R (g ds dd kd) fl) := by
  intro A outer s H us ws vs zs x Q hgd hr e0 r rz hl hsp
  obtain ⟨F1, ow, ds, kd, fl, wo, rds, rkd, ⟨hn, hR⟩, _, kQ⟩ := hsp
  have KX : K.In s.heap := e0.mod.kin.keeps fun b o e => (e0.bs b o e).1
  have l1 : us.length = n := by rw [← r.length, rds.length, hn]
  have l2 : ws.length = ks.length := by rw [← rz.length]; exact hl
  obtain ⟨kk, e1, e2⟩ := hb (.ref x) us ws l1 l2
  exact F.run A outer s H ⟨.ref x :: us, ks.zip ws⟩ (.ref x :: g us its ws) (.ref x :: g vs dvs zs) Q E0 hgd hr e0 (BindsTo.of_looks fun M => by rw [e1]; exact looks_items KX lT dT (.of_pure e2)) (.cons rfl (gr r rT rz)) ⟨x, _, F1, ow, _, fl, rfl, wo, gd rds (rD F1) rkd, hR, kQ⟩
end
end Vd
set_option Elab.async false
set_option linter.all false
set_option maxRecDepth 100000
set_option maxHeartbeats 4000000
namespace Vd
open PySem L2
open PySem.Spec PyProof.Rows
def Pf (γ : Gds) (P : Program) (w : World) (K : PySem.W.Frag) (mg : Str → Option Value) (base : Heap) (C : Addr) (k : Nat) (x : Str) (R : List D → D → Prop) : Prop := ∃ p g fd, PropOf K C x p g ∧ FnG γ P w K mg base CX0 k g fd ["self"] (spR K R) ∧ Binds K fd ["self"] []
section
variable {γ : Gds} {X : Cx} {env : List (Option D)} {ow : Ow} {e o : Expr} {es : List Expr} {d : D} {ds : List D} {pos apos : Pos} {k : Nat} {x : Str} {ps : List Str} {R : List D → D → Prop} {C : Addr} {fl : List (Str × D)}
theorem ve_P (c : Cls X.K C) (h : Pf γ X.prog X.w X.K X.mg X.base C k x R) (hgd : γ X.A.guards) (hr : Room (k + 1) X.A) (he : Ve X e env ow (.ins C fl)) (hR : R [.ins C fl] d) (hab : attributeBase e x X.env (eval e X.env) = eval e X.env := by rfl) : Ve X (.Attribute e x pos) env ow d := by
  obtain ⟨p, g, fd, hp, F, hb⟩ := h
  exact ve_prop c hp F hgd hr hb he hR hab
end
end Vd
set_option Elab.async false
set_option linter.all false
set_option maxRecDepth 100000
set_option maxHeartbeats 4000000
namespace Vd
open PySem L2
open PySem.Spec PyProof.Rows
section
variable {X : Cx} {env : List (Option D)} {ow : Ow} {it elt e o f0 : Expr} {ds : List D} {d d0 : D} {pos : Pos} {ifs : List Expr}
theorem ve_lcP {scope : Scope} {j j1 : Nat} {y z : Str} {py pz : Pos} {tk : Nat} {tp : Pos} (kp : D → Bool) (f : D → D) (hc : X.calm = true) (hN : X.N.Nodup)
    (hi : Vi X (.Tuple [.Name y py, .Name z pz] tk tp) it env ow ds) (ok : BlkOk X.N X.env.scope scope [(y, j), (z, j1)]) (hl : ds.length ≤ 100000) (hjj : j ≠ j1) (hp : ∀ d ∈ ds, ∃ d1 d2, d = D.tup [d1, d2])
    (hg : ∀ (s : Shared) (H : Hp) (C : Addr) (cl : List (Str × Addr)) (fp : List Addr), PG (X.blk s H scope (compEnvC scope cl C X.env) fp) (.Tuple [.Name y py, .Name z pz] tk tp) (gTup X.K 2 (gCons (gName j) (gCons (gName j1) gNil))))
    (ht : ∀ d ow', d ∈ ds → Sub ow ow' → ∀ (s : Shared) (H : Hp) (C : Addr) (cl : List (Str × Addr)) (fp : List Addr), Vts (X.blk s H scope (compEnvC scope cl C X.env) fp) ifs (pairE env j j1 d) ow' (kp d))
    (he : ∀ d ow', d ∈ ds → kp d = true → Sub ow ow' → ∀ (s : Shared) (H : Hp) (C : Addr) (cl : List (Str × Addr)) (fp : List Addr), Ve (X.blk s H scope (compEnvC scope cl C X.env) fp) elt (pairE env j j1 d) ow' (f d))
    (hsf : ∀ x, foldedSetIterable it X.env x = pure x := by intro _; rfl) : Ve X (.ListComp elt [⟨.Tuple [.Name y py, .Name z pz] tk tp, it, ifs, 0⟩] scope pos) env ow (.lst ((ds.filter kp).map f)) := .mk fun σ F H Q s w k0 => by
  obtain ⟨wi, pi, hw⟩ := hi
  exact wpe (pe_lc (own := [(y, j), (z, j1)]) (g := gTup X.K 2 (gCons (gName j) (gCons (gName j1) gNil))) (tt := ltts X scope ifs) (te := lte X scope elt) hc hN pi ok hg (fun s0 H0 C cl fp => ⟨fun pins s σ H Q I h => h s0 H0 C cl fp pins s I⟩) (fun s0 H0 C cl fp => ⟨fun pins s σ H Q I h => h s0 H0 C cl fp pins s I⟩) hsf)
    (lcP_read kp f hw hl hjj hp ht he σ F H Q s w k0)
/-- a pair, wherever it stands -/
def pT (p : Int × Int) : D := .tup [.int p.1, .int p.2]
theorem Rp.pT {K : PySem.W.Frag} {F : Hp} {v : V} {p : Int × Int} (r : Rp K F v (pF p)) : Rp K F v (Vd.pT p) := by
  cases r with
  | tupF h r2 => exact .tup (SqT.of h) r2
theorem Rps.pT {K : PySem.W.Frag} {F : Hp} : ∀ {vs : List V} {l : List (Int × Int)}, Rps K F vs (l.map pF) → Rps K F vs (l.map Vd.pT)
  | _, [], .nil => .nil
  | _, _ :: _, .cons h r => .cons h.pT (Rps.pT r)
theorem ve_pT {l : List (Int × Int)} (h : Ve X e env ow (.tup (l.map pF))) : Ve X e env ow (.tup (l.map pT)) := .mk fun σ F H Q s w k0 => h σ F H Q s w fun F2 H2 v e2 w2 r2 => by
  cases r2 with
  | tup g r => exact k0 F2 H2 _ e2 w2 (.tup g r.pT)
theorem ve_getT2 {m : List (List Key × D)} {k : List Key} {apos cpos : Pos} (hu : X.A.units + 1 < cLine) (ho : Ve X o env ow (.dtp m)) (hi : Ve X e env ow (.tupF (k.map kD))) (hf : Ve X f0 env ow d0) (mm : M2 X o "get" apos e f0 cpos := by exact ⟨rfl, rfl, rfl, rfl⟩) : Ve X (.Call (.Attribute o "get" apos) [e, f0] [] cpos) env ow ((valT m k).getD d0) := .mk fun σ F H Q s w k0 =>
  wpe (pe_dget2 hu pe_can pe_can pe_can mm) (ho σ F H _ s w fun F1 H1 x e1 w1 r1 => by
    cases r1 with
    | @dtp a oo kvs _ g r =>
      refine ⟨a, rfl, .inr ⟨_, .inr ⟨oo, w1.ex _ _ g⟩⟩, hi σ F1 H1 _ (s.mono e1) w1 fun F2 H2 y e2 w2 r2 => hf σ F2 H2 _ (s.mono (e1.trans e2)) w2 fun F3 H3 v3 e3 w3 r3 => ?_⟩
      have r4 := r2.mono e3
      cases r4 with
      | tupF g2 rk =>
        have z := rk.keys
        subst z
        have rm := r.mono (e2.trans e3)
        refine ⟨_, .inr ⟨kvs, k, _, .inr ⟨oo, w3.ex _ _ ((e2.trans e3) _ _ g)⟩, rfl, w3.ex _ _ g2, rfl⟩, ?_⟩
        cases hv : valT m k with
        | none =>
          rw [hv] at k0
          rw [(rm.val (k := k)).2 hv]
          exact k0 F3 H3 _ (e1.trans (e2.trans e3)) w3 r3
        | some d =>
          rw [hv] at k0
          obtain ⟨v, hv2, rv⟩ := (rm.val (k := k)).1 d hv
          rw [hv2]
          exact k0 F3 H3 _ (e1.trans (e2.trans e3)) w3 rv)
end
end Vd
set_option Elab.async false
set_option linter.all false
set_option maxRecDepth 100000
set_option maxHeartbeats 4000000
namespace Vd
open PySem L2
open PySem.Spec PyProof.Rows
section
variable {γ : Gds} {X : Cx} {B : Hp} {env : List (Option D)} {ow : Ow} {a b c e o i : Expr} {es : List Expr} {d d1 d2 : D} {ds : List D} {pos : Pos} {rest : List Stmt} {Dn : Ends} {P P' : D → Ow → Prop}
theorem vm_one {op : BoolOp} (h : Vm X a env ow P) : Vm X (.BoolOp op [a] pos) env ow P := .mk fun σ F H Q s w k => wpe (pe_one pe_can) (h σ F H Q s w k)
theorem vm_or {t : Bool} (h : Ve X a env ow (.bl t)) (h1 : t = true → P (.bl true) ow) (h2 : t = false → Vm X (.BoolOp .Or (b :: es) pos) env ow P) : Vm X (.BoolOp .Or (a :: b :: es) pos) env ow P := .mk fun σ F H Q s w k =>
  wpe (pe_or pe_can pe_can) (h σ F H _ s w fun F1 H1 x e1 w1 r1 => by
    cases r1
    refine ⟨t, rfl, ?_⟩
    cases t with
    | false =>
      rw [if_neg Bool.false_ne_true]
      exact h2 rfl σ F1 H1 Q (s.mono e1) w1 fun F2 H2 v d ow2 e2 => k F2 H2 v d ow2 (e1.trans e2)
    | true =>
      rw [if_pos rfl]
      exact k F1 H1 _ _ _ e1 w1 (.bl true) (h1 rfl))
theorem vm_and {t : Bool} (h : Ve X a env ow (.bl t)) (h1 : t = false → P (.bl false) ow) (h2 : t = true → Vm X (.BoolOp .And (b :: es) pos) env ow P) : Vm X (.BoolOp .And (a :: b :: es) pos) env ow P := .mk fun σ F H Q s w k =>
  wpe (pe_and pe_can pe_can) (h σ F H _ s w fun F1 H1 x e1 w1 r1 => by
    cases r1
    refine ⟨t, rfl, ?_⟩
    cases t with
    | true =>
      rw [if_pos rfl]
      exact h2 rfl σ F1 H1 Q (s.mono e1) w1 fun F2 H2 v d ow2 e2 => k F2 H2 v d ow2 (e1.trans e2)
    | false =>
      rw [if_neg Bool.false_ne_true]
      exact k F1 H1 _ _ _ e1 w1 (.bl false) (h1 rfl))
theorem vm_if {t : Bool} (hc : Vt X c env ow t) (h1 : t = true → Vm X a env ow P) (h2 : t = false → Vm X b env ow P) : Vm X (.IfExp c a b pos) env ow P := .mk fun σ F H Q s w k =>
  wpe (pe_ifExp pt_can pe_can pe_can) (hc σ F H _ s w fun F1 H1 e1 w1 => by
    cases t with
    | true =>
      show (if true = true then WpE X a σ H1 Q else WpE X b σ H1 Q)
      rw [if_pos rfl]
      exact h1 rfl σ F1 H1 Q (s.mono e1) w1 fun F2 H2 v d ow2 e2 => k F2 H2 v d ow2 (e1.trans e2)
    | false =>
      show (if false = true then WpE X a σ H1 Q else WpE X b σ H1 Q)
      rw [if_neg Bool.false_ne_true]
      exact h2 rfl σ F1 H1 Q (s.mono e1) w1 fun F2 H2 v d ow2 e2 => k F2 H2 v d ow2 (e1.trans e2))
/-- a drawn number == a number -/
theorem vm_eqI (ha : Vm X a env ow P) (h : ∀ d1 ow2, P d1 ow2 → ∃ i j : Int, d1 = .int i ∧ Ve X b env ow2 (.int j) ∧ P' (.bl (decide (i = j))) ow2) : Vm X (.Compare a [.Eq] [b] pos) env ow P' := .mk fun σ F H Q s w k0 =>
  wpe (pe_cmpR op_eq pe_can pe_can (nomark _)) (ha σ F H _ s w fun F1 H1 x d1 ow2 e1 w1 r1 hp => by
    obtain ⟨i, j, rfl, hb, hp'⟩ := h d1 ow2 hp
    exact hb σ F1 H1 _ (s.mono e1) w1 fun F2 H2 y e2 w2 r2 => rd_eqI F2 H2 x y Q w2 (r1.mono e2) r2 fun F3 H3 v e3 w3 r3 => k0 F3 H3 v _ ow2 ((e1.trans e2).trans e3) w3 r3 hp')
/-- str(a drawn number) -/
theorem vm_strI {x : Str} {p : Pos} (h : Vm X e env ow P) (hg : Gl X x) (hm : X.mg x = none) (hv : bootBuiltins x = some (.type "str")) (hP : ∀ d ow2, P d ow2 → ∃ i : Int, d = .int i ∧ i.natAbs.log2 < 1920 ∧ P' (.str (toString i)) ow2) (hn : x ≠ "__name__" := by decide) (hdb : (x == ("__debug__" : Str)) = false := by decide)
    (he : starEach [e] X.env = (false, eval e X.env) :: starEach [] X.env := by rfl) (hpl : (backTo pos (starEach [] X.env)).any (·.1) = false := by rfl) : Vm X (.Call (.Name x p) [e] [] pos) env ow P' := .mk fun σ F H Q s w k0 =>
  wpe (pe_callTy call_str_int hg hm hv (pa_cons pe_can pa_nil he) hn hdb he hpl) (h σ F H _ s w fun F1 H1 v d ow2 e1 w1 r1 hp => by
    obtain ⟨i, rfl, hl, hp'⟩ := hP d ow2 hp
    cases r1
    exact ⟨i, rfl, hl, k0 F1 H1 _ _ ow2 e1 w1 (.str _) hp'⟩)
/-- o.append(e), e what draws -/
theorem rn_appV {l0 : List D} {q : Addr} {ap cp : Pos} (ho : Ve X o env ow (.ob (.ref q))) (hq : ow q = some (.lst l0)) (he : Vm X e env ow P) (h : ∀ d ow2, P d ow2 → ∃ l, ow2 q = some (.lst l) ∧ l.length < 100000 ∧ ∀ B', Ex B B' → Rn X B' rest Dn env (ou ow2 q (.lst (l ++ [d]))))
    (hbase : attributeBase o "append" X.env (eval o X.env) = eval o X.env := by rfl)
    (hfew : ((backTo cp (starEach [e] X.env)).all (fun x => !x.1) && (backToKw cp (keywordEach [] X.env)).all (fun x => x.1.isSome) && decide ([e].length + ([] : List Keyword).length + (if ([] : List Keyword).isEmpty then 0 else 1) < 30)) = true := by rfl)
    (hline : (ap.endLine == cp.line) = true := by rfl) (hst : starEach [e] X.env = (false, eval e X.env) :: starEach [] X.env := by rfl) (hpl : (backTo cp (starEach [] X.env)).any (·.1) = false := by rfl) (hs : swapsWith (.Call (.Attribute o "append" ap) [e] [] cp) none pos.line X.env = pure false := by rfl) :
    Rn X B (.Expr (.Call (.Attribute o "append" ap) [e] [] cp) pos :: rest) Dn env ow := rn_one ⟨_, ps_expr (pe_bm PySem.F.plainAttrs_list PySem.F.slot_list_append PySem.F.type_list_append mt_append pe_can (pa_cons pe_can pa_nil hst) hbase hfew hline hst hpl) hs, fun σ F H eB s w => ho σ F H _ s w fun F1 H1 v e1 w1 r1 => by
  cases r1
  obtain ⟨_, xs0, g0, _⟩ := w1.own q _ hq
  refine ⟨.inl ⟨rfl, _, SqL.of g0⟩, he σ F1 H1 _ (s.mono e1) w1 fun F2 H2 y d ow2 e2 w2 r2 hp => ?_⟩
  obtain ⟨l, hq2, hl, go⟩ := h d ow2 hp
  obtain ⟨_, xs, g, sx⟩ := w2.own q _ hq2
  exact ⟨q, xs, y, rfl, rfl, g, Evl.sz_lt (by rw [sx.length]; exact hl), go F2 (eB.trans (e1.trans e2)) σ F2 _ (Evl.Ex.refl F2) (s.mono (e1.trans e2)) (w2.setL hq2 (sx.append (.cons r2 .nil)))⟩⟩
/-- o[i] = e, both drawn -/
theorem rn_setiM {P2 : D → D → Ow → Prop} {q : Addr} {sp : Pos} (h : Vm X e env ow P) (ho : ∀ ow2, Ve X o env ow2 (.ob (.ref q))) (hi : ∀ d ow2, P d ow2 → Vm X i env ow2 (P2 d)) (k : ∀ d di ow3, P2 d di ow3 → ∃ n l j, di = .int n ∧ ow3 q = some (.lst l) ∧ ixN l.length n = some j ∧ ∀ B', Ex B B' → Rn X B' rest Dn env (ou ow3 q (.lst (l.set j d))))
    (hg : PG X (.Subscript o i sp) (gSub (WpE X o) (WpE X i) rSetL))
    (hs : swapsWithSole [.Subscript o i sp] e pos.line X.env = pure false := by rfl) (hw : swappedStores [.Subscript o i sp] e X.env = pure none := by rfl) (h1 : (assignEach [.Subscript o i sp] X.env).map (·.2) = [assign (.Subscript o i sp) X.env] := by rfl) :
    Rn X B (.Assign [.Subscript o i sp] e pos :: rest) Dn env ow := rn_one ⟨_, ps_asg pe_can hg hs hw h1, fun σ F H eB s w => h σ F H _ s w fun F1 H1 v d ow2 e1 w1 r1 hp => ho ow2 σ F1 H1 _ (s.mono e1) w1 fun F2 H2 ov e2 w2 r2 => hi d ow2 hp σ F2 H2 _ (s.mono (e1.trans e2)) w2 fun F3 H3 iv di ow3 e3 w3 r3 hp3 => by
  obtain ⟨n, l, j, rfl, hq, hj, go⟩ := k d di ow3 hp3
  cases r2
  cases r3
  obtain ⟨_, xs, g, sx⟩ := w3.own q _ hq
  exact ⟨q, xs, n, j, rfl, rfl, g, by rw [sx.length]; exact hj, go F3 (eB.trans (e1.trans (e2.trans e3))) σ F3 _ (Evl.Ex.refl F3) (s.mono (e1.trans (e2.trans e3))) (w3.setL hq (sx.set (r1.mono (e2.trans e3)) j))⟩⟩
end
section
variable {γ : Gds} {X : Cx} {env : List (Option D)} {ow : Ow} {e o : Expr} {es : List Expr} {d d1 : D} {ds : List D} {pos apos kpos : Pos} {C g : Addr} {fl : List (Str × D)} {m kn : Str} {fd : FuncData} {ps : List Str} {k : Nat} {R : List D → D → Prop}
/-- o.m(k = e) -/
theorem pe_methK {sp : Sp} {te : TE} {tk : TA} {pl : Sem Bool} (he : PE X o te) (c : Cls X.K C) (hm : Meth X.K C m g) (F : FnG γ X.prog X.w X.K X.mg X.base CX0 k g fd ps sp) (hgd : γ X.A.guards) (hr : Room k X.A) (hb : ∀ (s : Shared) (x : Addr) (u : Value), X.K.In s.heap → BindsTo s fd ⟨[.ref x], [(kn, u)]⟩ (ps.zip [.ref x, u])) (hk : PK X [⟨some kn, e, kpos⟩] tk)
    (hall : (backToKw pos (keywordEach [⟨some kn, e, kpos⟩] X.env)).all (·.1.isSome) = true := by rfl) (hks : (backToKw pos (keywordEach [⟨some kn, e, kpos⟩] X.env)).filterMap (·.1) = [kn] := by rfl)
    (hpl : ((backTo pos (starEach [] X.env)).any (·.1) || (backToKw pos (keywordEach [⟨some kn, e, kpos⟩] X.env)).any (·.1.isNone)) = false := by rfl)
    (ht : eval (.Call (.Attribute o m apos) [] [⟨some kn, e, kpos⟩] pos) X.env = (do let ov ← eval o X.env; standAt apos.atName; let (fn, first) ← holding [ov] (getMethod ov m pl); callWith pos fn first (backTo pos (starEach [] X.env)) (backToKw pos (keywordEach [⟨some kn, e, kpos⟩] X.env))) := by rfl) :
    PE X (.Call (.Attribute o m apos) [] [⟨some kn, e, kpos⟩] pos) (fun σ H Q => te σ H fun x H1 => ∃ a dx fs, x = .ref a ∧ H1 a = some (.ins C dx fs) ∧ fs.lookup m = none ∧ tk σ H1 fun vs H2 => vs.length = 1 ∧ sp (x :: vs) H2 Q E0) := by
  refine ⟨fun pins s σ H Q I h => PySem.W.methodCall_KW (pl := pl) (thn (he.run pins s σ H _ I h) fun u s1 ⟨x, H1, I1, rx, a, dx, fs, ex, ea, l, q⟩ => ?_) ht⟩
  subst ex
  obtain rfl : u = Value.ref a := rx
  refine getmeth_ok I1 ea c hm l (PySem.W.callWith_KW0 (first := [.ref a]) (h₀ := X.base) I.ok.mod.kin hm.kp hall (thn (hk.run pos pins s1 σ H1 _ I1 q) fun us s2 ⟨vs, H2, I2, r, hv, q2⟩ => ⟨I2.kIn, ?_⟩) hpl)
  rw [hks]
  obtain ⟨v, rfl⟩ : ∃ v, vs = [v] := by
    match vs, hv with
    | [v], _ => exact ⟨v, rfl⟩
  obtain ⟨u, rfl, r1⟩ := vals1 r
  refine wpAny_call (codeAny_mono (F.run X.A X.stack s2 H2 ⟨[.ref a], [(kn, u)]⟩ [.ref a, u] [.ref a, v] Q E0 hgd hr I2.env0 (hb s2 a u I2.kIn) (.cons rfl (.cons r1 .nil)) q2) fun r s' hq => ?_)
  match r, hq with
  | .error e, hq => exact pass0 pins σ H2 s2 e s' I2 hq
  | .ok (.ret u), hq => exact I2.after hq
theorem ve_methK {pl : Sem Bool} (c : Cls X.K C) (hm : Meth X.K C m g) (F : FnG γ X.prog X.w X.K X.mg X.base CX0 k g fd ps (spR X.K R)) (hgd : γ X.A.guards) (hr : Room k X.A) (hb : ∀ (s : Shared) (x : Addr) (u : Value), X.K.In s.heap → BindsTo s fd ⟨[.ref x], [(kn, u)]⟩ (ps.zip [.ref x, u])) (ho : Ve X o env ow (.ins C fl)) (hn : fl.lookup m = none) (hk : Vk X [⟨some kn, e, kpos⟩] env ow [d1]) (hR : R [.ins C fl, d1] d)
    (hall : (backToKw pos (keywordEach [⟨some kn, e, kpos⟩] X.env)).all (·.1.isSome) = true := by rfl) (hks : (backToKw pos (keywordEach [⟨some kn, e, kpos⟩] X.env)).filterMap (·.1) = [kn] := by rfl)
    (hpl : ((backTo pos (starEach [] X.env)).any (·.1) || (backToKw pos (keywordEach [⟨some kn, e, kpos⟩] X.env)).any (·.1.isNone)) = false := by rfl)
    (ht : eval (.Call (.Attribute o m apos) [] [⟨some kn, e, kpos⟩] pos) X.env = (do let ov ← eval o X.env; standAt apos.atName; let (fn, first) ← holding [ov] (getMethod ov m pl); callWith pos fn first (backTo pos (starEach [] X.env)) (backToKw pos (keywordEach [⟨some kn, e, kpos⟩] X.env))) := by rfl) :
    Ve X (.Call (.Attribute o m apos) [] [⟨some kn, e, kpos⟩] pos) env ow d := .mk fun σ F0 H Q s w k0 => by
  obtain ⟨tk, pk, qk⟩ := hk
  refine wpe (pe_methK pe_can c hm F hgd hr hb pk hall hks hpl ht) (ho σ F0 H _ s w fun F1 H1 v e1 w1 r1 => ?_)
  have keep := r1
  cases r1 with
  | @ins a C2 dx fs l g1 r2 =>
    refine ⟨a, dx, fs, rfl, w1.ex _ _ g1, r2.none hn, qk σ F1 H1 _ (s.mono e1) w1 fun F2 H2 vs e2 w2 r3 => ?_⟩
    exact ⟨by rw [r3.length]; rfl, F2, ow, _, d, w2, .cons (keep.mono e2) r3, hR, k0.ex (e1.trans e2)⟩
end
end Vd
set_option Elab.async false
set_option linter.all false
set_option maxRecDepth 100000
set_option maxHeartbeats 4000000
namespace Vd
open PySem L2
open PySem.Spec PyProof.Rows
def SrcO (K : PySem.W.Frag) (J : It) (F1 : Hp) (ow0 : Ow) (ds : List D) : Prop := ∀ (F H : Hp) (ow : Ow) (i : Nat), Sub ow0 ow → Ex F1 F → Wo K ow F H → (ds.length ≤ i → J.stop i H) ∧ ∀ d, ds[i]? = some d → J.go i H ∧ ∀ x H', J.yld i H x H' → ∃ F', Ex F F' ∧ Wo K ow F' H' ∧ Rp K F' x d
def ViO (X : Cx) (tg it : Expr) (env : List (Option D)) (ow : Ow) (ds : List D) : Prop := ∃ wi, PI X tg it wi ∧ ∀ (σ : L2.St) (F H : Hp) (R : It → Hp → Prop), Sl X.K F σ env → Wo X.K ow F H → (∀ J F1 H1, Ex F F1 → Wo X.K ow F1 H1 → SrcO X.K J F1 ow ds → R J H1) → wi σ H R
section
variable {X : Cx} {env : List (Option D)} {ow : Ow} {a b c e o i tg it elt : Expr} {es : List Expr} {d d1 d2 d3 : D} {ds : List D} {pos : Pos}
theorem viO_list {q : Addr} (h : Ve X it env ow (.ob (.ref q))) (hq : ow q = some (.lst ds)) : ViO X tg it env ow ds := ⟨_, pi_list pe_can, fun σ F H R s w k => h σ F H _ s w fun F1 H1 v e1 w1 r1 => by
  cases r1
  obtain ⟨_, xs0, g0, s0⟩ := w1.own q _ hq
  refine ⟨_, rfl, ⟨_, SqL.of g0⟩, k _ F1 H1 e1 w1 fun F H ow' i sub e w => ?_⟩
  obtain ⟨_, xs, g, sx⟩ := w.own q _ (sub _ _ hq)
  have hQ : SqL X.K H q xs := SqL.of g
  refine ⟨fun hl => ⟨xs, hQ, by rw [sx.length]; exact hl⟩, fun d hd => ?_⟩
  obtain ⟨y, h1, h2⟩ := sx.get hd
  refine ⟨⟨xs, y, hQ, h1⟩, fun x H' hy => ?_⟩
  obtain ⟨rfl, hy⟩ := hy
  have z := hy xs hQ
  rw [h1] at z
  cases z
  exact ⟨F, Evl.Ex.refl F, w, h2⟩⟩
/-- [elt for name in it if ..], it an owned list -/
theorem ve_lcO {ifs : List Expr} {scope : Scope} {j : Nat} {y : Str} {py : Pos} (kp : D → Bool) (f : D → D) (hc : X.calm = true) (hN : X.N.Nodup) (hi : ViO X (.Name y py) it env ow ds) (ok : BlkOk X.N X.env.scope scope [(y, j)]) (hl : ds.length ≤ 100000)
    (hg : ∀ (s : Shared) (H : Hp) (C : Addr) (cl : List (Str × Addr)) (fp : List Addr), PG (X.blk s H scope (compEnvC scope cl C X.env) fp) (.Name y py) (gName j))
    (ht : ∀ d ow', d ∈ ds → Sub ow ow' → ∀ (s : Shared) (H : Hp) (C : Addr) (cl : List (Str × Addr)) (fp : List Addr), Vts (X.blk s H scope (compEnvC scope cl C X.env) fp) ifs ((env.set j none).set j (some d)) ow' (kp d))
    (he : ∀ d ow', d ∈ ds → kp d = true → Sub ow ow' → ∀ (s : Shared) (H : Hp) (C : Addr) (cl : List (Str × Addr)) (fp : List Addr), Ve (X.blk s H scope (compEnvC scope cl C X.env) fp) elt ((env.set j none).set j (some d)) ow' (f d))
    (hsf : ∀ x, foldedSetIterable it X.env x = pure x := by intro _; rfl) : Ve X (.ListComp elt [⟨.Name y py, it, ifs, 0⟩] scope pos) env ow (.lst ((ds.filter kp).map f)) := .mk fun σ F H Q s w k0 => by
  obtain ⟨wi, pi, hw⟩ := hi
  refine wpe (pe_lc (own := [(y, j)]) (g := gName j) (tt := fun σ H Q => ∀ (s : Shared) (H0 : Hp) (C : Addr) (cl : List (Str × Addr)) (fp : List Addr), WpTs (X.blk s H0 scope (compEnvC scope cl C X.env) fp) ifs σ H Q)
    (te := fun σ H Q => ∀ (s : Shared) (H0 : Hp) (C : Addr) (cl : List (Str × Addr)) (fp : List Addr), WpE (X.blk s H0 scope (compEnvC scope cl C X.env) fp) elt σ H Q) hc hN pi ok hg
    (fun s0 H0 C cl fp => ⟨fun pins s σ H Q I h => h s0 H0 C cl fp pins s I⟩) (fun s0 H0 C cl fp => ⟨fun pins s σ H Q I h => h s0 H0 C cl fp pins s I⟩) hsf) ?_
  refine hw σ F H _ s w fun J F1 H1 e1 w1 src => ?_
  intro Dl hD
  refine ⟨fun i m H => m = ds.length - i ∧ i ≤ ds.length ∧ ∃ F2 xs, Ex F1 F2 ∧ Wo X.K ow F2 H ∧ F2 Dl = none ∧ ow Dl = none ∧ H Dl = some (.lst xs) ∧ Rps X.K F2 xs (((ds.take i).filter kp).map f), ⟨ds.length, by simp, Nat.zero_le _, F1, [], Evl.Ex.refl F1, w1.grow hD, w1.free hD, w1.ofree hD, upd_same, .nil⟩, ?_⟩
  rintro i m H2 ⟨rfl, hi, F2, xs, e2, w2, hF2, hoD, hH2, r2⟩
  obtain ⟨stop, go⟩ := src F2 H2 ow i (fun _ _ h => h) e2 w2
  by_cases hlt : i < ds.length
  · have hdi : ds[i]? = some ds[i] := by simp [hlt]
    have htk : ds.take (i + 1) = ds.take i ++ [ds[i]] := by rw [List.take_add_one, hdi]; rfl
    obtain ⟨hgo, hy⟩ := go ds[i] hdi
    refine .inr ⟨hgo, fun H3 => ∃ F3 xs, Ex F1 F3 ∧ Wo X.K ow F3 H3 ∧ F3 Dl = none ∧ ow Dl = none ∧ H3 Dl = some (.lst xs) ∧ Rps X.K F3 xs (((ds.take (i + 1)).filter kp).map f), fun H3 q => ⟨ds.length - (i + 1), by omega, rfl, hlt, q⟩, fun x H3 hx => ?_⟩
    -- the new list's place is owned meanwhile
    have w2' : Wo X.K (ou ow Dl (.lst (((ds.take i).filter kp).map f))) F2 H2 := ⟨w2.ex, fun a o q => by
      by_cases z : a = Dl
      · subst z
        rw [ou_same] at q
        cases q
        exact ⟨hF2, xs, hH2, r2⟩
      · rw [ou_ne z] at q
        exact w2.own a o q⟩
    have sub : ∀ a o, ow a = some o → ou ow Dl (.lst (((ds.take i).filter kp).map f)) a = some o := fun a o q => by
      rw [ou_ne (fun z => by rw [z, hoD] at q; cases q)]
      exact q
    obtain ⟨stop', go'⟩ := src F2 H2 _ i sub e2 w2'
    obtain ⟨_, hy'⟩ := go' ds[i] hdi
    obtain ⟨F3, e3, w3', r3⟩ := hy' x H3 hx
    have sl : Sl X.K F3 ((L2.wipe σ [j]).set j (some x)) ((env.set j none).set j (some ds[i])) := (((s.mono (e1.trans (e2.trans e3))).unset j).set r3 j)
    refine ⟨wipe_one, fun s0 H0 C cl fp => ?_⟩
    have hmem : ds[i] ∈ ds := List.getElem_mem hlt
    obtain ⟨tt, ptt, qtt⟩ := ht ds[i] _ hmem sub s0 H0 C cl fp
    intro pins s' I
    refine ptt.run pins s' _ H3 _ I (qtt _ F3 H3 _ sl w3' fun F4 H4 e4 w4 => ?_)
    cases hk : kp ds[i] with
    | true =>
      rw [if_pos rfl]
      intro s1 H01 C1 cl1 fp1
      refine he ds[i] _ hmem hk sub s1 H01 C1 cl1 fp1 _ F4 H4 _ (sl.mono e4) w4 fun F5 H5 y e5 w5 r5 => ?_
      obtain ⟨n5, ys, h5, s5⟩ := w5.own Dl _ ou_same
      refine ⟨ys, h5, ?_, F5, ys ++ [y], e2.trans (e3.trans (e4.trans e5)), ?_, n5, hoD, upd_same, ?_⟩
      · have z := s5.length
        have y1 : (((ds.take i).filter kp).map f).length ≤ i := by
          rw [List.length_map]
          exact Nat.le_trans (List.length_filter_le _ _) (by rw [List.length_take]; omega)
        exact Evl.sz_lt (by omega)
      · exact (w5.setL ou_same (s5.append (.cons r5 .nil))).drop fun a o q => by
          rw [ou_ne (fun z => by rw [z, hoD] at q; cases q)]
          exact sub a o q
      · rw [htk, List.filter_append, List.map_append]
        have y2 : ([ds[i]].filter kp).map f = [f ds[i]] := by simp [hk]
        rw [y2]
        exact s5.append (.cons r5 .nil)
    | false =>
      rw [if_neg Bool.false_ne_true]
      obtain ⟨n5, ys, h5, s5⟩ := w4.own Dl _ ou_same
      refine ⟨F4, ys, e2.trans (e3.trans e4), w4.drop sub, n5, hoD, h5, ?_⟩
      rw [htk, List.filter_append, List.map_append]
      have y2 : ([ds[i]].filter kp).map f = [] := by simp [hk]
      rw [y2, List.append_nil]
      exact s5
  · have e : i = ds.length := by omega
    subst e
    refine .inl ⟨stop (Nat.le_refl _), ?_⟩
    rw [List.take_length] at r2
    exact k0 (upd F2 Dl (.lst xs)) H2 _ ((e1.trans e2).trans (Evl.Ex.new hF2)) (w2.freeze hF2 hH2 hoD) (.lst upd_same (r2.mono (Evl.Ex.new hF2)))
end
end Vd
set_option Elab.async false
set_option linter.all false
set_option maxRecDepth 100000
set_option maxHeartbeats 4000000
namespace Vd
open PySem L2
open PySem.Spec PyProof.Rows
section
variable {X : Cx} {env : List (Option D)} {ow : Ow} {a b : Expr} {pos : Pos} {P : D → Ow → Prop} {P2 : D → D → Ow → Prop}
theorem vm_tup2 {k0 : Nat} (ha : Vm X a env ow P) (hb : ∀ d1 ow2, P d1 ow2 → Vm X b env ow2 (P2 d1))
    (hst : starEach [a, b] X.env = (false, eval a X.env) :: starEach [b] X.env := by rfl) (hst2 : starEach [b] X.env = (false, eval b X.env) :: starEach [] X.env := by rfl) :
    Vm X (.Tuple [a, b] k0 pos) env ow fun d ow2 => ∃ d1 d2, d = .tup [d1, d2] ∧ P2 d1 d2 ow2 := .mk fun σ F H Q s w k =>
  wpe (pe_tup (pa_cons pe_can (pa_cons pe_can pa_nil hst2) hst)) (ha σ F H _ s w fun F1 H1 v d1 ow1 e1 w1 r1 hp => hb d1 ow1 hp σ F1 H1 _ (s.mono e1) w1 fun F2 H2 u d2 ow2 e2 w2 r2 hp2 =>
    ⟨Evl.sz_of (by show 2 ≤ 100000; decide), fun p hp0 => k _ _ _ (.tup [d1, d2]) ow2 ((e1.trans e2).trans (w2.exnew hp0)) (w2.new hp0) (.tup (SqT.of upd_same) (.cons ((r1.mono e2).mono (w2.exnew hp0)) (.cons (r2.mono (w2.exnew hp0)) .nil))) ⟨d1, d2, rfl, hp2⟩⟩)
end
end Vd
set_option Elab.async false
set_option linter.all false
set_option maxRecDepth 100000
set_option maxHeartbeats 4000000
namespace Vd
open PySem L2
open PySem.Spec PyProof.Rows
section
variable {X : Cx} {B : Hp} {env : List (Option D)} {ow : Ow} {a b c : Expr} {pos : Pos} {Dn : Ends} {rest : List Stmt}
theorem rn_par3M {x y z : Str} {px py pz p1 p2 : Pos} {k1 k2 i j l : Nat} {P1 : D → Ow → Prop} {P2 : D → D → Ow → Prop} {P3 : D → D → D → Ow → Prop} (hc : X.calm = true) (hN : X.N.Nodup) (hi : X.N[i]? = some x) (hj : X.N[j]? = some y) (hl : X.N[l]? = some z) (hij : i ≠ j) (hil : i ≠ l) (hjl : j ≠ l) (hx : X.env.scope.names.lookup x = some .local) (hy : X.env.scope.names.lookup y = some .local) (hz : X.env.scope.names.lookup z = some .local)
    (h1 : Vm X a env ow P1) (h2 : ∀ d1 ow2, P1 d1 ow2 → Vm X b env ow2 (P2 d1)) (h3 : ∀ d1 d2 ow3, P2 d1 d2 ow3 → Vm X c env ow3 (P3 d1 d2)) (k : ∀ B' d1 d2 d3 ow4, Ex B B' → P3 d1 d2 d3 ow4 → Rn X B' rest Dn (((env.set i (some d1)).set j (some d2)).set l (some d3)) ow4)
    (hw : swappedStores [.Tuple [.Name x px, .Name y py, .Name z pz] k1 p1] (.Tuple [a, b, c] k2 p2) X.env = pure (some [x, y, z])) (hst : starEach [a, b, c] X.env = (false, eval a X.env) :: starEach [b, c] X.env := by rfl) (hst2 : starEach [b, c] X.env = (false, eval b X.env) :: starEach [c] X.env := by rfl) (hst3 : starEach [c] X.env = (false, eval c X.env) :: starEach [] X.env := by rfl)
    (hs : swapsWithSole [.Tuple [.Name x px, .Name y py, .Name z pz] k1 p1] (.Tuple [a, b, c] k2 p2) pos.line X.env = pure false := by rfl) :
    Rn X B (.Assign [.Tuple [.Name x px, .Name y py, .Name z pz] k1 p1] (.Tuple [a, b, c] k2 p2) pos :: rest) Dn env ow := rn_one ⟨_, ps_par3 hc hN hi hj hl hij hil hjl hx hy hz (pa_cons pe_can (pa_cons pe_can (pa_cons pe_can pa_nil hst3) hst2) hst) hw hs, fun σ F H eB s w =>
  h1 σ F H _ s w fun F1 H1 v1 d1 ow1 e1 w1 r1 q1 => h2 d1 ow1 q1 σ F1 H1 _ (s.mono e1) w1 fun F2 H2 v2 d2 ow2 e2 w2 r2 q2 => h3 d1 d2 ow2 q2 σ F2 H2 _ (s.mono (e1.trans e2)) w2 fun F3 H3 v3 d3 ow3 e3 w3 r3 q3 => ⟨_, _, _, rfl, k F3 d1 d2 d3 ow3 (eB.trans (e1.trans (e2.trans e3))) q3 _ F3 H3 (Evl.Ex.refl F3) ((((s.mono (e1.trans (e2.trans e3))).set (r1.mono (e2.trans e3)) i).set (r2.mono e3) j).set r3 l) w3⟩⟩
end
/-- a method that is called by position and by name -/
def Mk1 (γ : Gds) (P : Program) (w : World) (K : PySem.W.Frag) (mg : Str → Option Value) (base : Heap) (C : Addr) (k : Nat) (x kn : Str) (R : List D → D → Prop) : Prop := ∃ g fd, Meth K C x g ∧ FnG γ P w K mg base CX0 k g fd ["self", kn] (spR K R) ∧ Binds K fd ["self", kn] [] ∧ ∀ (s : Shared) (a : Addr) (u : Value), K.In s.heap → BindsTo s fd ⟨[.ref a], [(kn, u)]⟩ ((["self", kn] : List Str).zip [.ref a, u])
section
variable {γ : Gds} {X : Cx} {env : List (Option D)} {ow : Ow} {e o : Expr} {es : List Expr} {d d1 : D} {ds : List D} {pos apos kpos : Pos} {C : Addr} {fl : List (Str × D)} {m kn : Str} {k : Nat} {R : List D → D → Prop}
theorem ve_M1 {pl : Sem Bool} (c : Cls X.K C) (h : Mk1 γ X.prog X.w X.K X.mg X.base C k m kn R) (hgd : γ X.A.guards) (hr : Room k X.A) (ho : Ve X o env ow (.ins C fl)) (hn : fl.lookup m = none) (ha : Va X (e :: es) env ow ds) (hR : R (.ins C fl :: ds) d)
    (hst : starEach (e :: es) X.env = (false, eval e X.env) :: starEach es X.env := by rfl) (hpl : (backTo pos (starEach es X.env)).any (·.1) = false := by rfl)
    (ht : eval (.Call (.Attribute o m apos) (e :: es) [] pos) X.env = (do let ov ← eval o X.env; standAt apos.atName; let (fn, first) ← holding [ov] (getMethod ov m pl); callWith pos fn first (backTo pos (starEach (e :: es) X.env)) (backToKw pos (keywordEach [] X.env))) := by rfl) :
    Ve X (.Call (.Attribute o m apos) (e :: es) [] pos) env ow d := by
  obtain ⟨g, fd, hm, F, hb, _⟩ := h
  exact ve_meth c hm F hgd hr hb ho hn ha hR hst hpl ht
theorem ve_M1K {pl : Sem Bool} (c : Cls X.K C) (h : Mk1 γ X.prog X.w X.K X.mg X.base C k m kn R) (hgd : γ X.A.guards) (hr : Room k X.A) (ho : Ve X o env ow (.ins C fl)) (hn : fl.lookup m = none) (he : Ve X e env ow d1) (hR : R [.ins C fl, d1] d)
    (hall : (backToKw pos (keywordEach [⟨some kn, e, kpos⟩] X.env)).all (·.1.isSome) = true := by rfl) (hks : (backToKw pos (keywordEach [⟨some kn, e, kpos⟩] X.env)).filterMap (·.1) = [kn] := by rfl)
    (hpl : ((backTo pos (starEach [] X.env)).any (·.1) || (backToKw pos (keywordEach [⟨some kn, e, kpos⟩] X.env)).any (·.1.isNone)) = false := by rfl)
    (ht : eval (.Call (.Attribute o m apos) [] [⟨some kn, e, kpos⟩] pos) X.env = (do let ov ← eval o X.env; standAt apos.atName; let (fn, first) ← holding [ov] (getMethod ov m pl); callWith pos fn first (backTo pos (starEach [] X.env)) (backToKw pos (keywordEach [⟨some kn, e, kpos⟩] X.env))) := by rfl) :
    Ve X (.Call (.Attribute o m apos) [] [⟨some kn, e, kpos⟩] pos) env ow d := by
  obtain ⟨g, fd, hm, F, _, hb⟩ := h
  exact ve_methK c hm F hgd hr hb ho hn (vk_cons he vk_nil) hR hall hks hpl ht
end
end Vd
set_option Elab.async false
set_option linter.all false
set_option maxRecDepth 100000
set_option maxHeartbeats 4000000
namespace Wk
variable {l : List Od} {w : Nat}
variable {φ : Nat → Nat} {ψ : Od → Od}
/-- turned to the right -/
def tn1 (a : Nat) : Nat := (a + 1) % 4
theorem map_id' (l : List Od) : l.map id = l := List.map_id l
end Wk
set_option Elab.async false
set_option linter.all false
set_option maxRecDepth 100000
set_option maxHeartbeats 4000000
namespace Wk
end Wk
namespace K2
open PySem L2 Vd
open PySem.Spec PyProof.Rows
local macro_rules | `(tactic| walk_at "vis") => `(tactic| first | exact Or.inl rfl | exact Or.inr (Or.inl rfl) | exact Or.inr (Or.inr rfl))
local macro_rules | `(tactic| walk_at "none") => `(tactic| first | assumption)
local macro_rules | `(tactic| walk_at "num") => `(tactic| first | decide | omega)
local macro_rules | `(tactic| walk_at "vr") => `(tactic| first
  | exact bo_add | exact bo_sub | exact bo_mulR (by decide) | exact bo_mulL (by decide) | exact bo_mod (by walk_at "num") | exact bo_div (by walk_at "num") (by walk_at "num") | exact bo_pow (by decide) (by decide) (by decide) | exact bo_cat (by walk_at "num") | exact bo_mulR (by omega) | exact bo_mulL (by omega))
local macro_rules | `(tactic| walk_at "vq") => `(tactic| first
  | exact co_lt | exact co_le | exact co_gt | exact co_ge | exact co_eqI | exact co_neI | exact co_eqS | exact co_neS)
local macro_rules | `(tactic| walk_at "vx") => `(tactic| first
  | exact xo_own (by assumption) rfl | exact xo_lst rfl | exact xo_tup rfl)
local macro_rules | `(tactic| walk_at "vf") => `(tactic| first
  | exact fo_abs | exact fo_lenL | exact fo_lenT | exact fo_lenO (by assumption) | exact fo_divmod (by walk_at "num") (by walk_at "num") | exact fo_max rfl | exact fo_min rfl)
local macro_rules | `(tactic| walk_at "vn") => `(tactic| first
  | exact ve_var (i := 0) rfl rfl (by walk_at "vis") | exact ve_var (i := 1) rfl rfl (by walk_at "vis") | exact ve_var (i := 2) rfl rfl (by walk_at "vis") | exact ve_var (i := 3) rfl rfl (by walk_at "vis") | exact ve_var (i := 4) rfl rfl (by walk_at "vis") | exact ve_var (i := 5) rfl rfl (by walk_at "vis") | exact ve_var (i := 6) rfl rfl (by walk_at "vis") | exact ve_var (i := 7) rfl rfl (by walk_at "vis"))
local macro_rules | `(tactic| walk_at "vd") => `(tactic| first
  | exact ve_int | exact ve_bl | exact ve_non | exact ve_str
  | (refine' ve_bin ?ha ?hb ?hr; (case ha => walk_at "vd"); (case hb => walk_at "vd"); (case hr => walk_at "vr"))
  | (refine' ve_sub ?ha ?hb (fun _ _ => rfl) ?hr; (case ha => walk_at "vd"); (case hb => walk_at "vd"); (case hr => walk_at "vx"))
  | (refine' ve_ty (id := "int") ?ha rfl ?hm boot_int ?hr; (case ha => walk_at "va"); (case hm => walk_at "none"); (case hr => exact to_int))
  | (refine' ve_bi ?ha rfl ?hm ?hv ?hr; (case hv => first | exact boot_abs | exact boot_len | exact boot_divmod | exact boot_max | exact boot_min); (case ha => walk_at "va"); (case hm => walk_at "none"); (case hr => walk_at "vf"))
  | (refine' ve_tup ?ha ?hl; (case ha => walk_at "va"); (case hl => walk_at "num"))
  | (refine' ve_lst ?ha ?hl; (case ha => walk_at "va"); (case hl => walk_at "num"))
  | (refine' ve_comp ?ha ?hb ?hr; (case ha => walk_at "vd"); (case hb => walk_at "vd"); (case hr => walk_at "vq"))
  | walk_at "vn")
local macro_rules | `(tactic| walk_at "va") => `(tactic| first | exact va_nil | (refine' va_cons ?ha ?hb; (case ha => walk_at "vd"); (case hb => walk_at "va")))
local macro_rules | `(tactic| walk_at "vt") => `(tactic| first
  | (refine' vt_comp ?ha ?hb ?hr; (case ha => walk_at "vd"); (case hb => walk_at "vd"); (case hr => walk_at "vq"))
  | (refine' vt_val ?hv; case hv => walk_at "vd"))
section
section
variable {X : Cx} {env : List (Option D)} {ow : Ow} {i k : Nat} {x f : Str} {e : Expr} {es : List Expr} {d : D} {ds : List D} {pos p kp : Pos}
theorem ve_R {fa : Addr} {fd : FuncData} {ps : List Str} {R : List D → D → Prop} (Fn : FnG γ X.prog X.w X.K X.mg X.base CX0 k fa fd ps (spR X.K R)) (hgd : γ X.A.guards) (hr : Room k X.A) (hg : Gl X x) (hm : X.mg x = some (.ref fa)) (hk : PySem.W.keepIn X.K (.ref fa) = true) (hb : Binds X.K fd ps []) (ha : Va X (e :: es) env ow ds) (hR : R ds d)
    (hdb : (x == ("__debug__" : Str)) = false := by decide) (he : starEach (e :: es) X.env = (false, eval e X.env) :: starEach es X.env := by rfl) (hpl : (backTo pos (starEach es X.env)).any (·.1) = false := by rfl) : Ve X (.Call (.Name x p) (e :: es) [] pos) env ow d :=
  ve_call Fn hgd hr hg hm hk hb .nil pass0 ha (fun F H vs Q w r k0 => by
    rw [List.append_nil]
    exact ⟨F, ow, ds, d, w, r, hR, k0⟩) hdb he hpl
end
abbrev sIsI : Stmt := s_is_integer
theorem scIsI : FnScope ["value"] ["value"] (defScope sIsI) := ⟨rfl, rfl, rfl, by decide +kernel, rfl, by decide +kernel, by decide +kernel⟩
def RIsI (ds : List D) (d : D) : Prop := ∃ v : D, ds = [v] ∧ v.kind.isSome = true ∧ d = .bl v.isInt
abbrev sIsW : Stmt := s_is_within
theorem scIsW : FnScope ["value", "least", "most"] ["value", "least", "most"] (defScope sIsW) := ⟨rfl, rfl, rfl, by decide +kernel, rfl, by decide +kernel, by decide +kernel⟩
def D.within (a b : Int) : D → Bool
  | .int i => decide (a ≤ i ∧ i ≤ b)
  | _ => false
def RIsW (ds : List D) (d : D) : Prop := ∃ (v : D) (a b : Int), ds = [v, .int a, .int b] ∧ v.kind.isSome = true ∧ d = .bl (D.within a b v)
section
variable {P : Program} {w : World} {K : PySem.W.Frag} {mg : Str → Option Value} {base : Heap}
theorem ok_isI {f : Addr} {fd : FuncData} (Fn : Fun K "is_integer" "is_integer" sIsI f fd) (mI : mg "isinstance" = none) (m1 : mg "int" = none) (m2 : mg "bool" = none) : FnG γ P w K mg base CX0 1 f fd ["value"] (spR K RIsI) := by
  refine okR Fn scIsI (fun ds d ⟨v, e, _⟩ => by rw [e]; rfl) fun cdv A outer s H B ow ds d Q E hgd hr hR k => ?_
  obtain ⟨v, rfl, hk, rfl⟩ := hR
  refine rn_ret (ve_is (ve_and (t := v.anInt) (u := !v.aBool) ?_ (fun _ => ve_and1 (ve_not ?_))) (by cases v <;> rfl)) k
  · exact ve_bi (va_cons (ve_var (i := 0) rfl rfl (by walk_at "vis")) (va_cons (ve_bty rfl m1 boot_int) va_nil)) rfl mI boot_isinstance (fo_isInt hk)
  · exact ve_bi (va_cons (ve_var (i := 0) rfl rfl (by walk_at "vis")) (va_cons (ve_bty rfl m2 boot_bool) va_nil)) rfl mI boot_isinstance (fo_isBool hk)
theorem ok_isW {f f1 : Addr} {fd fd1 : FuncData} (Fn : Fun K "is_within" "is_within" sIsW f fd) (F1 : FnG γ P w K mg base CX0 1 f1 fd1 ["value"] (spR K RIsI)) (m1 : mg "is_integer" = some (.ref f1)) (k1 : PySem.W.keepIn K (.ref f1) = true) (b1 : Binds K fd1 ["value"] []) : FnG γ P w K mg base CX0 2 f fd ["value", "least", "most"] (spR K RIsW) := by
  refine okR Fn scIsW (fun ds d ⟨v, a, b, e, _⟩ => by rw [e]; rfl) fun cdv A outer s H B ow ds d Q E hgd hr hR k => ?_
  obtain ⟨v, a, b, rfl, hk, rfl⟩ := hR
  refine rn_ret (ve_is (ve_and (t := v.isInt) (u := D.within a b v) ?_ (fun h => ve_and1 ?_)) (by cases v <;> rfl)) k
  · exact ve_R F1 hgd hr rfl m1 k1 b1 (va_cons (ve_var (i := 0) rfl rfl (by walk_at "vis")) va_nil) ⟨v, rfl, hk, rfl⟩
  · cases v with
    | int i => exact ve_between (ve_var (i := 1) rfl rfl (by walk_at "vis")) (ve_var (i := 0) rfl rfl (by walk_at "vis")) (ve_var (i := 2) rfl rfl (by walk_at "vis"))
    | _ => cases h
end
def cnt (l : List Int) (v : Int) : Nat := (l.takeWhile (· < v)).length
theorem cnt_le (l : List Int) (v : Int) : cnt l v ≤ l.length := (List.takeWhile_prefix _).length_le
theorem cnt_eq : ∀ (l : List Int) (v : Int) (k : Nat), k ≤ l.length → (∀ i (h : i < l.length), i < k → l[i] < v) → (∀ i (h : i < l.length), k ≤ i → ¬ l[i] < v) → cnt l v = k
  | [], v, k, hk, _, _ => by
    have : k = 0 := by simpa using hk
    rw [this]
    rfl
  | x :: l, v, 0, _, _, h2 => by
    have z := h2 0 (by simp) (Nat.le_refl _)
    unfold cnt
    rw [List.takeWhile_cons_of_neg (by simpa using z)]
    rfl
  | x :: l, v, k + 1, hk, h1, h2 => by
    have z : x < v := h1 0 (by simp) (by omega)
    have ih := cnt_eq l v k (by simpa using hk) (fun i h q => by have := h1 (i + 1) (by simpa using h) (by omega); simpa using this) (fun i h q => by have := h2 (i + 1) (by simpa using h) (by omega); simpa using this)
    unfold cnt at ih ⊢
    rw [List.takeWhile_cons_of_pos (by simpa using z), List.length_cons, ih]
def AscI (l : List Int) : Prop := l.Pairwise (· < ·)
theorem AscI.lt {l : List Int} (a : AscI l) {i j : Nat} (hi : i < l.length) (hj : j < l.length) (h : i < j) : l[i] < l[j] := List.pairwise_iff_getElem.mp a i j hi hj h
abbrev sPla : Stmt := s_place
theorem scPla : FnScope ["row", "value", "low", "high", "middle"] ["row", "value"] (defScope sPla) := ⟨rfl, rfl, rfl, by decide +kernel, rfl, by decide +kernel, by decide +kernel⟩
def RPla (ds : List D) (d : D) : Prop := ∃ (l : List Int) (v : Int), ds = [.tup (l.map D.int), .int v] ∧ AscI l ∧ d = .int (cnt l v : Nat)
section
variable {P : Program} {w : World} {K : PySem.W.Frag} {mg : Str → Option Value} {base : Heap}
theorem atN {l : List Int} {n : Nat} (h : n < l.length) : L2.atI (l.map D.int) (n : Int) = some (.int l[n]) := by
  unfold L2.atI L2.ixN
  rw [if_pos (by omega), if_pos (by rw [List.length_map]; omega)]
  simp [h]
theorem ok_place {f : Addr} {fd : FuncData} (Fn : Fun K "place" "place" sPla f fd) (mL : mg "len" = none) : FnG γ P w K mg base CX0 1 f fd ["row", "value"] (spR K RPla) := by
  refine okR Fn scPla (fun ds d ⟨l, v, e, _⟩ => by rw [e]; rfl) fun cdv A outer s H B ow ds d Q E hgd hr hR k => ?_
  obtain ⟨l, v, rfl, asc, rfl⟩ := hR
  have hlen : ((l.map D.int).length : Int) = l.length := by rw [List.length_map]
  refine' rn_par (i := 2) (j := 3) (d1 := .int (0 : Nat)) (d2 := .int (l.length : Nat)) rfl scPla.nd rfl rfl (by decide) rfl rfl ?ha ?hb ?k ?hw rfl rfl ⟨_, ps_par rfl scPla.nd rfl rfl (by decide) rfl rfl pa_can rfl, rfl⟩
  case hw => rfl
  case ha => exact ve_int
  case hb => exact ve_is (ve_bi (va_cons (ve_var (i := 0) rfl rfl (by walk_at "vis")) va_nil) rfl mL boot_len fo_lenT) (by rw [hlen])
  case k =>
  intro B1 e1
  refine' rn_while (fun m env ow' => ow = ow' ∧ ∃ (lo hi : Nat) (z : Option D), env = [some (.tup (l.map D.int)), some (.int v), some (.int (lo : Nat)), some (.int (hi : Nat)), z] ∧ m = hi - lo ∧ lo ≤ hi ∧ hi ≤ l.length ∧ (∀ i (h : i < l.length), i < lo → l[i] < v) ∧ ∀ i (h : i < l.length), hi ≤ i → ¬ l[i] < v) PassesOwn.never ⟨_, rfl, 0, l.length, none, rfl, rfl, Nat.zero_le _, Nat.le_refl _, fun i h q => absurd q (Nat.not_lt_zero _), fun i h q => absurd h (by omega)⟩ ?hs
  case hs =>
    rintro B2 m env' ow' e2 ⟨rfl, lo, hi, z, rfl, rfl, hle, hhi, h1, h2⟩
    refine ⟨decide ((lo : Int) < (hi : Int)), ?_, fun t B3 e3 => ?_, fun t B3 e3 => ?_⟩
    · exact vt_comp (ve_var (i := 2) rfl rfl (by walk_at "vis")) (ve_var (i := 3) rfl rfl (by walk_at "vis")) co_lt
    · have lt : lo < hi := by
        have := of_decide_eq_true t
        omega
      obtain ⟨mid, hmid⟩ : ∃ mid : Nat, mid = (lo + hi) / 2 := ⟨_, rfl⟩
      have hm1 : lo ≤ mid ∧ mid < hi := by omega
      refine' rn_set (i := 4) (d := .int (mid : Nat)) scPla.nd rfl (by first | exact .inl rfl | exact .inr rfl) ?h ?k
      case h => exact ve_is (ve_bin (ve_bin (ve_var (i := 2) rfl rfl (by walk_at "vis")) (ve_var (i := 3) rfl rfl (by walk_at "vis")) bo_add) ve_int (bo_div (by decide) (by decide))) (by rw [hmid]; congr 1)
      case k =>
      intro B4 e4
      refine' rn_if (t := decide (l[mid]'(by omega) < v)) ?h ?h1 ?h2
      case h => exact vt_comp (ve_sub (ve_var (d := .tup (l.map D.int)) (i := 0) rfl rfl (by walk_at "vis")) (ve_var (d := .int (mid : Nat)) (i := 4) rfl rfl (by walk_at "vis")) (fun _ _ => rfl) (xo_tup (atN (by omega)))) (ve_var (i := 1) rfl rfl (by walk_at "vis")) co_lt
      case h1 =>
        intro y B5 e5
        have hv := of_decide_eq_true y
        refine' rn_set (i := 2) (d := .int ((mid + 1 : Nat))) scPla.nd rfl (by first | exact .inl rfl | exact .inr rfl) ?h ?k
        case h => exact ve_is (ve_bin (ve_var (i := 4) rfl rfl (by walk_at "vis")) ve_int bo_add) (by congr 1)
        case k =>
        intro B6 e6
        refine rn_go ?_
        refine rn_nextW ?_ (e3.trans (e4.trans (e5.trans e6)))
        refine ⟨_, ?_, rfl, mid + 1, hi, _, rfl, rfl, by omega, hhi, fun i h q => ?_, h2⟩
        · omega
        · by_cases c : i = mid
          · subst c; exact hv
          · have z := asc.lt h (by omega) (show i < mid by omega)
            omega
      case h2 =>
        intro y B5 e5
        have hv := of_decide_eq_false y
        refine' rn_set (i := 3) (d := .int (mid : Nat)) scPla.nd rfl (by first | exact .inl rfl | exact .inr rfl) ?h ?k
        case h => exact ve_var (i := 4) rfl rfl (by walk_at "vis")
        case k =>
        intro B6 e6
        refine rn_go ?_
        refine rn_nextW ?_ (e3.trans (e4.trans (e5.trans e6)))
        refine ⟨_, ?_, rfl, lo, mid, _, rfl, rfl, by omega, by omega, h1, fun i h q => ?_⟩
        · omega
        · by_cases c : i = mid
          · subst c; exact hv
          · have z := asc.lt (show mid < l.length by omega) h (show mid < i by omega)
            omega
    · have ge : lo = hi := by
        have := of_decide_eq_false t
        omega
      subst ge
      have c := cnt_eq l v lo hhi h1 h2
      exact rn_ret (ve_is (ve_var (i := 2) rfl rfl (by walk_at "vis")) (by rw [c])) (k.ex (e1.trans (e2.trans e3)))
end
end
section
open Wk
abbrev sq (x y : Int) : D := .tup [.int x, .int y]
def absI (i : Int) : Int := if i < 0 then -i else i
def GR : Int := 1000000000000000000000000000000
/-- the codes of an order, of a way -/
def oc : Od → Nat
  | .t 1 => 82
  | .t 2 => 66
  | .t _ => 76
  | .g n => 48 + n
def wc : Nat → Nat
  | 0 => 78
  | 1 => 69
  | 2 => 83
  | _ => 87
/-- the codes of a row -/
def rowC : List Od → List Nat
  | [] => []
  | [o] => [oc o]
  | o :: r => oc o :: 32 :: rowC r
/-- what the module's tables must say -/
structure Tbl (K : PySem.W.Frag) (w : World) (mg : Str → Option Value) : Prop where
  turns : ∃ q es n t1 t2 t3, mg "TURNS" = some (.ref q) ∧ KDict K w q es n ∧ PySem.W.nsIn K q (tx [82]) = some (some (.int 1 t1)) ∧ PySem.W.nsIn K q (tx [66]) = some (some (.int 2 t2)) ∧ PySem.W.nsIn K q (tx [76]) = some (some (.int 3 t3)) ∧ ∀ n, 1 ≤ n → n ≤ 9 → PySem.W.nsIn K q (tx [48 + n]) = some none
  moves : ∃ q es n, mg "MOVES" = some (.ref q) ∧ KDict K w q es n ∧ es.toList.map keyS = [tx [78], tx [69], tx [83], tx [87]] ∧ ∀ a, a < 4 → ∃ u, PySem.W.nsIn K q (tx [wc a]) = some (some (.ref u)) ∧ ∀ F, Rp K F (.ref u) (sq (mx a) (my a))
  ways : ∃ t, mg "WAYS" = some (.str (tx [78, 69, 83, 87]) t)
  great : ∃ t, mg "GREATEST" = some (.int GR t)
  orders : ∃ t, mg "MOST_ORDERS" = some (.int 8 t)
  steps : ∃ t, mg "MOST_STEPS" = some (.int 9 t)
/-- the built-ins' names are free -/
structure Free (mg : Str → Option Value) : Prop where
  isinstance : mg "isinstance" = none
  int : mg "int" = none
  bool : mg "bool" = none
  len : mg "len" = none
  tuple : mg "tuple" = none
  str : mg "str" = none
  list : mg "list" = none
  range : mg "range" = none
  abs : mg "abs" = none
  all : mg "all" = none
  any : mg "any" = none
  divmod : mg "divmod" = none
  enumerate : mg "enumerate" = none
  sorted : mg "sorted" = none
section
variable {γ : Gds} {P : Program} {w : World} {K : PySem.W.Frag} {mg : Str → Option Value} {base : Heap} {f : Addr} {fd : FuncData}
theorem scPair : FnScope ["value"] ["value"] (defScope s_is_pair) := ⟨rfl, rfl, rfl, by decide +kernel, rfl, by decide +kernel, by decide +kernel⟩
def RPair (ds : List D) (d : D) : Prop := ∃ x y, ds = [sq x y] ∧ d = .bl true
theorem ok_isPair (Fn : Fun K "is_pair" "is_pair" s_is_pair f fd) (N : Free mg) (I : Df γ P w K mg base 1 "is_integer" ["value"] (spR K RIsI)) : FnG γ P w K mg base CX0 2 f fd ["value"] (spR K RPair) := by
  refine okR Fn scPair (fun ds d ⟨x, y, e, _⟩ => by rw [e]; rfl) fun cdv A outer s H B ow ds d Q E hgd hr hR k => ?_
  obtain ⟨x, y, rfl, rfl⟩ := hR
  refine rn_ret (ve_is (ve_and (t := true) (u := true) ?h1 (fun _ => ve_and (t := true) (u := true) ?h2 (fun _ => ve_and (t := true) (u := true) ?h3 (fun _ => ve_and1 ?h4)))) rfl) k
  case h1 => exact ve_bi (va_cons (ve_var (d := sq x y) (i := 0) rfl rfl (by walk_at "vis")) (va_cons (ve_bty rfl N.tuple boot_tuple) va_nil)) rfl N.isinstance boot_isinstance fo_isTup
  case h2 => exact ve_comp (ve_bi (va_cons (ve_var (d := sq x y) (i := 0) rfl rfl (by walk_at "vis")) va_nil) rfl N.len boot_len fo_lenT) ve_int (co_to co_eqI (by simp))
  case h3 => exact ve_D I hgd hr rfl (va_cons (ve_sub (ve_var (d := sq x y) (i := 0) rfl rfl (by walk_at "vis")) ve_int (fun _ _ => rfl) (xo_tup rfl)) va_nil) ⟨.int x, rfl, rfl, rfl⟩
  case h4 => exact ve_D I hgd hr rfl (va_cons (ve_sub (ve_var (d := sq x y) (i := 0) rfl rfl (by walk_at "vis")) ve_int (fun _ _ => rfl) (xo_tup rfl)) va_nil) ⟨.int y, rfl, rfl, rfl⟩
theorem scSq : FnScope ["value"] ["value"] (defScope s_is_square) := ⟨rfl, rfl, rfl, by decide +kernel, rfl, by decide +kernel, by decide +kernel⟩
def RSq (ds : List D) (d : D) : Prop := ∃ x y, ds = [sq x y] ∧ d = .bl (decide (absI x ≤ GR) && decide (absI y ≤ GR))
theorem ok_isSquare (Fn : Fun K "is_square" "is_square" s_is_square f fd) (N : Free mg) (T : Tbl K w mg) (I : Df γ P w K mg base 2 "is_pair" ["value"] (spR K RPair)) : FnG γ P w K mg base CX0 3 f fd ["value"] (spR K RSq) := by
  refine okR Fn scSq (fun ds d ⟨x, y, e, _⟩ => by rw [e]; rfl) fun cdv A outer s H B ow ds d Q E hgd hr hR k => ?_
  obtain ⟨x, y, rfl, rfl⟩ := hR
  obtain ⟨tk, mG⟩ := T.great
  refine rn_ret (ve_is (ve_and (t := true) (u := decide (absI x ≤ GR) && decide (absI y ≤ GR)) ?h1 (fun _ => ve_and ?h2 (fun _ => ve_and1 ?h3))) (by simp)) k
  case h1 => exact ve_D I hgd hr rfl (va_cons (ve_var (d := sq x y) (i := 0) rfl rfl (by walk_at "vis")) va_nil) ⟨x, y, rfl, rfl⟩
  case h2 => exact ve_comp (ve_bi (va_cons (ve_sub (ve_var (d := sq x y) (i := 0) rfl rfl (by walk_at "vis")) ve_int (fun _ _ => rfl) (xo_tup rfl)) va_nil) rfl N.abs boot_abs fo_abs) (ve_glob (v := .int GR) rfl mG ⟨_, rfl⟩ (fun F => .int GR)) (co_to co_le rfl)
  case h3 => exact ve_comp (ve_bi (va_cons (ve_sub (ve_var (d := sq x y) (i := 0) rfl rfl (by walk_at "vis")) ve_int (fun _ _ => rfl) (xo_tup rfl)) va_nil) rfl N.abs boot_abs fo_abs) (ve_glob (v := .int GR) rfl mG ⟨_, rfl⟩ (fun F => .int GR)) (co_to co_le rfl)
theorem scTime : FnScope ["value"] ["value"] (defScope s_is_time) := ⟨rfl, rfl, rfl, by decide +kernel, rfl, by decide +kernel, by decide +kernel⟩
def RTime (ds : List D) (d : D) : Prop := ∃ v : D, ds = [v] ∧ v.kind.isSome = true ∧ d = .bl (D.within 0 GR v)
theorem ok_isTime (Fn : Fun K "is_time" "is_time" s_is_time f fd) (T : Tbl K w mg) (I : Df γ P w K mg base 2 "is_within" ["value", "least", "most"] (spR K RIsW)) : FnG γ P w K mg base CX0 3 f fd ["value"] (spR K RTime) := by
  refine okR Fn scTime (fun ds d ⟨v, e, _⟩ => by rw [e]; rfl) fun cdv A outer s H B ow ds d Q E hgd hr hR k => ?_
  obtain ⟨v, rfl, hk, rfl⟩ := hR
  obtain ⟨tk, mG⟩ := T.great
  exact rn_ret (ve_D I hgd hr rfl (va_cons (ve_var (d := v) (i := 0) rfl rfl (by walk_at "vis")) (va_cons ve_int (va_cons (ve_glob (v := .int GR) rfl mG ⟨_, rfl⟩ (fun F => .int GR)) va_nil))) ⟨v, 0, GR, rfl, hk, rfl⟩) k
end
end
section
open Wk TL
theorem tl_tx (l : List Nat) : tl (tx l) = l := tx_cps l
theorem sp_eq : (" " : Str) = tx [32] := by decide +kernel
theorem joinL_row : ∀ l : List Od, joinL [32] ((l.map fun o => tx [oc o]).map tl) = rowC l
  | [] => rfl
  | [o] => by show tl (tx [oc o]) = _; rw [tl_tx]; rfl
  | o :: p :: r => by
    have ih := joinL_row (p :: r)
    show tl (tx [oc o]) ++ ([32] ++ joinL [32] (((p :: r).map fun o => tx [oc o]).map tl)) = _
    rw [ih, tl_tx]
    rfl
theorem join_row (l : List Od) : Txt.join (" " : Str) (l.map fun o => tx [oc o]) = tx (rowC l) := by
  apply ext_tl
  rw [join_eq, tl_join, tl_tx, sp_eq, tl_tx, joinL_row]
theorem oc_ne {o : Od} (h : o.ok) : oc o ≠ 32 ∧ oc o < 100 := by
  cases o with
  | t k =>
    obtain ⟨h1, h2⟩ := (h : 1 ≤ k ∧ k ≤ 3)
    match k, h1, h2 with
    | 1, _, _ => decide
    | 2, _, _ => decide
    | 3, _, _ => decide
  | g n =>
    have z : 1 ≤ n ∧ n ≤ 9 := h
    show 48 + n ≠ 32 ∧ 48 + n < 100
    omega
theorem split_row {l : List Od} (hne : l ≠ []) (ok : ∀ o ∈ l, o.ok) : Txt.split (tx (rowC l)) (" " : Str) = l.map fun o => tx [oc o] := by
  rw [← join_row]
  refine split_join (s := 32) (S := []) (by rw [sp_eq, tl_tx]) (by decide +kernel) (fun e => hne (List.map_eq_nil_iff.mp e)) fun p hp => ?_
  obtain ⟨o, ho, rfl⟩ := List.mem_map.mp hp
  rw [tl_tx]
  intro z
  exact (oc_ne (ok o ho)).1 (List.mem_singleton.mp z).symm
theorem rowC_len : ∀ l : List Od, (rowC l).length ≤ 2 * l.length
  | [] => Nat.le_refl _
  | [o] => by simp [rowC]
  | o :: p :: r => by
    have ih := rowC_len (p :: r)
    show (rowC (p :: r)).length + 1 + 1 ≤ _
    simp only [List.length_cons] at ih ⊢
    omega
theorem num_tx {n : Nat} (h : n < 10) : ((toString (n : Int) : String) : Str) = tx [48 + n] := ext_tl (by rw [tl_tx]; exact (tl_num n).trans (numL_lt h))
section
variable {γ : Gds} {P : Program} {w : World} {K : PySem.W.Frag} {mg : Str → Option Value} {base : Heap} {f : Addr} {fd : FuncData}
/-- whether a text is a turn -/
theorem turn_in {X : Cx} {ow : Ow} {b : Expr} {o : Od} {q : Addr} {es : Array DictEntry} {n : Nat} {t1 t2 t3 : Tok} (ho : o.ok) (hm : behindInMarks .In b = false) (T : KDict X.K X.w q es n)
    (h1 : PySem.W.nsIn X.K q (tx [82]) = some (some (.int 1 t1))) (h2 : PySem.W.nsIn X.K q (tx [66]) = some (some (.int 2 t2))) (h3 : PySem.W.nsIn X.K q (tx [76]) = some (some (.int 3 t3))) (h4 : ∀ n, 1 ≤ n → n ≤ 9 → PySem.W.nsIn X.K q (tx [48 + n]) = some none) :
    CmpOk X ow .In b (.str (tx [oc o])) (.ob (.ref q)) (.bl (!o.isGo)) := by
  cases o with
  | t k =>
    obtain ⟨a1, a2⟩ := (ho : 1 ≤ k ∧ k ≤ 3)
    match k, a1, a2 with
    | 1, _, _ => exact co_to (co_inKd hm T h1) rfl
    | 2, _, _ => exact co_to (co_inKd hm T h2) rfl
    | 3, _, _ => exact co_to (co_inKd hm T h3) rfl
  | g m =>
    obtain ⟨a1, a2⟩ := (ho : 1 ≤ m ∧ m ≤ 9)
    exact co_to (co_inKd hm T (h4 m a1 a2)) rfl
theorem turn_notin {X : Cx} {ow : Ow} {b : Expr} {o : Od} {q : Addr} {es : Array DictEntry} {n : Nat} {t1 t2 t3 : Tok} (ho : o.ok) (hm : behindInMarks .NotIn b = false) (T : KDict X.K X.w q es n)
    (h1 : PySem.W.nsIn X.K q (tx [82]) = some (some (.int 1 t1))) (h2 : PySem.W.nsIn X.K q (tx [66]) = some (some (.int 2 t2))) (h3 : PySem.W.nsIn X.K q (tx [76]) = some (some (.int 3 t3))) (h4 : ∀ n, 1 ≤ n → n ≤ 9 → PySem.W.nsIn X.K q (tx [48 + n]) = some none) :
    CmpOk X ow .NotIn b (.str (tx [oc o])) (.ob (.ref q)) (.bl o.isGo) := by
  cases o with
  | t k =>
    obtain ⟨a1, a2⟩ := (ho : 1 ≤ k ∧ k ≤ 3)
    match k, a1, a2 with
    | 1, _, _ => exact co_to (co_notInKd hm T h1) rfl
    | 2, _, _ => exact co_to (co_notInKd hm T h2) rfl
    | 3, _, _ => exact co_to (co_notInKd hm T h3) rfl
  | g m =>
    obtain ⟨a1, a2⟩ := (ho : 1 ≤ m ∧ m ≤ 9)
    exact co_to (co_notInKd hm T (h4 m a1 a2)) rfl
/-- TURNS[text] -/
theorem turn_at {X : Cx} {ow : Ow} {k : Nat} {q : Addr} {es : Array DictEntry} {n : Nat} {t1 t2 t3 : Tok} (a1 : 1 ≤ k) (a2 : k ≤ 3) (T : KDict X.K X.w q es n)
    (h1 : PySem.W.nsIn X.K q (tx [82]) = some (some (.int 1 t1))) (h2 : PySem.W.nsIn X.K q (tx [66]) = some (some (.int 2 t2))) (h3 : PySem.W.nsIn X.K q (tx [76]) = some (some (.int 3 t3))) : IxOk X ow (.ob (.ref q)) (.str (tx [oc (.t k)])) (.int (k : Nat)) := by
  match k, a1, a2 with
  | 1, _, _ => exact xo_kd (v := .int 1) ⟨es, n, _, T.at_, T.lit, h1, ⟨_, rfl⟩⟩ fun F => .int 1
  | 2, _, _ => exact xo_kd (v := .int 2) ⟨es, n, _, T.at_, T.lit, h2, ⟨_, rfl⟩⟩ fun F => .int 2
  | 3, _, _ => exact xo_kd (v := .int 3) ⟨es, n, _, T.at_, T.lit, h3, ⟨_, rfl⟩⟩ fun F => .int 3
theorem scOrd : FnScope ["text", "many"] ["text"] (defScope s_is_order) := ⟨rfl, rfl, rfl, by decide +kernel, rfl, by decide +kernel, by decide +kernel⟩
def ROrd (ds : List D) (d : D) : Prop := ∃ o : Od, ds = [.str (tx [oc o])] ∧ o.ok ∧ d = .bl true
def digs : List Str := (List.range 9).map fun i => tx [49 + i]
theorem ok_isOrder (Fn : Fun K "is_order" "is_order" s_is_order f fd) (N : Free mg) (T : Tbl K w mg) : FnG γ P w K mg base CX0 1 f fd ["text"] (spR K ROrd) := by
  refine okR Fn scOrd (fun ds d ⟨o, e, _⟩ => by rw [e]; rfl) fun cdv A outer s H B ow ds d Q E hgd hr hR k => ?_
  obtain ⟨o, rfl, ho, rfl⟩ := hR
  obtain ⟨q, es, n, t1, t2, t3, mT, kd, h1, h2, h3, h4⟩ := T.turns
  obtain ⟨ts, mS⟩ := T.steps
  refine rn_ret (ve_is (ve_or (t := !o.isGo) (u := true) ?h1 (fun z => ve_or1 ?h2)) (by simp)) k
  case h1 => exact ve_comp (ve_var (d := .str (tx [oc o])) (i := 0) rfl rfl (by walk_at "vis")) (ve_gobj rfl mT) (turn_in ho rfl kd h1 h2 h3 h4)
  case h2 =>
    cases o with
    | t k => cases z
    | g m =>
      obtain ⟨a1, a2⟩ := (ho : 1 ≤ m ∧ m ≤ 9)
      refine ve_comp (ve_var (d := .str (tx [oc (.g m)])) (i := 0) rfl rfl (by walk_at "vis")) (d2 := .lst (digs.map D.str)) ?_ (co_to (co_inSL rfl) ?_)
      · refine ve_is (ve_lc (j := 1) (fun _ => true) (fun d => match d with | .int i => .str ((toString i : String) : Str) | _ => .non) (ds := rangeD 1 ((9 + 1 : Int) - 1).toNat) rfl scOrd.nd ?hi (blkOk_by (N := ["text", "many"]) (sc := defScope s_is_order) (by decide +kernel)) (by rw [rangeD_len]; decide) (fun _ _ _ _ _ => pg_name scOrd.nd rfl (.inl rfl)) (fun d ow' _ _ s0 H0 C0 cl fp => vts_nil) ?he) ?eq
        case hi => exact vi_range2 rfl N.range ve_int (ve_bin (ve_glob (v := .int 9) rfl mS ⟨_, rfl⟩ (fun F => .int 9)) ve_int bo_add) (by decide)
        case he =>
          intro d ow' hd _ _ s0 H0 C0 cl fp
          obtain ⟨i, hi⟩ := List.mem_iff_getElem?.mp hd
          obtain ⟨hlt, rfl⟩ := rangeD_get hi
          exact ve_ty (id := "str") (va_cons (ve_var (d := .int (1 + (i : Nat))) (i := 1) rfl rfl (by walk_at "vis")) va_nil) rfl N.str boot_str (to_strI (by
            have : (1 + (i : Int)).natAbs < 10 := by omega
            have y := Nat.log2_lt (n := (1 + (i : Int)).natAbs) (k := 4) (by omega)
            have := y.mpr (by omega)
            omega))
        case eq =>
          rw [List.filter_eq_self.mpr (fun _ _ => rfl)]
          unfold digs rangeD
          rw [List.map_map, List.map_map]
          congr 1
      · have y : tx [oc (.g m)] ∈ digs := List.mem_map.mpr ⟨m - 1, List.mem_range.mpr (by omega), by
          show tx [49 + (m - 1)] = tx [48 + m]
          rw [show 49 + (m - 1) = 48 + m by omega]⟩
        simp [y]
theorem fo_any {X : Cx} {ow : Ow} {bs : List Bool} (hc : X.calm = true) : BiOk X ow "any" [.lst (bs.map D.bl)] (.bl (bs.any id)) := ⟨_, cr_any hc, rc_any⟩
theorem scRow : FnScope ["value", "orders", "order"] ["value"] (defScope s_is_row) := ⟨rfl, rfl, rfl, by decide +kernel, rfl, by decide +kernel, by decide +kernel⟩
def RRow (ds : List D) (d : D) : Prop := ∃ l : List Od, ds = [.str (tx (rowC l))] ∧ Row l ∧ d = .bl true
def wsD (l : List Od) : List D := l.map fun o => .str (tx [oc o])
theorem wsD_eq (l : List Od) : (l.map fun o => tx [oc o]).map D.str = wsD l := by
  rw [List.map_map]
  rfl
theorem ve_words {X : Cx} {env : List (Option D)} {ow : Ow} {o e : Expr} {ap pos : Pos} {l : List Od} (r : Row l) (ho : Ve X o env ow (.str (tx (rowC l)))) (h : Ve X e env ow (.str (" " : Str)))
    (hs : starEach [e] X.env = [(false, eval e X.env)] := by rfl) (hbase : attributeBase o "split" X.env (eval o X.env) = eval o X.env := by rfl) (hline : (ap.endLine == pos.line) = true := by rfl) :
    Ve X (.Call (.Attribute o "split" ap) [e] [] pos) env ow (.lst (wsD l)) := ve_is (ve_split ho h rfl (by rw [tx_len]; have := rowC_len l; have := r.le; omega) hs hbase hline) (by rw [split_row r.ne r.ok, wsD_eq])
theorem ok_isRow (Fn : Fun K "is_row" "is_row" s_is_row f fd) (N : Free mg) (T : Tbl K w mg) (O : Df γ P w K mg base 1 "is_order" ["text"] (spR K ROrd)) : FnG γ P w K mg base CX0 2 f fd ["value"] (spR K RRow) := by
  refine okR Fn scRow (fun ds d ⟨l, e, _⟩ => by rw [e]; rfl) fun cdv A outer s H B ow ds d Q E hgd hr hR k => ?_
  obtain ⟨l, rfl, rl, rfl⟩ := hR
  obtain ⟨q, es, n, t1, t2, t3, mT, kd, h1, h2, h3, h4⟩ := T.turns
  obtain ⟨tm, mM⟩ := T.orders
  refine' rn_if (t := false) ?c1 (fun z => nomatch z) ?c2
  case c1 => exact vt_is (vt_not (t := true) (vt_val (ve_is (ve_bi (va_cons (ve_var (d := .str (tx (rowC l))) (i := 0) rfl rfl (by walk_at "vis")) (va_cons (ve_bty rfl N.str boot_str) va_nil)) rfl N.isinstance boot_isinstance (fo_isT (b := true) rfl (by decide +kernel))) rfl))) rfl
  case c2 =>
  intro _ B1 e1
  refine rn_go ?_
  refine' rn_set (i := 1) (d := .lst (wsD l)) scRow.nd rfl (by first | exact .inl rfl | exact .inr rfl) ?s1 ?s2
  case s1 => exact ve_words rl (ve_var (d := .str (tx (rowC l))) (i := 0) rfl rfl (by walk_at "vis")) ve_str
  case s2 =>
  intro B2 e2
  have len : (wsD l).length = l.length := by unfold wsD; rw [List.length_map]
  have le := rl.le
  refine' rn_if (t := false) ?d1 (fun z => nomatch z) ?d2
  case d1 =>
    refine vt_is (vt_w (vw_or (t := false) (u := false) ?o1 (fun _ => vw_or1 ?o2) (pw_all_or _ _))) rfl
    case o1 => exact vt_is (vt_comp (ve_bi (va_cons (ve_var (d := .lst (wsD l)) (i := 1) rfl rfl (by walk_at "vis")) va_nil) rfl N.len boot_len fo_lenL) (ve_glob (v := .int 8) rfl mM ⟨_, rfl⟩ (fun F => .int 8)) co_gt) (by rw [len]; exact decide_eq_false (by omega))
    case o2 =>
      refine vt_is (vt_not (t := true) (vt_val (ve_is (ve_bi (va_cons ?al va_nil) rfl N.all boot_all (fo_all (bs := List.replicate l.length true) rfl)) (by simp)))) rfl
      case al =>
        refine ve_is (ve_lc (j := 2) (fun _ => true) (fun _ => .bl true) (ds := wsD l) rfl scRow.nd (vi_list (ve_var (i := 1) rfl rfl (by walk_at "vis"))) (blkOk_by (N := ["value", "orders", "order"]) (sc := defScope s_is_row) (by decide +kernel)) (by rw [len]; omega) (fun _ _ _ _ _ => pg_name scRow.nd rfl (.inl rfl)) (fun d ow' _ _ s0 H0 C0 cl fp => vts_nil) ?he) ?eq
        case he =>
          intro d ow' hd _ _ s0 H0 C0 cl fp
          obtain ⟨o, ho, rfl⟩ := List.mem_map.mp hd
          exact ve_D O hgd hr rfl (va_cons (ve_var (d := .str (tx [oc o])) (i := 2) rfl rfl (by walk_at "vis")) va_nil) ⟨o, rfl, rl.ok o ho, rfl⟩
        case eq =>
          rw [List.filter_eq_self.mpr (fun _ _ => rfl), List.map_replicate]
          congr 1
          rw [← len]
          exact List.map_const'  ..
  case d2 =>
  intro _ B3 e3
  refine rn_go ?_
  refine rn_ret (ve_is (ve_bi (va_cons ?an va_nil) rfl N.any boot_any (fo_any (bs := l.map Od.isGo) rfl)) (by rw [List.any_map]; exact congrArg D.bl rl.go)) (k.ex (e1.trans (e2.trans e3)))
  case an =>
    refine ve_is (ve_lcZ (j := 2) (ds := wsD l) ((l.map Od.isGo).map D.bl) (by rw [len, List.length_map, List.length_map]) rfl scRow.nd (vi_list (ve_var (i := 1) rfl rfl (by walk_at "vis"))) (blkOk_by (N := ["value", "orders", "order"]) (sc := defScope s_is_row) (by decide +kernel)) (by rw [len]; omega) (fun _ _ _ _ _ => pg_name scRow.nd rfl (.inl rfl)) ?he) rfl
    case he =>
      intro i d r ow' hd hr' sub s0 H0 C0 cl fp
      unfold wsD at hd
      rw [List.getElem?_map] at hd hr'
      rw [List.getElem?_map] at hr'
      cases z : l[i]? with
      | none => rw [z] at hd; cases hd
      | some o =>
        rw [z] at hd hr'
        obtain rfl := Option.some.inj hd
        obtain rfl := Option.some.inj hr'
        exact ve_comp (ve_var (d := .str (tx [oc o])) (i := 2) rfl rfl (by walk_at "vis")) (ve_gobj rfl mT) (turn_notin (rl.ok o (List.mem_of_getElem? z)) rfl kd h1 h2 h3 h4)
end
end
section
open Wk TL
abbrev wD (a : Nat) : D := .str (tx [wc a])
def wsT (l : List Nat) : Str := tx (l.map wc)
theorem wc_inj {a b : Nat} (ha : a < 4) (hb : b < 4) (h : wc a = wc b) : a = b := by
  match a, ha, b, hb with
  | 0, _, 0, _ => rfl
  | 1, _, 1, _ => rfl
  | 2, _, 2, _ => rfl
  | 3, _, 3, _ => rfl
  | 0, _, 1, _ => cases h
  | 0, _, 2, _ => cases h
  | 0, _, 3, _ => cases h
  | 1, _, 0, _ => cases h
  | 1, _, 2, _ => cases h
  | 1, _, 3, _ => cases h
  | 2, _, 0, _ => cases h
  | 2, _, 1, _ => cases h
  | 2, _, 3, _ => cases h
  | 3, _, 0, _ => cases h
  | 3, _, 1, _ => cases h
  | 3, _, 2, _ => cases h
theorem run_app : ∀ (l m : List Od) (w : Nat), run (l ++ m) w = run l w ++ run m (fin l w)
  | [], _, _ => rfl
  | .t k :: l, m, w => run_app l m _
  | .g n :: l, m, w => by
    show List.replicate n w ++ run (l ++ m) w = (List.replicate n w ++ run l w) ++ run m (fin l w)
    rw [run_app l m w, List.append_assoc]
theorem fin_app : ∀ (l m : List Od) (w : Nat), fin (l ++ m) w = fin m (fin l w)
  | [], _, _ => rfl
  | .t k :: l, m, w => fin_app l m _
  | .g n :: l, m, w => fin_app l m w
section
variable {γ : Gds} {P : Program} {w : World} {K : PySem.W.Frag} {mg : Str → Option Value} {base : Heap} {f : Addr} {fd : FuncData}
theorem scWay : FnScope ["value"] ["value"] (defScope s_is_way) := ⟨rfl, rfl, rfl, by decide +kernel, rfl, by decide +kernel, by decide +kernel⟩
def RWay (ds : List D) (d : D) : Prop := ∃ a, ds = [wD a] ∧ a < 4 ∧ d = .bl true
theorem ok_isWay (Fn : Fun K "is_way" "is_way" s_is_way f fd) (N : Free mg) (T : Tbl K w mg) : FnG γ P w K mg base CX0 1 f fd ["value"] (spR K RWay) := by
  refine okR Fn scWay (fun ds d ⟨a, e, _⟩ => by rw [e]; rfl) fun cdv A outer s H B ow ds d Q E hgd hr hR k => ?_
  obtain ⟨a, rfl, ha, rfl⟩ := hR
  obtain ⟨q, es, n, mM, kd, hks, _⟩ := T.moves
  refine rn_ret (ve_is (ve_and (t := true) (u := true) ?h1 (fun _ => ve_and1 ?h2)) rfl) k
  case h1 => exact ve_bi (va_cons (ve_var (d := wD a) (i := 0) rfl rfl (by walk_at "vis")) (va_cons (ve_bty rfl N.str boot_str) va_nil)) rfl N.isinstance boot_isinstance (fo_isT (b := true) rfl (by decide +kernel))
  case h2 =>
    refine ve_comp (ve_var (d := wD a) (i := 0) rfl rfl (by walk_at "vis")) (ve_ty (id := "list") (va_cons (ve_gobj rfl mM) va_nil) rfl N.list boot_list (to_listKd rfl kd hks (by decide) (by decide))) (co_to (co_inSL rfl) ?_)
    congr 1
    match a, ha with
    | 0, _ => decide
    | 1, _ => decide
    | 2, _ => decide
    | 3, _ => decide
theorem scTurn : FnScope ["way", "turns"] ["way", "turns"] (defScope s_turned_way) := ⟨rfl, rfl, rfl, by decide +kernel, rfl, by decide +kernel, by decide +kernel⟩
def RTurn (ds : List D) (d : D) : Prop := ∃ a k : Nat, ds = [wD a, .int (k : Nat)] ∧ a < 4 ∧ d = wD ((a + k) % 4)
def nesw : Str := tx [78, 69, 83, 87]
theorem occ_way {a : Nat} (ha : a < 4) : Builtin.Str.occurrences nesw (tx [wc a]) 0 nesw.length 1 = a :: [] := by
  match a, ha with
  | 0, _ => decide +kernel
  | 1, _ => decide +kernel
  | 2, _ => decide +kernel
  | 3, _ => decide +kernel
theorem at_way {a : Nat} (ha : a < 4) : L2.atI nesw.cps.toList (a : Int) = some (wc a) := by
  match a, ha with
  | 0, _ => rfl
  | 1, _ => rfl
  | 2, _ => rfl
  | 3, _ => rfl
theorem ok_turned (Fn : Fun K "turned_way" "turned_way" s_turned_way f fd) (N : Free mg) (T : Tbl K w mg) : FnG γ P w K mg base CX0 1 f fd ["way", "turns"] (spR K RTurn) := by
  refine okR Fn scTurn (fun ds d ⟨a, k, e, _⟩ => by rw [e]; rfl) fun cdv A outer s H B ow ds d Q E hgd hr hR kQ => ?_
  obtain ⟨a, k, rfl, ha, rfl⟩ := hR
  obtain ⟨tk, mW⟩ := T.ways
  have W : ∀ {pos}, Ve (cxOf CX0 P w K mg base ["way", "turns"] "turned_way" (defScope s_turned_way) f cdv A outer s H E).nox (.Name "WAYS" pos) (env0 ["way", "turns"] [wD a, .int (k : Nat)]) ow (.str nesw) := fun {pos} => ve_glob (v := .str nesw) rfl mW ⟨_, rfl⟩ (fun F => .str _)
  refine rn_ret (ve_sub W (ve_is (ve_bin (ve_bin (ve_sindex W (ve_var (d := wD a) (i := 0) rfl rfl (by walk_at "vis")) (occ_way ha)) (ve_var (d := .int (k : Nat)) (i := 1) rfl rfl (by walk_at "vis")) bo_add) (ve_bi (va_cons W va_nil) rfl N.len boot_len (fo_lenS (by decide))) (bo_mod (by decide))) (d1 := .int (((a + k) % 4 : Nat) : Int)) rfl) (fun _ _ => rfl) (xo_str (by decide) (at_way (Nat.mod_lt _ (by decide))))) kQ
theorem int_digit {n : Nat} (h1 : 1 ≤ n) (h2 : n ≤ 9) : PySem.intText? (tx [48 + n]) = some (n : Int) := by
  match n, h1, h2 with
  | 1, _, _ => decide +kernel
  | 2, _, _ => decide +kernel
  | 3, _, _ => decide +kernel
  | 4, _, _ => decide +kernel
  | 5, _, _ => decide +kernel
  | 6, _, _ => decide +kernel
  | 7, _, _ => decide +kernel
  | 8, _, _ => decide +kernel
  | 9, _, _ => decide +kernel
theorem scRun : FnScope ["row", "way", "gone", "order"] ["row", "way"] (defScope s_one_run) := ⟨rfl, rfl, rfl, by decide +kernel, rfl, by decide +kernel, by decide +kernel⟩
def RRun (ds : List D) (d : D) : Prop := ∃ (l : List Od) (a : Nat), ds = [.str (tx (rowC l)), wD a] ∧ Row l ∧ a < 4 ∧ d = .tup [.str (wsT (run l a)), wD (fin l a)]
theorem ok_oneRun (Fn : Fun K "one_run" "one_run" s_one_run f fd) (N : Free mg) (T : Tbl K w mg) (U : Df γ P w K mg base 1 "turned_way" ["way", "turns"] (spR K RTurn)) : FnG γ P w K mg base CX0 2 f fd ["row", "way"] (spR K RRun) := by
  refine okR Fn scRun (fun ds d ⟨l, a, e, _⟩ => by rw [e]; rfl) fun cdv A outer s H B ow ds d Q E hgd hr hR kQ => ?_
  obtain ⟨l, a, rfl, rl, ha, rfl⟩ := hR
  obtain ⟨q, es, n, t1, t2, t3, mT, kd, h1, h2, h3, h4⟩ := T.turns
  refine' rn_set (i := 2) (d := .str (wsT [])) scRun.nd rfl (by first | exact .inl rfl | exact .inr rfl) (ve_is ve_str rfl) ?k
  case k =>
  intro B1 e1
  refine' rn_for (ds := wsD l) (g := gName 3) (f := fun d env => env.set 3 (some d)) (fun i env ow' => ow = ow' ∧ ∃ z : Option D, env = [some (.str (tx (rowC l))), some (wD (fin (l.take i) a)), some (.str (wsT (run (l.take i) a))), z]) PassesOwn.never rfl ?hi (pg_name scRun.nd rfl (.inl rfl)) (fun ow d _ => gd_name 3) ⟨rfl, none, rfl⟩ ?hs ?hd
  case hi => exact vi_list (ve_words rl (ve_var (d := .str (tx (rowC l))) (i := 0) rfl rfl (by walk_at "vis")) ve_str)
  case hd =>
    rintro B2 env' ow' e2 ⟨rfl, z, rfl⟩
    have e : l.take (wsD l).length = l := List.take_of_length_le (by unfold wsD; rw [List.length_map]; exact Nat.le_refl _)
    rw [e]
    exact rn_ret (ve_tup (va_cons (ve_var (d := .str (wsT (run l a))) (i := 2) rfl rfl (by walk_at "vis")) (va_cons (ve_var (d := wD (fin l a)) (i := 1) rfl rfl (by walk_at "vis")) va_nil)) (by show 2 ≤ 100000; decide)) (kQ.ex (e1.trans e2))
  case hs =>
    rintro B2 i d env' ow' e2 hd ⟨rfl, z, rfl⟩
    unfold wsD at hd
    rw [List.getElem?_map] at hd
    cases y : l[i]? with
    | none => rw [y] at hd; cases hd
    | some o =>
      rw [y] at hd
      obtain rfl := Option.some.inj hd
      have ho := rl.ok o (List.mem_of_getElem? y)
      have tk : l.take (i + 1) = l.take i ++ [o] := by rw [List.take_add_one, y]; rfl
      have fl : fin (l.take i) a < 4 := fin_lt ha
      have lenr : (run (l.take i) a).length ≤ 72 := by
        have z1 : l = l.take i ++ l.drop i := (List.take_append_drop i l).symm
        have z2 : (run l a).length ≤ 72 := by rw [run_len]; exact rl.stp
        rw [z1, run_app, List.length_append] at z2
        omega
      refine' rn_if (t := !o.isGo) ?c ?c1 ?c2
      case c => exact vt_comp (ve_var (d := .str (tx [oc o])) (i := 3) rfl rfl (by walk_at "vis")) (ve_gobj rfl mT) (turn_in ho rfl kd h1 h2 h3 h4)
      case c1 =>
        intro t B3 e3
        cases o with
        | g m => cases t
        | t k =>
          obtain ⟨a1, a2⟩ := (ho : 1 ≤ k ∧ k ≤ 3)
          refine' rn_set (i := 1) (d := wD ((fin (l.take i) a + k) % 4)) scRun.nd rfl (by first | exact .inl rfl | exact .inr rfl) ?u ?k
          case u => exact ve_D U hgd hr rfl (va_cons (ve_var (d := wD (fin (l.take i) a)) (i := 1) rfl rfl (by walk_at "vis")) (va_cons (ve_sub (ve_gobj rfl mT) (ve_var (d := .str (tx [oc (.t k)])) (i := 3) rfl rfl (by walk_at "vis")) (fun _ _ => rfl) (turn_at a1 a2 kd h1 h2 h3)) va_nil)) ⟨_, k, rfl, fl, rfl⟩
          case k =>
          intro B4 e4
          refine rn_go ?_
          refine rn_nextW ⟨rfl, some (.str (tx [oc (.t k)])), ?_⟩ (e3.trans e4)
          rw [tk, run_app, fin_app]
          show _ = [some (.str (tx (rowC l))), some (wD ((fin (l.take i) a + k) % 4)), some (.str (wsT (run (l.take i) a ++ []))), some (.str (tx [oc (.t k)]))]
          rw [List.append_nil]
          rfl
      case c2 =>
        intro t B3 e3
        cases o with
        | t k => cases t
        | g m =>
          obtain ⟨a1, a2⟩ := (ho : 1 ≤ m ∧ m ≤ 9)
          refine' rn_set (i := 2) (d := .str (wsT (run (l.take i) a ++ List.replicate m (fin (l.take i) a)))) scRun.nd rfl (by first | exact .inl rfl | exact .inr rfl) ?u ?k
          case u =>
            refine ve_is (ve_bin (ve_var (d := .str (wsT (run (l.take i) a))) (i := 2) rfl rfl (by walk_at "vis")) (ve_bin (ve_var (d := wD (fin (l.take i) a)) (i := 1) rfl rfl (by walk_at "vis")) (ve_ty (id := "int") (va_cons (ve_var (d := .str (tx [oc (.g m)])) (i := 3) rfl rfl (by walk_at "vis")) va_nil) rfl N.int boot_int (to_intS (int_digit a1 a2) (by rw [tx_len]; show 1 ≤ 640; decide))) (bo_mulX (by simp; omega) (by omega))) (bo_catX ?_)) ?_
            · rw [List.length_map, List.length_flatten]
              simp
              omega
            · show D.str (tx ((run (l.take i) a).map wc ++ (List.replicate m [wc (fin (l.take i) a)]).flatten)) = D.str (tx ((run (l.take i) a ++ List.replicate m (fin (l.take i) a)).map wc))
              rw [List.map_append, List.map_replicate]
              have z : ∀ (n c : Nat), (List.replicate n [c]).flatten = List.replicate n c := fun n c => by
                induction n with
                | zero => rfl
                | succ n ih => rw [List.replicate_succ, List.flatten_cons, ih, List.replicate_succ]; rfl
              rw [z]
          case k =>
          intro B4 e4
          refine rn_go ?_
          refine rn_nextW ⟨rfl, some (.str (tx [oc (.g m)])), ?_⟩ (e3.trans e4)
          rw [tk, run_app, fin_app]
          show _ = [some (.str (tx (rowC l))), some (wD (fin (l.take i) a)), some (.str (wsT (run (l.take i) a ++ (List.replicate m (fin (l.take i) a) ++ [])))), some (.str (tx [oc (.g m)]))]
          rw [List.append_nil]
          rfl
end
end
section
open Wk TL
theorem cutS_to {l : List Nat} {n : Nat} (h : n ≤ l.length) : cutS (tx l) none (some (n : Int)) = tx (l.take n) := by
  unfold cutS
  rw [tx_cps, tx_len, HT.sIx_nat, HT.sIx_none, Nat.min_eq_left h, List.drop_zero, Nat.sub_zero]
  rfl
theorem rep_range (g : Nat → Nat) (p : Nat) (hp : 0 < p) : ∀ k : Nat, (List.replicate k ((List.range p).map g)).flatten = (List.range (k * p)).map fun i => g (i % p)
  | 0 => by rw [Nat.zero_mul]; rfl
  | k + 1 => by
    have e : (List.replicate (k + 1) ((List.range p).map g)).flatten = (List.replicate k ((List.range p).map g)).flatten ++ (List.range p).map g := by
      rw [List.replicate_succ', List.flatten_append, List.flatten_singleton]
    rw [e, rep_range g p hp k, Nat.succ_mul, List.range_add, List.map_append, List.map_map]
    congr 1
    apply List.map_congr_left
    intro i hi
    have lt := List.mem_range.mp hi
    show g i = g ((k * p + i) % p)
    rw [Nat.add_comm, Nat.add_mul_mod_self_right, Nat.mod_eq_of_lt lt]
theorem rep_iff {f : Nat → Nat} {p M : Nat} (hp : 0 < p) (dv : p ∣ M) (hf : ∀ t, f t < 4) (hM : ∀ t, f (t + M) = f t) (h0 : 0 < M) :
    ((List.replicate (M / p) ((List.range p).map fun t => wc (f t))).flatten = (List.range M).map fun t => wc (f t)) ↔ ∀ t, f (t + p) = f t := by
  rw [rep_range _ p hp, Nat.div_mul_cancel dv]
  constructor
  · intro h t
    have at_ : ∀ i, i < M → f i = f (i % p) := fun i hi => by
      have z := congrArg (fun l : List Nat => l[i]?) h
      simp only [List.getElem?_map, List.getElem?_range hi, Option.map_some] at z
      exact (wc_inj (hf _) (hf _) (Option.some.inj z)).symm
    have all : ∀ x, f x = f (x % p) := fun x => by
      rw [per_mod hM x, at_ _ (Nat.mod_lt _ h0), Nat.mod_mod_of_dvd x dv]
    rw [all (t + p), Nat.add_mod_right, ← all t]
  · intro h
    apply List.map_congr_left
    intro i _
    show wc (f (i % p)) = wc (f i)
    rw [per_mod h i]
theorem int_dvd {a b : Nat} : ((a : Int) % (b : Int) = 0) ↔ b ∣ a := by
  have e : (a : Int) % (b : Int) = ((a % b : Nat) : Int) := rfl
  rw [e]
  exact ⟨fun h => Nat.dvd_of_mod_eq_zero (by omega), fun h => by have := Nat.mod_eq_zero_of_dvd h; omega⟩
theorem wsT_len (l : List Nat) : (wsT l).length = l.length := by
  unfold wsT
  rw [tx_len, List.length_map]
section
variable {γ : Gds} {P : Program} {w : World} {K : PySem.W.Frag} {mg : Str → Option Value} {base : Heap} {f : Addr} {fd : FuncData}
theorem scGone : FnScope ["row", "way", "gone", "now", "more", "many", "period"] ["row", "way"] (defScope s_ways_gone) := ⟨rfl, rfl, rfl, by decide +kernel, rfl, by decide +kernel, by decide +kernel⟩
def RGone (ds : List D) (d : D) : Prop := ∃ (l : List Od) (a p : Nat), ds = [.str (tx (rowC l)), wD a] ∧ Row l ∧ a < 4 ∧ IsPer (way l a) p ∧ d = .str (wsT ((List.range p).map (way l a)))
theorem ok_gone (Fn : Fun K "ways_gone" "ways_gone" s_ways_gone f fd) (N : Free mg) (U : Df γ P w K mg base 2 "one_run" ["row", "way"] (spR K RRun)) : FnG γ P w K mg base CX0 3 f fd ["row", "way"] (spR K RGone) := by
  refine okR Fn scGone (fun ds d ⟨l, a, p, e, _⟩ => by rw [e]; rfl) fun cdv A outer s H B ow ds d Q E hgd hr hR kQ => ?_
  obtain ⟨l, a, p0, rfl, rl, ha, ip, rfl⟩ := hR
  have pos := rl.pos
  have s72 := rl.stp
  have ip0 := ip.pos
  refine' rn_two (d1 := .str (wsT (runs l 1 a))) (d2 := wD (fins l 1 a)) 2 3 rfl scGone.nd rfl rfl (.inl rfl) (.inl rfl) ?s1 ?s2
  case s1 =>
    refine ve_is (ve_D U hgd hr rfl (va_cons (ve_var (d := .str (tx (rowC l))) (i := 0) rfl rfl (by walk_at "vis")) (va_cons (ve_var (d := wD a) (i := 1) rfl rfl (by walk_at "vis")) va_nil)) ⟨l, a, rfl, rl, ha, rfl⟩) ?_
    show D.tup [.str (wsT (run l a)), wD (fin l a)] = D.tup [.str (wsT (run l a ++ [])), wD (fin l a)]
    rw [List.append_nil]
  case s2 =>
  intro B1 e1
  refine' rn_while (fun m env ow' => ow = ow' ∧ ∃ (n : Nat) (z : Option D), 1 ≤ n ∧ n ≤ 4 ∧ m = 4 - n ∧ env = [some (.str (tx (rowC l))), some (wD a), some (.str (wsT (runs l n a))), some (wD (fins l n a)), z, none, none]) PassesOwn.never ⟨3, rfl, 1, none, Nat.le_refl _, by decide, rfl, rfl⟩ ?hs
  case hs =>
    rintro B2 m env' ow' e2 ⟨rfl, n, z, n1, n4, rfl, rfl⟩
    have fl : fins l n a < 4 := fins_lt l n a ha
    refine ⟨!decide (tx [wc (fins l n a)] = tx [wc a]), ?_, fun t B3 e3 => ?_, fun t B3 e3 => ?_⟩
    · exact vt_comp (ve_var (d := wD (fins l n a)) (i := 3) rfl rfl (by walk_at "vis")) (ve_var (d := wD a) (i := 1) rfl rfl (by walk_at "vis")) co_neS
    · have n3 : n < 4 := by
        apply Classical.byContradiction
        intro q
        obtain rfl : n = 4 := by omega
        rw [fins_four l ha] at t
        simp at t
      refine' rn_two (d1 := .str (wsT (run l (fins l n a)))) (d2 := wD (fin l (fins l n a))) 4 3 rfl scGone.nd rfl rfl (.inl rfl) (.inl rfl) ?s1 ?s2
      case s1 => exact ve_D U hgd hr rfl (va_cons (ve_var (d := .str (tx (rowC l))) (i := 0) rfl rfl (by walk_at "vis")) (va_cons (ve_var (d := wD (fins l n a)) (i := 3) rfl rfl (by walk_at "vis")) va_nil)) ⟨l, _, rfl, rl, fl, rfl⟩
      case s2 =>
      intro B4 e4
      have one : runs l (n + 1) a = runs l n a ++ run l (fins l n a) := by
        rw [runs_add]
        show _ = _
        congr 1
        show run l (fins l n a) ++ [] = _
        rw [List.append_nil]
      have onef : fins l (n + 1) a = fin l (fins l n a) := fins_add l n 1 a
      have bound : n * stp l ≤ 4 * 72 := Nat.mul_le_mul n4 s72
      refine' rn_set (i := 2) (d := .str (wsT (runs l (n + 1) a))) scGone.nd rfl (by first | exact .inl rfl | exact .inr rfl) ?u ?k
      case u =>
        refine ve_is (ve_bin (ve_var (d := .str (wsT (runs l n a))) (i := 2) rfl rfl (by walk_at "vis")) (ve_var (d := .str (wsT (run l (fins l n a)))) (i := 4) rfl rfl (by walk_at "vis")) (bo_catX ?_)) ?_
        · rw [List.length_map, List.length_map, runs_len, run_len]
          omega
        · rw [one]
          unfold wsT
          rw [List.map_append]
      case k =>
      intro B5 e5
      refine rn_nextW ?_ (e3.trans (e4.trans e5))
      refine ⟨4 - (n + 1), by omega, rfl, n + 1, some (.str (wsT (run l (fins l n a)))), by omega, by omega, rfl, ?_⟩
      rw [onef]
      rfl
    · have back : fins l n a = a := by
        have y : tx [wc (fins l n a)] = tx [wc a] := by
          simpa using t
        exact wc_inj fl ha (List.cons.inj (tx_inj.mp y)).1
      obtain ⟨M, hM⟩ : ∃ M, M = n * stp l := ⟨_, rfl⟩
      have perM : ∀ t, way l a (t + M) = way l a t := by rw [hM]; exact way_per pos back
      have M0 : 0 < M := by rw [hM]; exact Nat.mul_pos (by omega) pos
      have Mle : M ≤ 288 := by
        have : n * stp l ≤ 4 * 72 := Nat.mul_le_mul n4 s72
        omega
      have rm : runs l n a = (List.range M).map (way l a) := by rw [hM]; exact runs_map pos n a
      have wl : ∀ t, way l a t < 4 := way_lt pos ha
      have pM : p0 ∣ M := ip.dvd perM
      have p0M : p0 ≤ M := Nat.le_of_dvd M0 pM
      have cod : wsT ((List.range M).map (way l a)) = tx ((List.range M).map fun t => wc (way l a t)) := by
        unfold wsT
        rw [List.map_map]
        rfl
      rw [rm, back]
      have glen : (wsT ((List.range M).map (way l a))).length = M := by rw [wsT_len, List.length_map, List.length_range]
      refine' rn_set (i := 5) (d := .int (M : Nat)) scGone.nd rfl (by first | exact .inl rfl | exact .inr rfl) ?u ?k
      case u => exact ve_is (ve_bi (va_cons (ve_var (d := .str (wsT ((List.range M).map (way l a)))) (i := 2) rfl rfl (by walk_at "vis")) va_nil) rfl N.len boot_len (fo_lenS (by rw [glen]; omega))) (by rw [glen])
      case k =>
      intro B4 e4
      have cut : ∀ r : Nat, r ≤ M → ∀ {env : List (Option D)} {e e2 : Expr} {pos p2 : Pos} {X : Cx} {ow : Ow}, Ve X e env ow (.str (wsT ((List.range M).map (way l a)))) → Ve X e2 env ow (.int (r : Nat)) → Ve X (.Subscript e (.Slice none (some e2) none p2) pos) env ow (.str (tx ((List.range r).map fun t => wc (way l a t)))) := fun r hr2 {env e e2 pos p2 X ow} h1 h2 => ve_is (ve_sliceS h1 vp_none (vp_some h2) (by rw [glen]; omega)) (by
        rw [cod, cutS_to (by rw [List.length_map, List.length_range]; exact hr2), ← List.map_take, List.take_range, Nat.min_eq_left hr2])
      refine' rn_for (ds := rangeD 1 ((M : Int) - 1).toNat) (g := gName 6) (f := fun d env => env.set 6 (some d)) (fun i env ow' => ow = ow' ∧ (∀ m, 1 ≤ m → m ≤ i → m ∣ M → ¬ ∀ t, way l a (t + m) = way l a t) ∧ ∃ y : Option D, env = [some (.str (tx (rowC l))), some (wD a), some (.str (wsT ((List.range M).map (way l a)))), some (wD a), z, some (.int (M : Nat)), y]) PassesOwn.never rfl ?hi (pg_name scGone.nd rfl (.inl rfl)) (fun ow d _ => gd_name 6) ⟨rfl, fun m h1 h2 => by omega, none, rfl⟩ ?hs2 ?hd
      case hi => exact vi_range2 rfl N.range ve_int (ve_var (d := .int (M : Nat)) (i := 5) rfl rfl (by walk_at "vis")) (by omega)
      case hd =>
        rintro B5 env2 ow2 e5 ⟨rfl, no, y, rfl⟩
        rw [rangeD_len] at no
        obtain rfl : p0 = M := by
          apply Classical.byContradiction
          intro ne
          exact no p0 (by omega) (by omega) pM ip.per
        exact rn_ret (ve_var (d := .str (wsT ((List.range p0).map (way l a)))) (i := 2) rfl rfl (by walk_at "vis")) (kQ.ex (e1.trans (e2.trans (e3.trans (e4.trans e5)))))
      case hs2 =>
        rintro B5 i d env2 ow2 e5 hd ⟨rfl, no, y, rfl⟩
        obtain ⟨hi, rfl⟩ := rangeD_get hd
        have er : (1 : Int) + (i : Int) = ((i + 1 : Nat) : Int) := by omega
        rw [er]
        have lt : i + 1 < M := by omega
        obtain ⟨bb, hbb⟩ : ∃ bb : Bool, bb = true ↔ (i + 1 ∣ M ∧ ∀ t, way l a (t + (i + 1)) = way l a t) := by
          by_cases q : i + 1 ∣ M ∧ ∀ t, way l a (t + (i + 1)) = way l a t
          · exact ⟨true, fun _ => q, fun _ => rfl⟩
          · exact ⟨false, fun h => Bool.noConfusion h, fun h => absurd h q⟩
        refine' rn_if (t := decide ((M : Int) % ((i + 1 : Nat) : Int) = 0) && bb) ?c ?c1 ?c2
        case c =>
          refine vt_w (vw_and ?a1 (fun q => vw_and1 ?a2) (pw_all_and _ _))
          case a1 => exact vt_comp (ve_bin (ve_var (d := .int (M : Nat)) (i := 5) rfl rfl (by walk_at "vis")) (ve_var (d := .int ((i + 1 : Nat) : Int)) (i := 6) rfl rfl (by walk_at "vis")) (bo_mod (by omega))) ve_int co_eqI
          case a2 =>
            have dv : i + 1 ∣ M := int_dvd.mp (of_decide_eq_true q)
            refine vt_is (vt_comp (ve_bin (cut (i + 1) (by omega) (ve_var (i := 2) rfl rfl (by walk_at "vis")) (ve_var (d := .int ((i + 1 : Nat) : Int)) (i := 6) rfl rfl (by walk_at "vis"))) (ve_is (ve_bin (ve_var (d := .int (M : Nat)) (i := 5) rfl rfl (by walk_at "vis")) (ve_var (d := .int ((i + 1 : Nat) : Int)) (i := 6) rfl rfl (by walk_at "vis")) (bo_div (by omega) (by omega))) (d1 := .int ((M / (i + 1) : Nat) : Int)) rfl) (bo_mulX ?b1 ?b2)) (ve_is (ve_var (d := .str (wsT ((List.range M).map (way l a)))) (i := 2) rfl rfl (by walk_at "vis")) (by rw [cod])) co_eqS) ?b3
            case b1 =>
              rw [List.length_map, List.length_range, Nat.mul_div_cancel' dv]
              omega
            case b2 =>
              have := Nat.div_le_self M (i + 1)
              omega
            case b3 =>
              apply Bool.eq_iff_iff.mpr
              rw [decide_eq_true_iff, tx_inj, rep_iff (Nat.succ_pos i) dv wl perM M0, hbb]
              exact ⟨fun h => ⟨dv, h⟩, fun h => h.2⟩
        case c1 =>
          intro t B6 e6
          obtain ⟨dv, pr⟩ := hbb.mp ((Bool.and_eq_true _ _).mp t).2
          obtain rfl : p0 = i + 1 := by
            have le := ip.least (i + 1) (Nat.succ_pos i) pr
            apply Classical.byContradiction
            intro ne
            exact no p0 (by omega) (by omega) pM ip.per
          exact rn_ret (ve_is (cut (i + 1) (by omega) (ve_var (i := 2) rfl rfl (by walk_at "vis")) (ve_var (d := .int ((i + 1 : Nat) : Int)) (i := 6) rfl rfl (by walk_at "vis"))) (by unfold wsT; rw [List.map_map]; rfl)) (kQ.ex (e1.trans (e2.trans (e3.trans (e4.trans (e5.trans e6))))))
        case c2 =>
          intro t B6 e6
          refine rn_go ?_
          refine rn_nextW ⟨rfl, fun m h1 h2 dv pr => ?_, _, rfl⟩ e6
          by_cases q : m = i + 1
          · subst q
            have z : ((M : Int) % ((i + 1 : Nat) : Int) = 0) := int_dvd.mpr dv
            rw [decide_eq_true z, Bool.true_and, hbb.mpr ⟨dv, pr⟩] at t
            cases t
          · exact no m h1 (by omega) dv pr
end
end
section
open Wk TL
section
variable {γ : Gds} {P : Program} {w : World} {K : PySem.W.Frag} {mg : Str → Option Value} {base : Heap} {f : Addr} {fd : FuncData}
theorem scOff : FnScope ["ways", "x", "y", "offsets", "way", "dx", "dy"] ["ways"] (defScope s_offsets_along) := ⟨rfl, rfl, rfl, by decide +kernel, rfl, by decide +kernel, by decide +kernel⟩
def offs (g : Nat → Nat) (n : Nat) : List D := (List.range n).map fun i => sq (px g i) (py g i)
theorem offs_succ (g : Nat → Nat) (n : Nat) : offs g (n + 1) = offs g n ++ [sq (px g n) (py g n)] := by
  unfold offs
  rw [List.range_succ, List.map_append]
  rfl
theorem offs_len (g : Nat → Nat) (n : Nat) : (offs g n).length = n := by
  unfold offs
  rw [List.length_map, List.length_range]
def ROff (ds : List D) (d : D) : Prop := ∃ (g : Nat → Nat) (p : Nat), ds = [.str (wsT ((List.range p).map g))] ∧ (∀ t, g t < 4) ∧ p ≤ 300 ∧ d = .lst (offs g (p + 1))
theorem ok_offsets (Fn : Fun K "offsets_along" "offsets_along" s_offsets_along f fd) (T : Tbl K w mg) : FnG γ P w K mg base CX0 1 f fd ["ways"] (spR K ROff) := by
  refine okR Fn scOff (fun ds d ⟨g, p, e, _⟩ => by rw [e]; rfl) fun cdv A outer s H B ow ds d Q E hgd hr hR kQ => ?_
  obtain ⟨g, p, rfl, hg, hp, rfl⟩ := hR
  obtain ⟨q, es, n, mM, kd, _, hv⟩ := T.moves
  refine' rn_two (d1 := .int 0) (d2 := .int 0) 1 2 rfl scOff.nd rfl rfl (.inl rfl) (.inl rfl) (ve_tup (va_cons ve_int (va_cons ve_int va_nil)) (by show 2 ≤ 100000; decide)) ?p3
  case p3 =>
  intro B1 e1
  refine' rn_newL (j := 3) (ds := [sq 0 0]) scOff.nd rfl (.inl rfl) ?l1 (by decide) ?l2
  case l1 => exact va_cons (ve_tup (va_cons (ve_var (d := .int 0) (i := 1) rfl rfl (by walk_at "vis")) (va_cons (ve_var (d := .int 0) (i := 2) rfl rfl (by walk_at "vis")) va_nil)) (by decide)) va_nil
  case l2 =>
  intro B2 o e2 ho
  have len : (((List.range p).map g).map wc).length = p := by rw [List.length_map, List.length_map, List.length_range]
  refine' rn_for (ds := (((List.range p).map g).map wc).map fun c => .str (tx [c])) (g := gName 4) (f := fun d env => env.set 4 (some d)) (fun i env ow' => ow' = ou ow o (.lst (offs g (i + 1))) ∧ ∃ y1 y2 y3 : Option D, env = [some (.str (wsT ((List.range p).map g))), some (.int (px g i)), some (.int (py g i)), some (.ob (.ref o)), y1, y2, y3]) PassesOwn.never rfl ?hi (pg_name scOff.nd rfl (.inl rfl)) (fun ow d _ => gd_name 4) ⟨rfl, none, none, none, rfl⟩ ?hs ?hd
  case hi => exact vi_str (ve_var (d := .str (wsT ((List.range p).map g))) (i := 0) rfl rfl (by walk_at "vis"))
  case hd =>
    rintro B3 env' ow' e3 ⟨rfl, y1, y2, y3, rfl⟩
    rw [List.length_map, len]
    refine' rn_freeze (j := 3) (q := o) rfl ou_same ?z1
    intro B4 e4
    refine rn_retS (ve_var (d := .lst (offs g (p + 1))) (i := 3) rfl rfl (by walk_at "vis")) (fun b u hb => ?_) (kQ.ex (e1.trans (e2.trans (e3.trans e4))))
    have nb : b ≠ o := fun z => by rw [z, ho] at hb; cases hb
    rw [oz_ne nb, ou_ne nb]
    exact hb
  case hs =>
    rintro B3 i d env' ow' e3 hd ⟨rfl, y1, y2, y3, rfl⟩
    have hi : i < p := by
      have z := (List.getElem?_eq_some_iff.mp hd).1
      rw [List.length_map, len] at z
      exact z
    obtain rfl : d = wD (g i) := by
      rw [List.getElem?_map, List.getElem?_map, List.getElem?_map, List.getElem?_range hi] at hd
      exact (Option.some.inj hd).symm
    obtain ⟨u, hu, ru⟩ := hv (g i) (hg i)
    refine' rn_two (d1 := .int (mx (g i))) (d2 := .int (my (g i))) 5 6 rfl scOff.nd rfl rfl (.inl rfl) (.inl rfl) ?s1 ?s2
    case s1 => exact ve_sub (ve_gobj rfl mM) (ve_var (d := wD (g i)) (i := 4) rfl rfl (by walk_at "vis")) (fun _ _ => rfl) (xo_kd (v := .ref u) ⟨es, n, _, kd.at_, kd.lit, hu, rfl⟩ ru)
    case s2 =>
    intro B4 e4
    refine' rn_par (i := 1) (j := 2) (d1 := .int (px g (i + 1))) (d2 := .int (py g (i + 1))) rfl scOff.nd rfl rfl (by decide) rfl rfl ?p1 ?p2 ?p3 ?p4 rfl rfl ⟨_, ps_par rfl scOff.nd rfl rfl (by decide) rfl rfl pa_can rfl, rfl⟩
    case p1 => exact ve_is (ve_bin (ve_var (d := .int (px g i)) (i := 1) rfl rfl (by walk_at "vis")) (ve_var (d := .int (mx (g i))) (i := 5) rfl rfl (by walk_at "vis")) bo_add) rfl
    case p2 => exact ve_is (ve_bin (ve_var (d := .int (py g i)) (i := 2) rfl rfl (by walk_at "vis")) (ve_var (d := .int (my (g i))) (i := 6) rfl rfl (by walk_at "vis")) bo_add) rfl
    case p4 => rfl
    case p3 =>
    intro B5 e5
    refine' rn_app (q := o) (d := sq (px g (i + 1)) (py g (i + 1))) ?a1 ou_same ?a2 (by rw [offs_len]; omega) ?a3
    case a1 => exact ve_var (i := 3) rfl rfl (by walk_at "vis")
    case a2 => exact ve_tup (va_cons (ve_var (d := .int (px g (i + 1))) (i := 1) rfl rfl (by walk_at "vis")) (va_cons (ve_var (d := .int (py g (i + 1))) (i := 2) rfl rfl (by walk_at "vis")) va_nil)) (by show 2 ≤ 100000; decide)
    case a3 =>
    intro B6 e6
    refine rn_nextW ⟨?_, _, _, _, rfl⟩ (e4.trans (e5.trans e6))
    rw [ou_ou, ← offs_succ]
theorem scLane : FnScope ["square", "drift", "x", "y", "dx", "dy", "place"] ["square", "drift"] (defScope s_lane_of) := ⟨rfl, rfl, rfl, by decide +kernel, rfl, by decide +kernel, by decide +kernel⟩
def laneP (x y dx dy : Int) : Int := if dx = 0 then (if dy = 0 then 0 else y.fdiv dy) else x.fdiv dx
def laneX (x y dx dy : Int) : Int := x - laneP x y dx dy * dx
def laneY (x y dx dy : Int) : Int := y - laneP x y dx dy * dy
def RLane (ds : List D) (d : D) : Prop := ∃ x y dx dy : Int, ds = [sq x y, sq dx dy] ∧ dx.natAbs ≤ 1000000 ∧ dy.natAbs ≤ 1000000 ∧ d = .tup [.tupF [.int (laneX x y dx dy), .int (laneY x y dx dy)], .int (laneP x y dx dy)]
theorem ok_laneOf (Fn : Fun K "lane_of" "lane_of" s_lane_of f fd) : FnG γ P w K mg base CX0 1 f fd ["square", "drift"] (spR K RLane) := by
  refine okR Fn scLane (fun ds d ⟨x, y, dx, dy, e, _⟩ => by rw [e]; rfl) fun cdv A outer s H B ow ds d Q E hgd hr hR kQ => ?_
  obtain ⟨x, y, dx, dy, rfl, h1, h2, rfl⟩ := hR
  refine' rn_two (d1 := .int x) (d2 := .int y) 2 3 rfl scLane.nd rfl rfl (.inl rfl) (.inl rfl) (ve_var (d := sq x y) (i := 0) rfl rfl (by walk_at "vis")) ?s1
  case s1 =>
  intro B1 e1
  refine' rn_two (d1 := .int dx) (d2 := .int dy) 4 5 rfl scLane.nd rfl rfl (.inl rfl) (.inl rfl) (ve_var (d := sq dx dy) (i := 1) rfl rfl (by walk_at "vis")) ?s2
  case s2 =>
  intro B2 e2
  refine' rn_set (i := 6) (d := .int 0) scLane.nd rfl (by first | exact .inl rfl | exact .inr rfl) ve_int ?s3
  case s3 =>
  intro B3 e3
  have last : ∀ B4, Ex B3 B4 → ∀ pl : Int, pl = laneP x y dx dy → Rn (cxOf CX0 P w K mg base ["square", "drift", "x", "y", "dx", "dy", "place"] "lane_of" (defScope s_lane_of) f cdv A outer s H E).nox B4 ((defBody s_lane_of).drop 4) { nx := fun _ H' => Q .non H', rt := Q } [some (sq x y), some (sq dx dy), some (.int x), some (.int y), some (.int dx), some (.int dy), some (.int pl)] ow := fun B4 e4 pl hpl => by
    subst hpl
    refine rn_ret (ve_tup (va_cons (ve_tupF (va_cons (ve_bin (ve_var (d := .int x) (i := 2) rfl rfl (by walk_at "vis")) (ve_bin (ve_var (d := .int (laneP x y dx dy)) (i := 6) rfl rfl (by walk_at "vis")) (ve_var (d := .int dx) (i := 4) rfl rfl (by walk_at "vis")) (bo_mulR (by omega))) bo_sub) (va_cons (ve_bin (ve_var (d := .int y) (i := 3) rfl rfl (by walk_at "vis")) (ve_bin (ve_var (d := .int (laneP x y dx dy)) (i := 6) rfl rfl (by walk_at "vis")) (ve_var (d := .int dy) (i := 5) rfl rfl (by walk_at "vis")) (bo_mulR (by omega))) bo_sub) va_nil)) (by show 2 ≤ 100000; decide)) (va_cons (ve_var (d := .int (laneP x y dx dy)) (i := 6) rfl rfl (by walk_at "vis")) va_nil)) (by show 2 ≤ 100000; decide)) (kQ.ex (e1.trans (e2.trans (e3.trans e4))))
  refine' rn_if (t := !decide (dx = 0)) (vt_comp (ve_var (d := .int dx) (i := 4) rfl rfl (by walk_at "vis")) ve_int co_neI) ?c1 ?c2
  case c1 =>
    intro t B4 e4
    have ne : dx ≠ 0 := by simpa using t
    refine' rn_set (i := 6) (d := .int (x.fdiv dx)) scLane.nd rfl (by first | exact .inl rfl | exact .inr rfl) (ve_bin (ve_var (d := .int x) (i := 2) rfl rfl (by walk_at "vis")) (ve_var (d := .int dx) (i := 4) rfl rfl (by walk_at "vis")) (bo_fdiv ne (by omega))) ?k
    case k =>
    intro B5 e5
    refine rn_go ?_
    exact last B5 (e4.trans e5) _ (by unfold laneP; rw [if_neg ne])
  case c2 =>
    intro t B4 e4
    have eq : dx = 0 := by simpa using t
    refine' rn_if (t := !decide (dy = 0)) (vt_comp (ve_var (d := .int dy) (i := 5) rfl rfl (by walk_at "vis")) ve_int co_neI) ?d1 ?d2
    case d1 =>
      intro t2 B5 e5
      have ne : dy ≠ 0 := by simpa using t2
      refine' rn_set (i := 6) (d := .int (y.fdiv dy)) scLane.nd rfl (by first | exact .inl rfl | exact .inr rfl) (ve_bin (ve_var (d := .int y) (i := 3) rfl rfl (by walk_at "vis")) (ve_var (d := .int dy) (i := 5) rfl rfl (by walk_at "vis")) (bo_fdiv ne (by omega))) ?k
      case k =>
      intro B6 e6
      refine rn_go (rn_go ?_)
      exact last B6 (e4.trans (e5.trans e6)) _ (by unfold laneP; rw [if_pos eq, if_neg ne])
    case d2 =>
      intro t2 B5 e5
      have eq2 : dy = 0 := by simpa using t2
      refine rn_go (rn_go ?_)
      exact last B5 (e4.trans e5) 0 (by unfold laneP; rw [if_pos eq, if_pos eq2])
theorem scSqIn : FnScope ["lane", "place", "drift"] ["lane", "place", "drift"] (defScope s_square_in) := ⟨rfl, rfl, rfl, by decide +kernel, rfl, by decide +kernel, by decide +kernel⟩
def RSqIn (ds : List D) (d : D) : Prop := ∃ x y p dx dy : Int, ds = [sq x y, .int p, sq dx dy] ∧ dx.natAbs ≤ 1000000 ∧ dy.natAbs ≤ 1000000 ∧ d = sq (x + p * dx) (y + p * dy)
theorem ok_squareIn (Fn : Fun K "square_in" "square_in" s_square_in f fd) : FnG γ P w K mg base CX0 1 f fd ["lane", "place", "drift"] (spR K RSqIn) := by
  refine okR Fn scSqIn (fun ds d ⟨x, y, p, dx, dy, e, _⟩ => by rw [e]; rfl) fun cdv A outer s H B ow ds d Q E hgd hr hR kQ => ?_
  obtain ⟨x, y, p, dx, dy, rfl, h1, h2, rfl⟩ := hR
  refine rn_ret (ve_tup (va_cons (ve_bin (ve_sub (ve_var (d := sq x y) (i := 0) rfl rfl (by walk_at "vis")) ve_int (fun _ _ => rfl) (xo_tup rfl)) (ve_bin (ve_var (d := .int p) (i := 1) rfl rfl (by walk_at "vis")) (ve_sub (ve_var (d := sq dx dy) (i := 2) rfl rfl (by walk_at "vis")) ve_int (fun _ _ => rfl) (xo_tup (d := .int dx) rfl)) (bo_mulR (by omega))) bo_add) (va_cons (ve_bin (ve_sub (ve_var (d := sq x y) (i := 0) rfl rfl (by walk_at "vis")) ve_int (fun _ _ => rfl) (xo_tup rfl)) (ve_bin (ve_var (d := .int p) (i := 1) rfl rfl (by walk_at "vis")) (ve_sub (ve_var (d := sq dx dy) (i := 2) rfl rfl (by walk_at "vis")) ve_int (fun _ _ => rfl) (xo_tup (d := .int dy) rfl)) (bo_mulR (by omega))) bo_add) va_nil)) (by show 2 ≤ 100000; decide)) kQ
end
end
section
open Wk TL
abbrev Pt := Int × Int
/-- the row of a lane gets one more pair -/
def addK (m : List (Pt × List Pt)) (k p : Pt) : List (Pt × List Pt) := if k ∈ m.map (·.1) then m.map (fun e => if e.1 = k then (e.1, e.2 ++ [p]) else e) else m ++ [(k, [p])]
/-- the lanes of the first n offsets -/
def lanesN (g : Nat → Nat) (dx dy : Int) : Nat → List (Pt × List Pt)
  | 0 => []
  | n + 1 => addK (lanesN g dx dy n) (laneX (px g n) (py g n) dx dy, laneY (px g n) (py g n) dx dy) (laneP (px g n) (py g n) dx dy, (n : Int))
def leB (p q : Pt) : Bool := decide (p.1 < q.1) || (decide (p.1 = q.1) && decide (p.2 ≤ q.2))
theorem leB_iff {p q : Pt} : leB p q = true ↔ leP p q := by
  unfold leB leP
  simp [Bool.or_eq_true, Bool.and_eq_true]
def srt (l : List Pt) : List Pt := l.mergeSort leB
theorem srt_perm (l : List Pt) : (srt l).Perm l := List.mergeSort_perm l leB
theorem srt_sorted (l : List Pt) : (srt l).Pairwise leP := by
  refine (List.pairwise_mergeSort (le := leB) (fun a b c h1 h2 => ?_) (fun a b => ?_) l).imp fun {a b} h => leB_iff.mp h
  · rw [leB_iff] at h1 h2 ⊢
    unfold leP at h1 h2 ⊢
    omega
  · rw [Bool.or_eq_true, leB_iff, leB_iff]
    unfold leP
    omega
def kx (k : Pt) : List Key := [.inl k.1, .inl k.2]
theorem kx_inj {k q : Pt} (h : kx k = kx q) : k = q := by
  injection h with h1 h2
  injection h2 with h3 _
  injection h1 with h4
  injection h3 with h5
  exact Prod.ext h4 h5
def lanesD (m : List (Pt × List Pt)) : List (List Key × D) := m.map fun e => (kx e.1, .tup ((srt e.2).map pF))
/-- an entry of the dict while it is made: its key, where its list stands, and what is in it -/
abbrev En := Pt × Addr × List Pt
def forget (es : List En) : List (Pt × List Pt) := es.map fun e => (e.1, e.2.2)
def entD (es : List En) : List (List Key × D) := es.map fun e => (kx e.1, .ob (.ref e.2.1))
structure Lns (q0 : Addr) (ow ow' : Ow) (es : List En) : Prop where
  dict : ow' q0 = some (.dtp (entD es))
  row : ∀ e ∈ es, ow' e.2.1 = some (.lst (e.2.2.map pF)) ∧ e.2.1 ≠ q0 ∧ ow e.2.1 = none
  adr : (es.map fun e => e.2.1).Nodup
  key : (es.map fun e => e.1).Nodup
  old : ∀ b u, ow b = some u → ow' b = some u
  q0n : ow q0 = none
theorem valT_none {es : List En} {k : Pt} : valT (entD es) (kx k) = none → k ∉ es.map (fun e => e.1) := by
  induction es with
  | nil => intro _; simp
  | cons e es ih =>
    intro h
    unfold entD at h ih
    rw [List.map_cons, valT_cons] at h
    by_cases z : kx e.1 = kx k
    · rw [if_pos z] at h; cases h
    · rw [if_neg z] at h
      simp only [List.map_cons, List.mem_cons, not_or]
      exact ⟨fun y => z (by rw [y]), ih h⟩
theorem valT_some {es : List En} {k : Pt} {d : D} : valT (entD es) (kx k) = some d → ∃ e ∈ es, e.1 = k ∧ d = .ob (.ref e.2.1) := by
  induction es with
  | nil => intro h; cases h
  | cons e es ih =>
    intro h
    unfold entD at h ih
    rw [List.map_cons, valT_cons] at h
    by_cases z : kx e.1 = kx k
    · rw [if_pos z] at h
      exact ⟨e, List.mem_cons_self .., kx_inj z, (Option.some.inj h).symm⟩
    · rw [if_neg z] at h
      obtain ⟨e2, h1, h2⟩ := ih h
      exact ⟨e2, List.mem_cons_of_mem _ h1, h2⟩
theorem valT_of {es : List En} (nd : (es.map fun e => e.1).Nodup) {e : En} (he : e ∈ es) : valT (entD es) (kx e.1) = some (.ob (.ref e.2.1)) := by
  induction es with
  | nil => cases he
  | cons a es ih =>
    unfold entD at ih ⊢
    rw [List.map_cons, valT_cons]
    rw [List.map_cons, List.nodup_cons] at nd
    rcases List.mem_cons.mp he with z | z
    · subst z
      rw [if_pos rfl]
    · have ne : kx a.1 ≠ kx e.1 := fun y => nd.1 (by rw [kx_inj y]; exact List.mem_map.mpr ⟨e, z, rfl⟩)
      rw [if_neg ne]
      exact ih nd.2 z
theorem inj_of {A B : Type} {f : A → B} {l : List A} (nd : (l.map f).Nodup) {a b : A} (ha : a ∈ l) (hb : b ∈ l) (h : f a = f b) : a = b := by
  induction l with
  | nil => cases ha
  | cons c l ih =>
    rw [List.map_cons, List.nodup_cons] at nd
    rcases List.mem_cons.mp ha with z | z
    · rcases List.mem_cons.mp hb with y | y
      · rw [z, y]
      · exact absurd (List.mem_map.mpr ⟨b, y, by rw [← h, z]⟩) nd.1
    · rcases List.mem_cons.mp hb with y | y
      · exact absurd (List.mem_map.mpr ⟨a, z, by rw [h, y]⟩) nd.1
      · exact ih nd.2 z y
/-- the key is there -/
theorem Lns.more {q0 : Addr} {ow ow' : Ow} {es : List En} (h : Lns q0 ow ow' es) {e : En} (he : e ∈ es) (p : Pt) : Lns q0 ow (ou ow' e.2.1 (.lst (e.2.2.map pF ++ [pF p]))) (es.map fun a => if a.1 = e.1 then (a.1, a.2.1, a.2.2 ++ [p]) else a) ∧ forget (es.map fun a => if a.1 = e.1 then (a.1, a.2.1, a.2.2 ++ [p]) else a) = addK (forget es) e.1 p := by
  obtain ⟨r1, r2, r3⟩ := h.row e he
  have same : ∀ a ∈ es, a.1 = e.1 → a = e := fun a ha z => inj_of h.key ha he z
  have m1 : (es.map fun a => if a.1 = e.1 then (a.1, a.2.1, a.2.2 ++ [p]) else a).map (fun e => e.2.1) = es.map fun e => e.2.1 := by
    rw [List.map_map]
    apply List.map_congr_left
    intro a _
    show (if a.1 = e.1 then ((a.1, a.2.1, a.2.2 ++ [p]) : En) else a).2.1 = a.2.1
    split <;> rfl
  have m2 : (es.map fun a => if a.1 = e.1 then (a.1, a.2.1, a.2.2 ++ [p]) else a).map (fun e => e.1) = es.map fun e => e.1 := by
    rw [List.map_map]
    apply List.map_congr_left
    intro a _
    show (if a.1 = e.1 then ((a.1, a.2.1, a.2.2 ++ [p]) : En) else a).1 = a.1
    split <;> rfl
  refine ⟨⟨?_, fun a ha => ?_, by rw [m1]; exact h.adr, by rw [m2]; exact h.key, fun b u hb => ?_, h.q0n⟩, ?_⟩
  · rw [ou_ne (Ne.symm r2), h.dict]
    congr 2
    unfold entD
    rw [List.map_map]
    apply List.map_congr_left
    intro a _
    show (kx a.1, D.ob (.ref a.2.1)) = (kx (if a.1 = e.1 then ((a.1, a.2.1, a.2.2 ++ [p]) : En) else a).1, D.ob (.ref (if a.1 = e.1 then ((a.1, a.2.1, a.2.2 ++ [p]) : En) else a).2.1))
    split <;> rfl
  · obtain ⟨c, hc, rfl⟩ := List.mem_map.mp ha
    by_cases z : c.1 = e.1
    · obtain rfl := same c hc z
      rw [if_pos rfl]
      refine ⟨?_, r2, r3⟩
      show ou ow' c.2.1 _ c.2.1 = _
      rw [ou_same, List.map_append]
      rfl
    · rw [if_neg z]
      obtain ⟨s1, s2, s3⟩ := h.row c hc
      have ne : c.2.1 ≠ e.2.1 := fun y => z (by rw [inj_of h.adr hc he y])
      exact ⟨by rw [ou_ne ne]; exact s1, s2, s3⟩
  · have ne : b ≠ e.2.1 := fun y => by rw [y, r3] at hb; cases hb
    rw [ou_ne ne]
    exact h.old b u hb
  · unfold addK forget
    have mem : e.1 ∈ (es.map fun e => (e.1, e.2.2)).map (·.1) := by
      rw [List.map_map]
      exact List.mem_map.mpr ⟨e, he, rfl⟩
    rw [if_pos mem, List.map_map, List.map_map]
    apply List.map_congr_left
    intro a _
    show ((if a.1 = e.1 then ((a.1, a.2.1, a.2.2 ++ [p]) : En) else a).1, (if a.1 = e.1 then ((a.1, a.2.1, a.2.2 ++ [p]) : En) else a).2.2) = if a.1 = e.1 then (a.1, a.2.2 ++ [p]) else (a.1, a.2.2)
    split <;> rfl
/-- the key is new -/
theorem Lns.fresh {q0 : Addr} {ow ow' : Ow} {es : List En} (h : Lns q0 ow ow' es) {k : Pt} (hk : k ∉ es.map (fun e => e.1)) {q : Addr} (hq : ow' q = none) (p : Pt) : Lns q0 ow (ou (ou (ou ow' q (.lst [])) q0 (.dtp (entD es ++ [(kx k, .ob (.ref q))]))) q (.lst ([] ++ [pF p]))) (es ++ [(k, q, [p])]) ∧ forget (es ++ [(k, q, [p])]) = addK (forget es) k p := by
  have q0q : q ≠ q0 := fun z => by rw [z, h.dict] at hq; cases hq
  have nq : ∀ e ∈ es, e.2.1 ≠ q := fun e he z => by
    have y := (h.row e he).1
    rw [z, hq] at y
    cases y
  have oq : ow q = none := by
    cases z : ow q with
    | none => rfl
    | some u =>
      have y := h.old q u z
      rw [hq] at y
      cases y
  refine ⟨⟨?_, fun a ha => ?_, ?_, ?_, fun b u hb => ?_, h.q0n⟩, ?_⟩
  · rw [ou_ne (Ne.symm q0q), ou_same]
    unfold entD
    rw [List.map_append]
    rfl
  · rcases List.mem_append.mp ha with z | z
    · obtain ⟨s1, s2, s3⟩ := h.row a z
      exact ⟨by rw [ou_ne (nq a z), ou_ne s2, ou_ne (nq a z)]; exact s1, s2, s3⟩
    · obtain rfl := List.mem_singleton.mp z
      exact ⟨by rw [ou_same]; rfl, q0q, oq⟩
  · rw [List.map_append]
    refine List.nodup_append.mpr ⟨h.adr, List.nodup_cons.mpr ⟨by simp, List.nodup_nil⟩, fun a ha b hb => ?_⟩
    obtain ⟨e, he, rfl⟩ := List.mem_map.mp ha
    obtain rfl : b = q := by simpa using hb
    exact nq e he
  · rw [List.map_append]
    refine List.nodup_append.mpr ⟨h.key, List.nodup_cons.mpr ⟨by simp, List.nodup_nil⟩, fun a ha b hb => ?_⟩
    obtain rfl : b = k := by simpa using hb
    exact fun z => hk (z ▸ ha)
  · have n1 : b ≠ q := fun y => by rw [y, oq] at hb; cases hb
    have n2 : b ≠ q0 := fun y => by rw [y, h.q0n] at hb; cases hb
    rw [ou_ne n1, ou_ne n2, ou_ne n1]
    exact h.old b u hb
  · unfold addK forget
    have mem : k ∉ (es.map fun e => (e.1, e.2.2)).map (·.1) := by
      rw [List.map_map]
      exact hk
    rw [if_neg mem, List.map_append]
    rfl
theorem addK_len (m : List (Pt × List Pt)) (k p : Pt) : (addK m k p).length ≤ m.length + 1 := by
  unfold addK
  split
  · rw [List.length_map]; omega
  · rw [List.length_append, List.length_singleton]; exact Nat.le_refl _
theorem lanesN_len (g : Nat → Nat) (dx dy : Int) : ∀ n, (lanesN g dx dy n).length ≤ n
  | 0 => Nat.le_refl _
  | n + 1 => Nat.le_trans (addK_len _ _ _) (Nat.succ_le_succ (lanesN_len g dx dy n))
theorem addK_rows {m : List (Pt × List Pt)} {k p : Pt} {b : Nat} (h : ∀ e ∈ m, e.2.length ≤ b) : ∀ e ∈ addK m k p, e.2.length ≤ b + 1 := by
  unfold addK
  split
  · intro e he
    obtain ⟨c, hc, rfl⟩ := List.mem_map.mp he
    have z := h c hc
    split
    · show (c.2 ++ [p]).length ≤ b + 1
      rw [List.length_append, List.length_singleton]
      omega
    · omega
  · intro e he
    rcases List.mem_append.mp he with z | z
    · have := h e z; omega
    · rw [List.mem_singleton.mp z]
      exact Nat.le_add_left _ _
theorem lanesN_rows (g : Nat → Nat) (dx dy : Int) : ∀ n, ∀ e ∈ lanesN g dx dy n, e.2.length ≤ n
  | 0 => fun e he => by cases he
  | n + 1 => addK_rows (lanesN_rows g dx dy n)
def keyOfD : D → List Key
  | .tupF [.int a, .int b] => kx (a, b)
  | _ => []
def lookM (m : List (Pt × List Pt)) (k : Pt) : List Pt := ((m.find? fun e => decide (e.1 = k)).map (·.2)).getD []
theorem lookM_of : ∀ {m : List (Pt × List Pt)} {e : Pt × List Pt}, (m.map (·.1)).Nodup → e ∈ m → lookM m e.1 = e.2
  | [], _, _, he => by cases he
  | a :: m, e, nd, he => by
    rw [List.map_cons, List.nodup_cons] at nd
    unfold lookM
    rw [List.find?_cons]
    rcases List.mem_cons.mp he with z | z
    · subst z
      simp
    · have ne : a.1 ≠ e.1 := fun y => nd.1 (by rw [y]; exact List.mem_map.mpr ⟨e, z, rfl⟩)
      have ih := lookM_of nd.2 z
      unfold lookM at ih
      simp only [ne, decide_false]
      exact ih
def valOfD (m : List (Pt × List Pt)) : D → D
  | .tupF [.int a, .int b] => .tup ((srt (lookM m (a, b))).map pF)
  | _ => .non
section
variable {γ : Gds} {P : Program} {w : World} {K : PySem.W.Frag} {mg : Str → Option Value} {base : Heap} {f : Addr} {fd : FuncData}
theorem scLns : FnScope ["offsets", "drift", "found", "at", "square", "lane", "place"] ["offsets", "drift"] (defScope s_lanes_trodden) := ⟨rfl, rfl, rfl, by decide +kernel, rfl, by decide +kernel, by decide +kernel⟩
def RLns (ds : List D) (d : D) : Prop := ∃ (g : Nat → Nat) (p : Nat) (dx dy : Int), ds = [.lst (offs g p), sq dx dy] ∧ p ≤ 300 ∧ dx.natAbs ≤ 1000000 ∧ dy.natAbs ≤ 1000000 ∧ d = .dtp (lanesD (lanesN g dx dy p))
theorem ok_lanes (Fn : Fun K "lanes_trodden" "lanes_trodden" s_lanes_trodden f fd) (N : Free mg) (L : Df γ P w K mg base 1 "lane_of" ["square", "drift"] (spR K RLane)) : FnG γ P w K mg base CX0 2 f fd ["offsets", "drift"] (spR K RLns) := by
  refine okR Fn scLns (fun ds d ⟨g, p, dx, dy, e, _⟩ => by rw [e]; rfl) fun cdv A outer s H B ow ds d Q E hgd hr hR kQ => ?_
  obtain ⟨g, p, dx, dy, rfl, hp, h1, h2, rfl⟩ := hR
  have hu : A.units + 3 + 200 < cLine := by
    have z : A.units + 3 + 16 * 1 + 200 < cLine := hr.un
    omega
  refine' rn_newT (j := 2) scLns.nd rfl (.inr rfl) ?k0
  case k0 =>
  intro B1 q0 e1 hq0
  refine' rn_for (ds := enumD 0 (offs g p)) (g := gTup K 2 (gCons (gName 3) (gCons (gName 4) gNil))) (f := fun d env => match d with | .tup [a, b] => (env.set 3 (some a)).set 4 (some b) | _ => env) (fun i env ow' => ∃ (es : List En) (y1 y2 y3 y4 : Option D), forget es = lanesN g dx dy i ∧ Lns q0 ow ow' es ∧ env = [some (.lst (offs g p)), some (sq dx dy), some (.ob (.ref q0)), y1, y2, y3, y4]) PassesOwn.never rfl ?hi (pg_two rfl scLns.nd rfl rfl (.inl rfl) (.inl rfl)) ?hgd ⟨[], none, none, none, none, rfl, ⟨by rw [ou_same]; rfl, fun e he => (by cases he), List.nodup_nil, List.nodup_nil, fun b u hb => ?old, hq0⟩, rfl⟩ ?hs ?hd
  case old =>
    have n : b ≠ q0 := fun z => by rw [z, hq0] at hb; cases hb
    rw [ou_ne n]
    exact hb
  case hi => exact vi_enum rfl N.enumerate (ve_var (d := .lst (offs g p)) (i := 0) rfl rfl (by walk_at "vis"))
  case hgd =>
    intro ow' d hd
    obtain ⟨n, hn⟩ := List.mem_iff_getElem?.mp hd
    obtain ⟨x, hx, rfl⟩ := enumD_get hn
    exact gd_two 3 4
  case hs =>
    rintro B2 i d env' ow' e2 hd ⟨es, y1, y2, y3, y4, hes, hL, rfl⟩
    obtain ⟨x, hx, rfl⟩ := enumD_get hd
    have hi : i < p := by
      have z := (List.getElem?_eq_some_iff.mp hx).1
      rw [offs_len] at z
      exact z
    obtain rfl : x = sq (px g i) (py g i) := by
      unfold offs at hx
      rw [List.getElem?_map, List.getElem?_range hi] at hx
      exact (Option.some.inj hx).symm
    rw [Nat.zero_add]
    have elen : es.length = (lanesN g dx dy i).length := by rw [← hes]; unfold forget; rw [List.length_map]
    have ele : es.length ≤ 300 := by
      have := lanesN_len g dx dy i
      omega
    refine' rn_two (d1 := .tupF [.int (laneX (px g i) (py g i) dx dy), .int (laneY (px g i) (py g i) dx dy)]) (d2 := .int (laneP (px g i) (py g i) dx dy)) 5 6 rfl scLns.nd rfl rfl (.inl rfl) (.inl rfl) ?s1 ?s2
    case s1 => exact ve_D L hgd hr rfl (va_cons (ve_var (d := sq (px g i) (py g i)) (i := 4) rfl rfl (by walk_at "vis")) (va_cons (ve_var (d := sq dx dy) (i := 1) rfl rfl (by walk_at "vis")) va_nil)) ⟨_, _, dx, dy, rfl, h1, h2, rfl⟩
    case s2 =>
    intro B3 e3
    obtain ⟨k, hk⟩ : ∃ k : Pt, k = (laneX (px g i) (py g i) dx dy, laneY (px g i) (py g i) dx dy) := ⟨_, rfl⟩
    obtain ⟨pt, hpt⟩ : ∃ pt : Pt, pt = (laneP (px g i) (py g i) dx dy, (i : Int)) := ⟨_, rfl⟩
    have step : lanesN g dx dy (i + 1) = addK (lanesN g dx dy i) k pt := by rw [hk, hpt]; rfl
    have rows : ∀ e ∈ es, e.2.2.length ≤ i := fun e he => lanesN_rows g dx dy i (e.1, e.2.2) (by rw [← hes]; exact List.mem_map.mpr ⟨e, he, rfl⟩)
    have tpl : ∀ (c1 c2 c3 : Pos) (kk : Nat) (ow2 : Ow), Ve (cxOf CX0 P w K mg base ["offsets", "drift", "found", "at", "square", "lane", "place"] "lanes_trodden" (defScope s_lanes_trodden) f cdv A outer s H E).nox (.Tuple [.Name "place" c1, .Name "at" c2] kk c3) [some (.lst (offs g p)), some (sq dx dy), some (.ob (.ref q0)), some (.int (i : Nat)), some (sq (px g i) (py g i)), some (.tupF [.int (laneX (px g i) (py g i) dx dy), .int (laneY (px g i) (py g i) dx dy)]), some (.int (laneP (px g i) (py g i) dx dy))] ow2 (pF pt) := fun c1 c2 c3 kk ow2 => by
      rw [hpt]
      exact ve_tupF (va_cons (ve_var (d := .int (laneP (px g i) (py g i) dx dy)) (i := 6) rfl rfl (by walk_at "vis")) (va_cons (ve_var (d := .int (i : Nat)) (i := 3) rfl rfl (by walk_at "vis")) va_nil)) (by show 2 ≤ 100000; decide)
    refine' rn_appM (vm_setdT (a := q0) (m := entD es) (k := kx k) (by show A.units + 3 + 3 < cLine; omega) (ve_var (d := .ob (.ref q0)) (i := 2) rfl rfl (by walk_at "vis")) hL.dict ?key (by unfold entD; rw [List.length_map]; omega) ⟨rfl, rfl, rfl, rfl⟩) ?app
    case key =>
      rw [hk]
      exact ve_var (i := 5) rfl rfl (by walk_at "vis")
    case app =>
      rintro d ow2 (⟨hv, rfl⟩ | ⟨hv, q, rfl, hq, hne, rfl⟩)
      · obtain ⟨e, he, hek, rfl⟩ := valT_some hv
        obtain ⟨r1, r2, r3⟩ := hL.row e he
        refine ⟨e.2.1, e.2.2.map pF, pF pt, rfl, r1, by rw [List.length_map]; have := rows e he; omega, tpl _ _ _ _ _, fun B4 e4 => ?_⟩
        obtain ⟨m1, m2⟩ := hL.more he pt
        refine rn_nextW ⟨_, _, _, _, _, ?_, m1, rfl⟩ (e3.trans e4)
        rw [m2, hes, step, hek]
      · obtain ⟨m1, m2⟩ := hL.fresh (valT_none hv) hq pt
        refine ⟨q, [], pF pt, rfl, by rw [ou_ne hne, ou_same], by decide, tpl _ _ _ _ _, fun B4 e4 => ?_⟩
        refine rn_nextW ⟨_, _, _, _, _, ?_, m1, rfl⟩ (e3.trans e4)
        rw [m2, hes, step]
  case hd =>
    rintro B2 env' ow' e2 ⟨es, y1, y2, y3, y4, hes, hL, rfl⟩
    have len : (enumD 0 (offs g p)).length = p := by rw [enumD_len, offs_len]
    rw [len] at hes
    have nd : ((lanesN g dx dy p).map (·.1)).Nodup := by
      rw [← hes]
      unfold forget
      rw [List.map_map]
      exact hL.key
    refine' rn_freezeT (j := 2) (a := q0) rfl hL.dict ?fr
    intro B3 e3
    have keys : (entD es).map (fun q => D.tupF (q.1.map kD)) = es.map fun e => D.tupF [.int e.1.1, .int e.1.2] := by
      unfold entD
      rw [List.map_map]
      rfl
    refine' rn_retS (d := .dtp (lanesD (lanesN g dx dy p))) (ve_is (ve_dcT (j := 5) (ds := (entD es).map fun q => .tupF (q.1.map kD)) keyOfD (valOfD (lanesN g dx dy p)) (by show A.units + 3 + 1 < cLine; omega) rfl scLns.nd (vi_keysT (ve_var (d := .dtp (entD es)) (i := 2) rfl rfl (by walk_at "vis"))) (blkOk_by (N := ["offsets", "drift", "found", "at", "square", "lane", "place"]) (sc := defScope s_lanes_trodden) (by decide +kernel)) ?len ?nod (fun _ _ _ _ _ => pg_name scLns.nd rfl (.inl rfl)) ?hk ?hv) ?eq) (fun b u hb => ?sub) (kQ.ex (e1.trans (e2.trans e3)))
    case len =>
      rw [keys, List.length_map]
      have z : es.length = (lanesN g dx dy p).length := by rw [← hes]; unfold forget; rw [List.length_map]
      have := lanesN_len g dx dy p
      omega
    case nod =>
      rw [keys, List.map_map]
      have z : es.map (keyOfD ∘ fun e : En => D.tupF [.int e.1.1, .int e.1.2]) = (es.map fun e => e.1).map kx := by
        rw [List.map_map]
        rfl
      rw [z]
      exact List.Pairwise.map kx (fun a b ne h => ne (kx_inj h)) hL.key
    case hk =>
      intro d ow2 hd sub s0 H0 C0 cl fp
      rw [keys] at hd
      obtain ⟨e, he, rfl⟩ := List.mem_map.mp hd
      exact ve_var (i := 5) rfl rfl (by walk_at "vis")
    case hv =>
      intro d ow2 hd sub s0 H0 C0 cl fp
      rw [keys] at hd
      obtain ⟨e, he, rfl⟩ := List.mem_map.mp hd
      obtain ⟨r1, r2, r3⟩ := hL.row e he
      have o2 : ow2 e.2.1 = some (.lst (e.2.2.map pF)) := sub _ _ (by rw [oz_ne r2]; exact r1)
      have val : lookM (lanesN g dx dy p) e.1 = e.2.2 := by
        have z := lookM_of (e := (e.1, e.2.2)) nd (by rw [← hes]; exact List.mem_map.mpr ⟨e, he, rfl⟩)
        exact z
      show Ve _ _ _ _ (.tup ((srt (lookM (lanesN g dx dy p) e.1)).map pF))
      rw [val]
      exact ve_ty (id := "tuple") (va_cons (ve_bi (va_cons (ve_getT (m := entD es) (k := kx e.1) (by show A.units + 3 + 1 < cLine; omega) (ve_var (d := .dtp (entD es)) (i := 2) rfl rfl (by walk_at "vis")) (ve_var (d := .tupF [.int e.1.1, .int e.1.2]) (i := 5) rfl rfl (by walk_at "vis")) (valT_of hL.key he)) va_nil) rfl N.sorted boot_sorted (fo_sortPO o2 (srt_perm _) (srt_sorted _))) va_nil) rfl N.tuple boot_tuple to_tupL
    case eq =>
      rw [keys, List.map_map]
      congr 1
      unfold lanesD
      rw [← hes]
      unfold forget
      rw [List.map_map]
      apply List.map_congr_left
      intro e he
      have val : lookM (lanesN g dx dy p) e.1 = e.2.2 := lookM_of (e := (e.1, e.2.2)) nd (by rw [← hes]; exact List.mem_map.mpr ⟨e, he, rfl⟩)
      show (kx e.1, D.tup ((srt (lookM _ e.1)).map pF)) = (kx e.1, D.tup ((srt e.2.2).map pF))
      have hes2 : (es.map fun e => (e.1, e.2.2)) = lanesN g dx dy p := hes
      rw [hes2, val]
    case sub =>
      have n : b ≠ q0 := fun z => by rw [z, hq0] at hb; cases hb
      rw [oz_ne n]
      exact hL.old b u hb
end
end
section
open Wk TL
theorem ve_ng {X : Cx} {env : List (Option D)} {ow : Ow} {e : Expr} {pos : Pos} {i : Int} (h : Ve X e env ow (.int i)) : Ve X (.UnaryOp .USub e pos) env ow (.int (-i)) := ve_un un_neg h (.mk fun F H x Q w r k => by
  cases r
  exact ⟨i, rfl, k.here w (.int _)⟩)
theorem cut_last {l : List D} {d : D} : Vd.cutD (l ++ [d]) none (some (-1)) = l := by
  unfold Vd.cutD
  rw [HT.sIx_none]
  have e : HT.sIx (l ++ [d]).length (l ++ [d]).length (some (-1)) = l.length := by
    show (if (-1 : Int) < 0 then ((-1 : Int) + ((l ++ [d]).length : Int)).toNat else min (-1 : Int).toNat (l ++ [d]).length) = l.length
    rw [if_pos (by decide), List.length_append, List.length_singleton]
    omega
  rw [e, List.drop_zero, Nat.sub_zero, List.take_left']
  rfl
/-- the class, as the text has it -/
structure WkC (K : PySem.W.Frag) (C : Addr) : Prop where
  cl : Cls K C
  row : NoAttr K C "_row"
  start : NoAttr K C "_start"
  way : NoAttr K C "_way"
  ways : NoAttr K C "_ways"
  offsets : NoAttr K C "_offsets"
  drift : NoAttr K C "_drift"
  lanes : NoAttr K C "_lanes"
/-- a walker -/
def wkD (l : List Od) (x y : Int) (a p : Nat) : List (Str × D) := [("_row", .str (tx (rowC l))), ("_start", sq x y), ("_way", wD a), ("_ways", .str (wsT ((List.range p).map (way l a)))), ("_offsets", .lst (offs (way l a) p)), ("_drift", sq (px (way l a) p) (py (way l a) p)), ("_lanes", .dtp (lanesD (lanesN (way l a) (px (way l a) p) (py (way l a) p) p)))]
structure WkOk (l : List Od) (a p : Nat) : Prop where
  row : Row l
  way : a < 4
  per : IsPer (Wk.way l a) p
theorem WkOk.le {l : List Od} {a p : Nat} (h : WkOk l a p) : p ≤ 288 := by
  obtain ⟨q, hq, ql⟩ := h.row.per h.way
  rw [h.per.uniq hq]
  exact ql
theorem WkOk.lt {l : List Od} {a p : Nat} (h : WkOk l a p) (t : Nat) : Wk.way l a t < 4 := way_lt h.row.pos h.way t
theorem WkOk.dx {l : List Od} {a p : Nat} (h : WkOk l a p) : (px (Wk.way l a) p).natAbs ≤ 1000000 := by
  have z := px_le (Wk.way l a) p
  have := h.le
  omega
theorem WkOk.dy {l : List Od} {a p : Nat} (h : WkOk l a p) : (py (Wk.way l a) p).natAbs ≤ 1000000 := by
  have z := py_le (Wk.way l a) p
  have := h.le
  omega
section
variable {γ : Gds} {P : Program} {w : World} {K : PySem.W.Frag} {mg : Str → Option Value} {base : Heap} {f C : Addr} {fd : FuncData}
theorem scWIni : FnScope ["self", "row", "start", "way", "offsets"] ["self", "row", "start", "way"] (defScope s_Walker___init__) := ⟨rfl, rfl, rfl, by decide +kernel, rfl, by decide +kernel, by decide +kernel⟩
def RWIni (ds : List D) (fl : List (Str × D)) : Prop := ∃ (l : List Od) (x y : Int) (a p : Nat), ds = [.str (tx (rowC l)), sq x y, wD a] ∧ WkOk l a p ∧ absI x ≤ GR ∧ absI y ≤ GR ∧ fl = wkD l x y a p
theorem ok_wIni {dvs : List V} {kws : List (Str × V)} (Fn : FunD K "__init__" "Walker.__init__" (defArgs s_Walker___init__) (defBody s_Walker___init__) (defScope s_Walker___init__) dvs kws f fd) (W : WkC K C) (D1 : Df γ P w K mg base 2 "is_row" ["value"] (spR K RRow)) (D2 : Df γ P w K mg base 3 "is_square" ["value"] (spR K RSq)) (D3 : Df γ P w K mg base 1 "is_way" ["value"] (spR K RWay))
    (D4 : Df γ P w K mg base 3 "ways_gone" ["row", "way"] (spR K RGone)) (D5 : Df γ P w K mg base 1 "offsets_along" ["ways"] (spR K ROff)) (D6 : Df γ P w K mg base 2 "lanes_trodden" ["offsets", "drift"] (spR K RLns)) : FnG γ P w K mg base CX0 4 f fd ["self", "row", "start", "way"] (spIn K C RWIni) := by
  refine okIn Fn scWIni (fun ds fl ⟨l, x, y, a, p, e, _⟩ => by rw [e]; rfl) fun cdv A outer s H B ow q ds fl Q E hgd hrm hR kQ => ?_
  obtain ⟨l, x, y, a, p, rfl, ok, hx, hy, rfl⟩ := hR
  have hr : ∀ k, k ≤ 3 → Room k (A.deeper (envOfC "Walker.__init__" (defScope s_Walker___init__) s.heap.objs.size f cdv)) := fun k hk => hrm.mono hk
  have ple := ok.le
  refine' rn_if (t := false) (vt_is (vt_not (t := true) (vt_val (ve_D D1 hgd (hr 2 (by decide)) rfl (va_cons (ve_var (d := .str (tx (rowC l))) (i := 1) rfl rfl (by walk_at "vis")) va_nil) ⟨l, rfl, ok.row, rfl⟩))) rfl) (fun z => nomatch z) fun _ B1 e1 => rn_go ?_
  refine' rn_if (t := false) (vt_is (vt_not (t := true) (vt_val (ve_is (ve_D D2 hgd (hr 3 (by decide)) rfl (va_cons (ve_var (d := sq x y) (i := 2) rfl rfl (by walk_at "vis")) va_nil) ⟨x, y, rfl, rfl⟩) (by rw [decide_eq_true hx, decide_eq_true hy]; rfl)))) rfl) (fun z => nomatch z) fun _ B2 e2 => rn_go ?_
  refine' rn_if (t := false) (vt_is (vt_not (t := true) (vt_val (ve_D D3 hgd (hr 1 (by decide)) rfl (va_cons (ve_var (d := wD a) (i := 3) rfl rfl (by walk_at "vis")) va_nil) ⟨a, rfl, ok.way, rfl⟩))) rfl) (fun z => nomatch z) fun _ B3 e3 => rn_go ?_
  refine' rn_fld W.cl W.row (ve_var (d := .str (tx (rowC l))) (i := 1) rfl rfl (by walk_at "vis")) (ve_var (i := 0) rfl rfl (by walk_at "vis")) ou_same (by decide) fun B4 e4 => ?_
  rw [ou_ou]
  refine' rn_fld W.cl W.start (ve_var (d := sq x y) (i := 2) rfl rfl (by walk_at "vis")) (ve_var (i := 0) rfl rfl (by walk_at "vis")) ou_same (by show 1 < 1000; decide) fun B5 e5 => ?_
  rw [ou_ou]
  refine' rn_fld W.cl W.way (ve_var (d := wD a) (i := 3) rfl rfl (by walk_at "vis")) (ve_var (i := 0) rfl rfl (by walk_at "vis")) ou_same (by show 2 < 1000; decide) fun B6 e6 => ?_
  rw [ou_ou]
  refine' rn_fld W.cl W.ways (ve_D D4 hgd (hr 3 (by decide)) rfl (va_cons (ve_var (d := .str (tx (rowC l))) (i := 1) rfl rfl (by walk_at "vis")) (va_cons (ve_var (d := wD a) (i := 3) rfl rfl (by walk_at "vis")) va_nil)) ⟨l, a, p, rfl, ok.row, ok.way, ok.per, rfl⟩) (ve_var (i := 0) rfl rfl (by walk_at "vis")) ou_same (by show 3 < 1000; decide) fun B7 e7 => ?_
  rw [ou_ou]
  refine' rn_set (i := 4) (d := .lst (offs (way l a) (p + 1))) scWIni.nd rfl (by first | exact .inl rfl | exact .inr rfl) ?s1 fun B8 e8 => ?_
  case s1 => exact ve_D D5 hgd (hr 1 (by decide)) rfl (va_cons (ve_atO W.cl W.ways (ve_var (i := 0) rfl rfl (by walk_at "vis")) ou_same (d := .str (wsT ((List.range p).map (way l a)))) rfl) va_nil) ⟨way l a, p, rfl, ok.lt, by omega, rfl⟩
  refine' rn_fld W.cl W.offsets (d := .lst (offs (way l a) p)) ?s2 (ve_var (i := 0) rfl rfl (by walk_at "vis")) ou_same (by show 4 < 1000; decide) fun B9 e9 => ?_
  case s2 => exact ve_is (ve_sliceL (ve_var (d := .lst (offs (way l a) (p + 1))) (i := 4) rfl rfl (by walk_at "vis")) vp_none (vp_some (ve_ng ve_int))) (by rw [offs_succ, cut_last])
  rw [ou_ou]
  refine' rn_fld W.cl W.drift (d := sq (px (way l a) p) (py (way l a) p)) ?s3 (ve_var (i := 0) rfl rfl (by walk_at "vis")) ou_same (by show 5 < 1000; decide) fun B10 e10 => ?_
  case s3 => exact ve_sub (ve_var (d := .lst (offs (way l a) (p + 1))) (i := 4) rfl rfl (by walk_at "vis")) (ve_ng ve_int) (fun _ _ => rfl) (xo_lst (by rw [offs_succ]; exact L2.atI_last _ _))
  rw [ou_ou]
  refine' rn_fld W.cl W.lanes (ve_D D6 hgd (hr 2 (by decide)) rfl (va_cons (ve_atO W.cl W.offsets (ve_var (i := 0) rfl rfl (by walk_at "vis")) ou_same (d := .lst (offs (way l a) p)) rfl) (va_cons (ve_atO W.cl W.drift (ve_var (i := 0) rfl rfl (by walk_at "vis")) ou_same (d := sq (px (way l a) p) (py (way l a) p)) rfl) va_nil)) ⟨way l a, p, _, _, rfl, by omega, ok.dx, ok.dy, rfl⟩) (ve_var (i := 0) rfl rfl (by walk_at "vis")) ou_same (by show 6 < 1000; decide) fun B11 e11 => ?_
  rw [ou_ou]
  exact rn_end fun σ F2 H2 eB s2 w2 => kQ F2 H2 (e1.trans (e2.trans (e3.trans (e4.trans (e5.trans (e6.trans (e7.trans (e8.trans (e9.trans (e10.trans (e11.trans eB))))))))))) w2
end
end
section
open Wk TL
/-- told by a walker -/
def RW (C : Addr) (g : List Od → Int → Int → Nat → Nat → D) (ds : List D) (d : D) : Prop := ∃ l x y a p, ds = [.ins C (wkD l x y a p)] ∧ WkOk l a p ∧ d = g l x y a p
section
variable {γ : Gds} {P : Program} {w : World} {K : PySem.W.Frag} {mg : Str → Option Value} {base : Heap} {f C : Addr} {fd : FuncData}
theorem scWSt : FnScope ["self"] ["self"] (defScope s_Walker_start) := ⟨rfl, rfl, rfl, by decide +kernel, rfl, by decide +kernel, by decide +kernel⟩
theorem ok_wStart (Fn : Fun K "start" "Walker.start" s_Walker_start f fd) (W : WkC K C) : FnG γ P w K mg base CX0 1 f fd ["self"] (spR K (RW C fun l x y a p => sq x y)) := by
  refine okR Fn scWSt (fun ds d ⟨l, x, y, a, p, e, _⟩ => by rw [e]; rfl) fun cdv A outer s H B ow ds d Q E hgd hr hR kQ => ?_
  obtain ⟨l, x, y, a, p, rfl, ok, rfl⟩ := hR
  exact rn_ret (ve_at W.cl W.start (ve_var (d := .ins C (wkD l x y a p)) (i := 0) rfl rfl (by walk_at "vis")) rfl) kQ
theorem scWPe : FnScope ["self"] ["self"] (defScope s_Walker_period) := ⟨rfl, rfl, rfl, by decide +kernel, rfl, by decide +kernel, by decide +kernel⟩
theorem ok_wPeriod (Fn : Fun K "period" "Walker.period" s_Walker_period f fd) (W : WkC K C) (N : Free mg) : FnG γ P w K mg base CX0 1 f fd ["self"] (spR K (RW C fun l x y a p => .int (p : Nat))) := by
  refine okR Fn scWPe (fun ds d ⟨l, x, y, a, p, e, _⟩ => by rw [e]; rfl) fun cdv A outer s H B ow ds d Q E hgd hr hR kQ => ?_
  obtain ⟨l, x, y, a, p, rfl, ok, rfl⟩ := hR
  have hp : (wsT ((List.range p).map (way l a))).length = p := by rw [wsT_len, List.length_map, List.length_range]
  have := ok.le
  exact rn_ret (ve_is (ve_bi (va_cons (ve_at W.cl W.ways (ve_var (d := .ins C (wkD l x y a p)) (i := 0) rfl rfl (by walk_at "vis")) (d := .str (wsT ((List.range p).map (way l a)))) rfl) va_nil) rfl N.len boot_len (fo_lenS (by rw [hp]; omega))) (by rw [hp])) kQ
theorem scWDr : FnScope ["self"] ["self"] (defScope s_Walker_drift) := ⟨rfl, rfl, rfl, by decide +kernel, rfl, by decide +kernel, by decide +kernel⟩
theorem ok_wDrift (Fn : Fun K "drift" "Walker.drift" s_Walker_drift f fd) (W : WkC K C) : FnG γ P w K mg base CX0 1 f fd ["self"] (spR K (RW C fun l x y a p => sq (px (way l a) p) (py (way l a) p))) := by
  refine okR Fn scWDr (fun ds d ⟨l, x, y, a, p, e, _⟩ => by rw [e]; rfl) fun cdv A outer s H B ow ds d Q E hgd hr hR kQ => ?_
  obtain ⟨l, x, y, a, p, rfl, ok, rfl⟩ := hR
  exact rn_ret (ve_at W.cl W.drift (ve_var (d := .ins C (wkD l x y a p)) (i := 0) rfl rfl (by walk_at "vis")) rfl) kQ
theorem scFrom : FnScope ["walker", "offset"] ["walker", "offset"] (defScope s_from_start) := ⟨rfl, rfl, rfl, by decide +kernel, rfl, by decide +kernel, by decide +kernel⟩
def RFrom (C : Addr) (ds : List D) (d : D) : Prop := ∃ l x y a p u v, ds = [.ins C (wkD l x y a p), sq u v] ∧ WkOk l a p ∧ d = sq (x + u) (y + v)
theorem ok_from (Fn : Fun K "from_start" "from_start" s_from_start f fd) (W : WkC K C) (S : Pf γ P w K mg base C 1 "start" (RW C fun l x y a p => sq x y)) : FnG γ P w K mg base CX0 3 f fd ["walker", "offset"] (spR K (RFrom C)) := by
  refine okR Fn scFrom (fun ds d ⟨l, x, y, a, p, u, v, e, _⟩ => by rw [e]; rfl) fun cdv A outer s H B ow ds d Q E hgd hr hR kQ => ?_
  obtain ⟨l, x, y, a, p, u, v, rfl, ok, rfl⟩ := hR
  refine rn_ret (ve_tup (va_cons (ve_bin (ve_sub (ve_P W.cl S hgd hr (ve_var (d := .ins C (wkD l x y a p)) (i := 0) rfl rfl (by walk_at "vis")) ⟨l, x, y, a, p, rfl, ok, rfl⟩) ve_int (fun _ _ => rfl) (xo_tup (d := .int x) rfl)) (ve_sub (ve_var (d := sq u v) (i := 1) rfl rfl (by walk_at "vis")) ve_int (fun _ _ => rfl) (xo_tup (d := .int u) rfl)) bo_add) (va_cons (ve_bin (ve_sub (ve_P W.cl S hgd hr (ve_var (d := .ins C (wkD l x y a p)) (i := 0) rfl rfl (by walk_at "vis")) ⟨l, x, y, a, p, rfl, ok, rfl⟩) ve_int (fun _ _ => rfl) (xo_tup (d := .int y) rfl)) (ve_sub (ve_var (d := sq u v) (i := 1) rfl rfl (by walk_at "vis")) ve_int (fun _ _ => rfl) (xo_tup (d := .int v) rfl)) bo_add) va_nil)) (by show 2 ≤ 100000; decide)) kQ
theorem scSqAt : FnScope ["walker", "time", "rounds", "rest"] ["walker", "time"] (defScope s_square_at) := ⟨rfl, rfl, rfl, by decide +kernel, rfl, by decide +kernel, by decide +kernel⟩
def RAt (C : Addr) (ds : List D) (d : D) : Prop := ∃ (l : List Od) (x y : Int) (a p t : Nat), ds = [.ins C (wkD l x y a p), .int (t : Nat)] ∧ WkOk l a p ∧ (t : Int) ≤ GR ∧ d = sq (x + px (way l a) t) (y + py (way l a) t)
theorem offs_at {g : Nat → Nat} {n i : Nat} (h : i < n) : L2.atI (offs g n) (i : Int) = some (sq (px g i) (py g i)) := by
  exact L2.atI_nat (by unfold offs; rw [List.getElem?_map, List.getElem?_range h]; rfl)
theorem ok_squareAt (Fn : Fun K "square_at" "square_at" s_square_at f fd) (W : WkC K C) (N : Free mg) (S : Pf γ P w K mg base C 1 "period" (RW C fun l x y a p => .int (p : Nat))) (T : Pf γ P w K mg base C 1 "drift" (RW C fun l x y a p => sq (px (way l a) p) (py (way l a) p)))
    (D1 : Df γ P w K mg base 3 "from_start" ["walker", "offset"] (spR K (RFrom C))) (D2 : Df γ P w K mg base 1 "square_in" ["lane", "place", "drift"] (spR K RSqIn)) : FnG γ P w K mg base CX0 4 f fd ["walker", "time"] (spR K (RAt C)) := by
  refine okR Fn scSqAt (fun ds d ⟨l, x, y, a, p, t, e, _⟩ => by rw [e]; rfl) fun cdv A outer s H B ow ds d Q E hgd hrm hR kQ => ?_
  obtain ⟨l, x, y, a, p, t, rfl, ok, ht, rfl⟩ := hR
  have hr : ∀ k, k ≤ 3 → Room k (A.deeper (envOfC "square_at" (defScope s_square_at) s.heap.objs.size f cdv)) := fun k hk => hrm.mono hk
  have pp := ok.per.pos
  have ple := ok.le
  have wv : ∀ {env : List (Option D)} {pos : Pos}, env[0]? = some (some (.ins C (wkD l x y a p))) → Ve (cxOf CX0 P w K mg base ["walker", "time", "rounds", "rest"] "square_at" (defScope s_square_at) f cdv A outer s H E).nox (.Name "walker" pos) env ow (.ins C (wkD l x y a p)) := fun h => ve_var h rfl (by walk_at "vis")
  refine' rn_two (d1 := .int ((t / p : Nat) : Int)) (d2 := .int ((t % p : Nat) : Int)) 2 3 rfl scSqAt.nd rfl rfl (.inl rfl) (.inl rfl) ?s1 fun B1 e1 => ?_
  case s1 => exact ve_is (ve_bi (va_cons (ve_var (d := .int (t : Nat)) (i := 1) rfl rfl (by walk_at "vis")) (va_cons (ve_P W.cl S hgd (hr 2 (by decide)) (wv rfl) ⟨l, x, y, a, p, rfl, ok, rfl⟩) va_nil)) rfl N.divmod boot_divmod (fo_divmod (by omega) (by omega))) rfl
  have mlt : t % p < p := Nat.mod_lt _ pp
  refine rn_ret (ve_is (ve_D D1 hgd (hr 3 (by decide)) rfl (va_cons (wv rfl) (va_cons (ve_D D2 hgd (hr 1 (by decide)) rfl (va_cons (ve_sub (ve_at W.cl W.offsets (wv rfl) (d := .lst (offs (way l a) p)) rfl) (ve_var (d := .int ((t % p : Nat) : Int)) (i := 3) rfl rfl (by walk_at "vis")) (fun _ _ => rfl) (xo_lst (offs_at mlt))) (va_cons (ve_var (d := .int ((t / p : Nat) : Int)) (i := 2) rfl rfl (by walk_at "vis")) (va_cons (ve_P W.cl T hgd (hr 2 (by decide)) (wv rfl) ⟨l, x, y, a, p, rfl, ok, rfl⟩) va_nil))) ⟨_, _, _, _, _, rfl, ok.dx, ok.dy, rfl⟩) va_nil)) ⟨l, x, y, a, p, _, _, rfl, ok, rfl⟩) ?_) (kQ.ex e1)
  rw [← px_div ok.per.per, ← py_div ok.per.per]
theorem scAt : FnScope ["self", "time"] ["self", "time"] (defScope s_Walker_at) := ⟨rfl, rfl, rfl, by decide +kernel, rfl, by decide +kernel, by decide +kernel⟩
theorem within_time {t : Nat} (h : (t : Int) ≤ GR) : D.within 0 GR (.int (t : Nat)) = true := decide_eq_true ⟨Int.natCast_nonneg t, h⟩
theorem ok_at (Fn : Fun K "at" "Walker.at" s_Walker_at f fd) (I : Df γ P w K mg base 3 "is_time" ["value"] (spR K RTime)) (D1 : Df γ P w K mg base 4 "square_at" ["walker", "time"] (spR K (RAt C))) : FnG γ P w K mg base CX0 5 f fd ["self", "time"] (spR K (RAt C)) := by
  refine okR Fn scAt (fun ds d ⟨l, x, y, a, p, t, e, _⟩ => by rw [e]; rfl) fun cdv A outer s H B ow ds d Q E hgd hrm hR kQ => ?_
  obtain ⟨l, x, y, a, p, t, rfl, ok, ht, rfl⟩ := hR
  refine' rn_if (t := false) (vt_is (vt_not (t := true) (vt_val (ve_is (ve_D I hgd (hrm.mono (by decide)) rfl (va_cons (ve_var (d := .int (t : Nat)) (i := 1) rfl rfl (by walk_at "vis")) va_nil) ⟨.int (t : Nat), rfl, rfl, rfl⟩) (by rw [within_time ht])))) rfl) (fun z => nomatch z) fun _ B1 e1 => rn_go ?_
  exact rn_ret (ve_D D1 hgd hrm rfl (va_cons (ve_var (d := .ins C (wkD l x y a p)) (i := 0) rfl rfl (by walk_at "vis")) (va_cons (ve_var (d := .int (t : Nat)) (i := 1) rfl rfl (by walk_at "vis")) va_nil)) ⟨l, x, y, a, p, t, rfl, ok, ht, rfl⟩) (kQ.ex e1)
end
end
section
theorem cnt_lt : ∀ (l : List Int) (v : Int) (i : Nat) (h : i < l.length), i < cnt l v → l[i] < v
  | x :: l, v, i, h, q => by
    unfold cnt at q
    by_cases c : x < v
    · rw [List.takeWhile_cons_of_pos (by simpa using c), List.length_cons] at q
      match i with
      | 0 => exact c
      | i + 1 => exact cnt_lt l v i (by simpa using h) (by unfold cnt; omega)
    · rw [List.takeWhile_cons_of_neg (by simpa using c)] at q
      exact absurd q (Nat.not_lt_zero _)
theorem cnt_at : ∀ (l : List Int) (v : Int) (h : cnt l v < l.length), ¬ l[cnt l v] < v
  | x :: l, v, h => by
    by_cases c : x < v
    · have e : cnt (x :: l) v = cnt l v + 1 := by
        unfold cnt
        rw [List.takeWhile_cons_of_pos (by simpa using c), List.length_cons]
      have z := cnt_at l v (by rw [e] at h; simpa using h)
      simpa [e] using z
    · have e : cnt (x :: l) v = 0 := by
        unfold cnt
        rw [List.takeWhile_cons_of_neg (by simpa using c)]
        rfl
      simpa [e] using c
theorem mem_cnt {l : List Int} {v : Int} (a : AscI l) : v ∈ l ↔ ∃ h : cnt l v < l.length, l[cnt l v] = v := by
  constructor
  · intro hv
    obtain ⟨i, hi, e⟩ := List.getElem_of_mem hv
    have le : cnt l v ≤ i := by
      apply Classical.byContradiction
      intro q
      have z := cnt_lt l v i hi (by omega)
      omega
    have lt : cnt l v < l.length := by omega
    refine ⟨lt, ?_⟩
    have z := cnt_at l v lt
    by_cases c : cnt l v = i
    · simp only [c]; exact e
    · have y := a.lt lt hi (show cnt l v < i by omega)
      omega
  · rintro ⟨h, e⟩
    rw [← e]
    exact List.getElem_mem h
abbrev sHol : Stmt := s_holds
theorem scHol : FnScope ["row", "value", "at"] ["row", "value"] (defScope sHol) := ⟨rfl, rfl, rfl, by decide +kernel, rfl, by decide +kernel, by decide +kernel⟩
def RHol (ds : List D) (d : D) : Prop := ∃ (l : List Int) (v : Int), ds = [.tup (l.map D.int), .int v] ∧ AscI l ∧ d = .bl (decide (v ∈ l))
section
variable {P : Program} {w : World} {K : PySem.W.Frag} {mg : Str → Option Value} {base : Heap}
theorem ok_holds {f f1 : Addr} {fd fd1 : FuncData} (Fn : Fun K "holds" "holds" sHol f fd) (F1 : FnG γ P w K mg base CX0 1 f1 fd1 ["row", "value"] (spR K RPla)) (m1 : mg "place" = some (.ref f1)) (k1 : PySem.W.keepIn K (.ref f1) = true) (b1 : Binds K fd1 ["row", "value"] []) (mL : mg "len" = none) : FnG γ P w K mg base CX0 2 f fd ["row", "value"] (spR K RHol) := by
  refine okR Fn scHol (fun ds d ⟨l, v, e, _⟩ => by rw [e]; rfl) fun cdv A outer s H B ow ds d Q E hgd hr hR k => ?_
  obtain ⟨l, v, rfl, asc, rfl⟩ := hR
  have hlen : ((l.map D.int).length : Int) = l.length := by rw [List.length_map]
  refine' rn_set (i := 2) (d := .int (cnt l v : Nat)) scHol.nd rfl (by first | exact .inl rfl | exact .inr rfl) ?h ?k
  case h => exact ve_R F1 hgd hr rfl m1 k1 b1 (va_cons (ve_var (i := 0) rfl rfl (by walk_at "vis")) (va_cons (ve_var (i := 1) rfl rfl (by walk_at "vis")) va_nil)) ⟨l, v, rfl, asc, rfl⟩
  case k =>
  intro B1 e1
  refine rn_ret (ve_is (ve_and (t := decide (cnt l v < l.length)) (u := decide (v ∈ l)) ?_ (fun h => ve_and1 ?_)) ?_) (k.ex e1)
  · exact ve_comp (ve_var (i := 2) rfl rfl (by walk_at "vis")) (ve_is (ve_bi (va_cons (ve_var (i := 0) rfl rfl (by walk_at "vis")) va_nil) rfl mL boot_len fo_lenT) (by rw [hlen])) (co_to co_lt (by congr 1; apply decide_eq_decide.mpr; omega))
  · have lt := of_decide_eq_true h
    have e : decide (v ∈ l) = decide (l[cnt l v] = v) := by
      apply decide_eq_decide.mpr
      rw [mem_cnt asc]
      exact ⟨fun z => z.2, fun z => ⟨lt, z⟩⟩
    rw [e]
    exact ve_comp (ve_sub (ve_var (d := .tup (l.map D.int)) (i := 0) rfl rfl (by walk_at "vis")) (ve_var (d := .int (cnt l v : Nat)) (i := 2) rfl rfl (by walk_at "vis")) (fun _ _ => rfl) (xo_tup (atN lt))) (ve_var (i := 1) rfl rfl (by walk_at "vis")) co_eqI
  · congr 1
    by_cases lt : cnt l v < l.length
    · simp [lt]
    · have z : ¬ v ∈ l := fun y => lt ((mem_cnt asc).mp y).1
      simp [lt, z]
end
open Per in
theorem prm_mul {r a b : Nat} (h : Prm r) (d : r ∣ a * b) : r ∣ a ∨ r ∣ b := by
  rcases h.2 _ (Nat.gcd_dvd_left r a) with e | e
  · exact .inr (Nat.Coprime.dvd_of_dvd_mul_left e d)
  · exact .inl (by rw [← e]; exact Nat.gcd_dvd_right r a)
open Per in
theorem prm_eq {r p : Nat} (h : Prm r) (hp : Prm p) (d : r ∣ p) : r = p := by
  rcases hp.2 r d with e | e
  · have := h.1
    omega
  · exact e
/-- how far the search for primes is: num is what is left of n, all smaller candidates are done, L is found -/
structure Srch (n num p : Nat) (L : List Nat) : Prop where
  one : 1 ≤ num
  two : 2 ≤ p
  low : ∀ r, Per.Prm r → r ∣ num → p ≤ r
  all : ∀ r, Per.Prm r → r ∣ n → r ∈ L ∨ r ∣ num
  ge : ∀ r ∈ L, 2 ≤ r ∧ r ≤ n
  small : 2 ^ L.length * num ≤ n
theorem Srch.le {n num p : Nat} {L : List Nat} (s : Srch n num p L) (h : 1 < num) : p ≤ num := by
  obtain ⟨r, hr, hd⟩ := Per.prm_ex num h
  exact Nat.le_trans (s.low r hr hd) (Nat.le_of_dvd s.one hd)
theorem Srch.numle {n num p : Nat} {L : List Nat} (s : Srch n num p L) : num ≤ n := Nat.le_trans (Nat.le_mul_of_pos_left num (Nat.two_pow_pos _)) s.small
theorem Srch.len {n num p : Nat} {L : List Nat} (s : Srch n num p L) (hn : n < 1073741824) : L.length < 30 := by
  apply Classical.byContradiction
  intro q
  have z : 2 ^ 30 ≤ 2 ^ L.length := Nat.pow_le_pow_right (by decide) (by omega)
  have y : 2 ^ L.length * 1 ≤ 2 ^ L.length * num := Nat.mul_le_mul_left _ s.one
  have x := s.small
  have e : (2 : Nat) ^ 30 = 1073741824 := by decide
  omega
theorem Srch.skip {n num p : Nat} {L : List Nat} (s : Srch n num p L) (h : ¬ p ∣ num) : Srch n num (p + 1) L :=
  ⟨s.one, by have := s.two; omega, fun r hr hd => by
    have z := s.low r hr hd
    have y : r ≠ p := fun e => h (e ▸ hd)
    omega, s.all, s.ge, s.small⟩
theorem Srch.isPrm {n num p : Nat} {L : List Nat} (s : Srch n num p L) (h : p ∣ num) : Per.Prm p := by
  obtain ⟨r, hr, hd⟩ := Per.prm_ex p s.two
  have z := s.low r hr (Nat.dvd_trans hd h)
  have y := Nat.le_of_dvd (by have := s.two; omega) hd
  have e : r = p := by omega
  exact e ▸ hr
/-- p is taken out once -/
theorem Srch.take {n num p : Nat} {L : List Nat} (s : Srch n num p L) (h : p ∣ num) : Srch n (num / p) p (L ++ [p]) := by
  have hp := s.isPrm h
  have pp : 0 < p := by have := s.two; omega
  have e : p * (num / p) = num := Nat.mul_div_cancel' h
  have one : 1 ≤ num / p := Nat.div_pos (Nat.le_of_dvd s.one h) pp
  refine ⟨one, s.two, fun r hr hd => s.low r hr (Nat.dvd_trans hd ⟨p, by rw [Nat.mul_comm]; exact e.symm⟩), fun r hr hd => ?_, fun r hr => ?_, ?_⟩
  · rcases s.all r hr hd with z | z
    · exact .inl (List.mem_append_left _ z)
    · rw [← e] at z
      rcases prm_mul hr z with y | y
      · exact .inl (List.mem_append_right _ (by rw [prm_eq hr hp y]; exact List.mem_singleton.mpr rfl))
      · exact .inr y
  · rcases List.mem_append.mp hr with z | z
    · exact s.ge r z
    · rw [List.mem_singleton.mp z]
      exact ⟨s.two, Nat.le_trans (Nat.le_of_dvd s.one h) s.numle⟩
  · rw [List.length_append, List.length_singleton, Nat.pow_succ]
    have z := s.small
    have y : 2 * (num / p) ≤ p * (num / p) := Nat.mul_le_mul_right _ s.two
    rw [e] at y
    have x : 2 ^ L.length * (2 * (num / p)) ≤ 2 ^ L.length * num := Nat.mul_le_mul_left _ y
    rw [← Nat.mul_assoc] at x
    omega
/-- p is taken out once more -/
theorem Srch.more {n num p : Nat} {L : List Nat} (s : Srch n num p L) (hp : Per.Prm p) (hL : p ∈ L) (h : p ∣ num) : Srch n (num / p) p L := by
  have pp : 0 < p := by have := s.two; omega
  have e : p * (num / p) = num := Nat.mul_div_cancel' h
  have one : 1 ≤ num / p := Nat.div_pos (Nat.le_of_dvd s.one h) pp
  refine ⟨one, s.two, fun r hr hd => s.low r hr (Nat.dvd_trans hd ⟨p, by rw [Nat.mul_comm]; exact e.symm⟩), fun r hr hd => ?_, s.ge, ?_⟩
  · rcases s.all r hr hd with z | z
    · exact .inl z
    · rw [← e] at z
      rcases prm_mul hr z with y | y
      · exact .inl (by rw [prm_eq hr hp y]; exact hL)
      · exact .inr y
  · exact Nat.le_trans (Nat.mul_le_mul_left _ (Nat.div_le_self num p)) s.small
end
section
abbrev natD (n : Nat) : D := .int (n : Nat)
abbrev sPri : Stmt := s_primes_of
theorem scPri : FnScope ["number", "primes", "prime"] ["number"] (defScope sPri) := ⟨rfl, rfl, rfl, by decide +kernel, rfl, by decide +kernel, by decide +kernel⟩
def GPri (ds : List D) : Prop := ∃ n : Nat, ds = [natD n] ∧ 1 ≤ n ∧ n < 1073741824
def RPri (ds : List D) (d : D) : Prop := ∃ (n : Nat) (L : List Nat), ds = [natD n] ∧ d = .lst (L.map natD) ∧ (∀ r, Per.Prm r → r ∣ n → r ∈ L) ∧ (∀ r ∈ L, 2 ≤ r ∧ r ≤ n) ∧ L.length < 30
theorem mod_dvd {a b : Nat} : ((a : Int) % (b : Int) = 0) ↔ b ∣ a := by
  have e : (a : Int) % (b : Int) = ((a % b : Nat) : Int) := rfl
  rw [e]
  constructor
  · intro h
    exact Nat.dvd_of_mod_eq_zero (by omega)
  · intro h
    have := Nat.mod_eq_zero_of_dvd h
    omega
theorem sq_le {p n : Nat} (h : (p : Int) * (p : Int) ≤ (n : Int)) : p * p ≤ n := by
  have z : ((p * p : Nat) : Int) ≤ (n : Int) := by rw [Int.natCast_mul]; exact h
  omega
theorem sq_lt {p n : Nat} (h : ¬ (p : Int) * (p : Int) ≤ (n : Int)) : n < p * p := by
  have z : ¬ ((p * p : Nat) : Int) ≤ (n : Int) := by rw [Int.natCast_mul]; exact h
  omega
/-- what is left is a prime -/
theorem Srch.last {n num p : Nat} {L : List Nat} (s : Srch n num p L) (h : 1 < num) (q : num < p * p) : ∀ r, Per.Prm r → r ∣ n → r ∈ L ++ [num] := fun r hr hd => by
  rcases s.all r hr hd with z | z
  · exact List.mem_append_left _ z
  · obtain ⟨k, hk⟩ := z
    by_cases k1 : k = 1
    · rw [k1, Nat.mul_one] at hk
      exact List.mem_append_right _ (by rw [hk]; exact List.mem_singleton.mpr rfl)
    · have k0 : k ≠ 0 := fun e => by
        rw [e, Nat.mul_zero] at hk
        omega
      obtain ⟨t, ht, htd⟩ := Per.prm_ex k (by omega)
      have y1 := s.low r hr ⟨k, hk⟩
      have y2 := s.low t ht (Nat.dvd_trans htd ⟨r, by rw [Nat.mul_comm]; exact hk⟩)
      have y3 := Nat.le_of_dvd (by omega) htd
      have y4 : p * p ≤ r * k := Nat.mul_le_mul y1 (Nat.le_trans y2 y3)
      omega
theorem Srch.lastge {n num p : Nat} {L : List Nat} (s : Srch n num p L) (h : 1 < num) : ∀ r ∈ L ++ [num], 2 ≤ r ∧ r ≤ n := fun r hr => by
  rcases List.mem_append.mp hr with z | z
  · exact s.ge r z
  · rw [List.mem_singleton.mp z]
    exact ⟨h, s.numle⟩
theorem Srch.lastlen {n num p : Nat} {L : List Nat} (s : Srch n num p L) (h : 1 < num) (hn : n < 1073741824) : (L ++ [num]).length < 30 := by
  rw [List.length_append, List.length_singleton]
  apply Classical.byContradiction
  intro q
  have z : 2 ^ 29 ≤ 2 ^ L.length := Nat.pow_le_pow_right (by decide) (by omega)
  have y : 2 ^ L.length * 2 ≤ 2 ^ L.length * num := Nat.mul_le_mul_left _ h
  have x := s.small
  have e : (2 : Nat) ^ 29 = 536870912 := by decide
  omega
section
variable {P : Program} {w : World} {K : PySem.W.Frag} {mg : Str → Option Value} {base : Heap}
theorem ok_primes {f : Addr} {fd : FuncData} (Fn : Fun K "primes_of" "primes_of" sPri f fd) : FnG γ P w K mg base CX0 1 f fd ["number"] (spE K GPri RPri) := by
  refine okE Fn scPri (fun ds ⟨n, e, _⟩ => by rw [e]; rfl) fun cdv A outer s H B ow ds Q E hgd hr hG k => ?_
  obtain ⟨n, rfl, hn1, hn2⟩ := hG
  refine' rn_newL (j := 1) (ds := []) scPri.nd rfl (by first | exact .inl rfl | exact .inr rfl) va_nil (Nat.zero_le _) ?k
  case k =>
  intro B1 q e1 hq
  refine' rn_set (i := 2) (d := natD 2) scPri.nd rfl (by first | exact .inl rfl | exact .inr rfl) ve_int ?k
  case k =>
  intro B2 e2
  refine' rn_while (fun m env ow' => ∃ (num p : Nat) (L : List Nat), env = [some (natD num), some (.ob (.ref q)), some (natD p)] ∧ ow' = ou ow q (.lst (L.map natD)) ∧ Srch n num p L ∧ p ≤ n + 1 ∧ m = n + 1 - p) PassesOwn.never
    ⟨_, n, 2, [], rfl, rfl, ⟨hn1, Nat.le_refl _, fun r hr _ => hr.1, fun r _ hd => .inr hd, fun r hr => absurd hr (by simp), by simp⟩, by omega, rfl⟩ ?hs
  case hs =>
    rintro B3 m env' ow' e3 ⟨num, p, L, rfl, rfl, S, pb, rfl⟩
    refine ⟨decide ((p : Int) * (p : Int) ≤ (num : Int)), ?_, fun t B4 e4 => ?_, fun t B4 e4 => ?_⟩
    · exact vt_comp (ve_bin (ve_var (i := 2) rfl rfl (by walk_at "vis")) (ve_var (i := 2) rfl rfl (by walk_at "vis")) (bo_mulR (by omega))) (ve_var (i := 0) rfl rfl (by walk_at "vis")) co_le
    · have sq : p * p ≤ num := sq_le (of_decide_eq_true t)
      have num1 : 1 < num := by
        have y := S.two
        have z := Nat.mul_le_mul y y
        omega
      have pn : p ≤ n := Nat.le_trans (S.le num1) S.numle
      have p2 := S.two
      have hlen := S.len hn2
      refine' rn_if (t := decide ((num : Int) % (p : Int) = 0)) ?h ?h1 ?h2
      case h => exact vt_comp (ve_bin (ve_var (i := 0) rfl rfl (by walk_at "vis")) (ve_var (i := 2) rfl rfl (by walk_at "vis")) (bo_mod (by omega))) ve_int co_eqI
      case h1 =>
        intro t1 B5 e5
        have dv : p ∣ num := mod_dvd.mp (of_decide_eq_true t1)
        refine' rn_app (q := q) (d := natD p) ?ho ou_same ?he ?hl ?k
        case ho => exact ve_var (i := 1) rfl rfl (by walk_at "vis")
        case he => exact ve_var (i := 2) rfl rfl (by walk_at "vis")
        case hl => rw [List.length_map]; omega
        case k =>
        intro B6 e6
        have eo : ou (ou ow q (.lst (L.map natD))) q (.lst (L.map natD ++ [natD p])) = ou ow q (.lst ((L ++ [p]).map natD)) := by rw [ou_ou, List.map_append]; rfl
        rw [eo]
        refine' rn_while (fun m2 env ow' => ∃ num2 : Nat, env = [some (natD num2), some (.ob (.ref q)), some (natD p)] ∧ ow' = ou ow q (.lst ((L ++ [p]).map natD)) ∧ (num2 = num ∨ Srch n num2 p (L ++ [p])) ∧ num2 = m2) PassesOwn.never ⟨_, num, rfl, rfl, .inl rfl, rfl⟩ ?hs2
        case hs2 =>
          rintro B7 m2 env2 ow2 e7 ⟨num2, rfl, rfl, hS, rfl⟩
          refine ⟨decide ((num2 : Int) % (p : Int) = 0), ?_, fun t2 B8 e8 => ?_, fun t2 B8 e8 => ?_⟩
          · exact vt_comp (ve_bin (ve_var (i := 0) rfl rfl (by walk_at "vis")) (ve_var (i := 2) rfl rfl (by walk_at "vis")) (bo_mod (by omega))) ve_int co_eqI
          · have dv2 : p ∣ num2 := mod_dvd.mp (of_decide_eq_true t2)
            have S2 : Srch n (num2 / p) p (L ++ [p]) := by
              rcases hS with e | S2
              · rw [e]; exact S.take dv
              · exact S2.more (S.isPrm dv) (by simp) dv2
            have pos2 : 1 ≤ num2 := by
              rcases hS with e | S2
              · omega
              · exact S2.one
            refine' rn_set (i := 0) (d := natD (num2 / p)) scPri.nd rfl (by first | exact .inl rfl | exact .inr rfl) ?h ?k
            case h => exact ve_bin (ve_var (i := 0) rfl rfl (by walk_at "vis")) (ve_var (i := 2) rfl rfl (by walk_at "vis")) (bo_div (by omega) (by omega))
            case k =>
            intro B9 e9
            refine rn_nextW ?_ (e8.trans e9)
            exact ⟨_, Nat.div_lt_self pos2 (by omega), num2 / p, rfl, rfl, .inr S2, rfl⟩
          · have nd : ¬ p ∣ num2 := fun z => of_decide_eq_false t2 (mod_dvd.mpr z)
            have S2 : Srch n num2 p (L ++ [p]) := by
              rcases hS with e | S2
              · exact absurd (e ▸ dv) nd
              · exact S2
            refine rn_go ?_
            refine' rn_addTo (j := 2) (n := (p : Int)) scPri.nd rfl (by first | exact .inl rfl | exact .inr rfl) rfl ve_int ?k
            case k =>
            intro B9 e9
            refine rn_nextW ?_ (e4.trans (e5.trans (e6.trans (e7.trans (e8.trans e9)))))
            exact ⟨_, by omega, num2, p + 1, L ++ [p], rfl, rfl, S2.skip nd, by omega, rfl⟩
      case h2 =>
        intro t1 B5 e5
        have nd : ¬ p ∣ num := fun z => of_decide_eq_false t1 (mod_dvd.mpr z)
        refine rn_go ?_
        refine' rn_addTo (j := 2) (n := (p : Int)) scPri.nd rfl (by first | exact .inl rfl | exact .inr rfl) rfl ve_int ?k
        case k =>
        intro B6 e6
        refine rn_nextW ?_ (e4.trans (e5.trans e6))
        exact ⟨_, by omega, num, p + 1, L, rfl, rfl, S.skip nd, by omega, rfl⟩
    · have sq : num < p * p := sq_lt (of_decide_eq_false t)
      refine' rn_if (t := decide ((1 : Int) < (num : Int))) ?h ?h1 ?h2
      case h => exact vt_comp (ve_var (i := 0) rfl rfl (by walk_at "vis")) ve_int co_gt
      case h1 =>
        intro t1 B5 e5
        have num1 : 1 < num := by
          have := of_decide_eq_true t1
          omega
        have hlen := S.len hn2
        refine' rn_app (q := q) (d := natD num) ?ho ou_same ?he ?hl ?k
        case ho => exact ve_var (i := 1) rfl rfl (by walk_at "vis")
        case he => exact ve_var (i := 0) rfl rfl (by walk_at "vis")
        case hl => rw [List.length_map]; omega
        case k =>
        intro B6 e6
        have eo : ou (ou ow q (.lst (L.map natD))) q (.lst (L.map natD ++ [natD num])) = ou ow q (.lst ((L ++ [num]).map natD)) := by rw [ou_ou, List.map_append]; rfl
        rw [eo]
        refine rn_go ?_
        refine' rn_freeze (j := 1) (q := q) rfl ou_same ?k
        case k =>
        intro B7 e7
        refine rn_ret (ve_var (d := .lst ((L ++ [num]).map natD)) (i := 1) rfl rfl (by walk_at "vis")) (fun F2 H2 v x2 w2 r2 => k _ ⟨n, L ++ [num], rfl, rfl, S.last num1 sq, S.lastge num1, S.lastlen num1 hn2⟩ F2 H2 v (e1.trans (e2.trans (e3.trans (e4.trans (e5.trans (e6.trans (e7.trans x2))))))) (w2.drop fun b o hb => ?_) r2)
        have nq : b ≠ q := fun z => by rw [z, hq] at hb; cases hb
        rw [oz_ne nq, ou_ne nq]
        exact hb
      case h2 =>
        intro t1 B5 e5
        have one : num = 1 := by
          have h1 := of_decide_eq_false t1
          have h2 := S.one
          omega
        subst one
        refine rn_go ?_
        refine' rn_freeze (j := 1) (q := q) rfl ou_same ?k
        case k =>
        intro B6 e6
        refine rn_ret (ve_var (d := .lst (L.map natD)) (i := 1) rfl rfl (by walk_at "vis")) (fun F2 H2 v x2 w2 r2 => k _ ⟨n, L, rfl, rfl, fun r hr hd => ?_, S.ge, S.len hn2⟩ F2 H2 v (e1.trans (e2.trans (e3.trans (e4.trans (e5.trans (e6.trans x2)))))) (w2.drop fun b o hb => ?_) r2)
        · rcases S.all r hr hd with z | z
          · exact z
          · have := Nat.le_of_dvd (by decide) z
            have := hr.1
            omega
        · have nq : b ≠ q := fun z => by rw [z, hq] at hb; cases hb
          rw [oz_ne nq, ou_ne nq]
          exact hb
end
end
section
def toI (n : Nat) : Int := (n : Int)
theorem natD_ints (M : List Nat) : M.map natD = (M.map toI).map D.int := by rw [List.map_map]; rfl
theorem ints_inj : ∀ {M N : List Nat}, M.map toI = N.map toI ↔ M = N
  | [], [] => by simp
  | [], _ :: _ => by simp
  | _ :: _, [] => by simp
  | a :: M, b :: N => by
    rw [List.map_cons, List.map_cons, List.cons_eq_cons, List.cons_eq_cons, ints_inj (M := M) (N := N)]
    constructor
    · rintro ⟨h, r⟩
      have h' : (a : Int) = (b : Int) := h
      exact ⟨by omega, r⟩
    · rintro ⟨h, r⟩
      exact ⟨by rw [h], r⟩
theorem cut_from {l : List D} {c : Nat} (h : c ≤ l.length) : Vd.cutD l (some (c : Int)) none = l.drop c := by
  unfold Vd.cutD
  rw [HT.sIx_nat, HT.sIx_none, Nat.min_eq_left h]
  exact List.take_of_length_le (by rw [List.length_drop]; omega)
theorem cut_to {l : List D} {c : Nat} (h : c ≤ l.length) : Vd.cutD l none (some (c : Int)) = l.take c := by
  unfold Vd.cutD
  rw [HT.sIx_nat, HT.sIx_none, Nat.min_eq_left h, List.drop_zero, Nat.sub_zero]
abbrev sRep : Stmt := s_repeats
theorem scRep : FnScope ["period", "marks", "parts", "many", "stride", "mark"] ["period", "marks", "parts"] (defScope sRep) := ⟨rfl, rfl, rfl, by decide +kernel, rfl, by decide +kernel, by decide +kernel⟩
instance (M : List Nat) (k s c : Nat) : Decidable (Per.Rep M k s c) := by unfold Per.Rep; exact inferInstance
def RRep (ds : List D) (d : D) : Prop := ∃ (n k : Nat) (M : List Nat), ds = [natD n, .tup (M.map natD), natD k] ∧ 1 ≤ k ∧ k < 1073741824 ∧ M.length ≤ 100000 ∧ d = .bl (decide (Per.Rep M k (n / k) (M.length / k)))
section
variable {P : Program} {w : World} {K : PySem.W.Frag} {mg : Str → Option Value} {base : Heap}
theorem ok_repeats {f : Addr} {fd : FuncData} (Fn : Fun K "repeats" "repeats" sRep f fd) (mL : mg "len" = none) (mLi : mg "list" = none) : FnG γ P w K mg base CX0 1 f fd ["period", "marks", "parts"] (spR K RRep) := by
  refine okR Fn scRep (fun ds d ⟨n, k, M, e, _⟩ => by rw [e]; rfl) fun cdv A outer s H B ow ds d Q E hgd hr hR kQ => ?_
  obtain ⟨n, k, M, rfl, hk1, hk2, hM, rfl⟩ := hR
  have hu64 : A.units + 3 + 64 < cLine := by
    have z := hr.un
    have z2 : A.units + 3 + 16 * 0 + 200 < cLine := z
    omega
  have hlen : (((M.map natD).length : Nat) : Int) = ((M.length : Nat) : Int) := by rw [List.length_map]
  obtain ⟨c, hc⟩ : ∃ c, c = M.length / k := ⟨_, rfl⟩
  obtain ⟨st, hst⟩ : ∃ st, st = n / k := ⟨_, rfl⟩
  rw [← hc, ← hst] at kQ
  have cle : c ≤ M.length := by rw [hc]; exact Nat.div_le_self _ _
  refine' rn_set (i := 3) (d := natD c) scRep.nd rfl (by first | exact .inl rfl | exact .inr rfl) ?h ?k
  case h => exact ve_is (ve_bin (ve_bi (va_cons (ve_var (d := .tup (M.map natD)) (i := 1) rfl rfl (by walk_at "vis")) va_nil) rfl mL boot_len fo_lenT) (ve_var (i := 2) rfl rfl (by walk_at "vis")) (bo_div (by omega) (by omega))) (by rw [hlen, hc]; rfl)
  case k =>
  intro B1 e1
  refine' rn_if (t := !decide ((c : Int) * (k : Int) = (M.length : Int))) ?h ?h1 ?h2
  case h => exact vt_comp (ve_bin (ve_var (i := 3) rfl rfl (by walk_at "vis")) (ve_var (i := 2) rfl rfl (by walk_at "vis")) (bo_mulL (by omega))) (ve_is (ve_bi (va_cons (ve_var (d := .tup (M.map natD)) (i := 1) rfl rfl (by walk_at "vis")) va_nil) rfl mL boot_len fo_lenT) (by rw [hlen])) co_neI
  case h1 =>
    intro t B2 e2
    have ne : ¬ c * k = M.length := by
      intro z
      have y : (c : Int) * (k : Int) = (M.length : Int) := by rw [← z]; rfl
      rw [decide_eq_true y] at t
      cases t
    have no : decide (Per.Rep M k st c) = false := decide_eq_false fun z => ne z.1
    rw [no] at kQ
    exact rn_ret ve_bl (kQ.ex (e1.trans e2))
  case h2 =>
    intro t B2 e2
    have eq : c * k = M.length := by
      apply Classical.byContradiction
      intro z
      have y : ¬ (c : Int) * (k : Int) = (M.length : Int) := fun q => z (by exact Int.ofNat.inj q)
      rw [decide_eq_false y] at t
      cases t
    refine rn_go ?_
    refine' rn_set (i := 4) (d := natD st) scRep.nd rfl (by first | exact .inl rfl | exact .inr rfl) ?h ?k
    case h => exact ve_is (ve_bin (ve_var (i := 0) rfl rfl (by walk_at "vis")) (ve_var (i := 2) rfl rfl (by walk_at "vis")) (bo_div (by omega) (by omega))) (by rw [hst]; rfl)
    case k =>
    intro B3 e3
    have dd : decide (Per.Rep M k st c) = decide ((M.drop c).map toI = ((M.take (M.length - c)).map (· + st)).map toI) := by
      apply decide_eq_decide.mpr
      rw [ints_inj]
      exact ⟨fun z => z.2, fun z => ⟨eq, z⟩⟩
    rw [dd] at kQ
    refine rn_ret (ve_comp (d1 := .lst (((M.drop c).map toI).map D.int)) (d2 := .lst ((((M.take (M.length - c)).map (· + st)).map toI).map D.int)) ?_ ?_ (co_eqIL hu64)) (kQ.ex (e1.trans (e2.trans e3)))
    · refine ve_is (ve_ty (va_cons (ve_sliceT (ve_var (d := .tup (M.map natD)) (i := 1) rfl rfl (by walk_at "vis")) (vp_some (ve_var (d := .int (c : Nat)) (i := 3) rfl rfl (by walk_at "vis"))) vp_none) va_nil) rfl mLi boot_list to_listT) ?_
      rw [cut_from (by rw [List.length_map]; exact cle), ← List.map_drop, natD_ints]
    · refine ve_is (ve_lc (j := 5) (fun _ => true) (fun d => match d with | .int m => .int (m + st) | d => d) (ds := (M.take (M.length - c)).map natD) rfl scRep.nd ?_ (blkOk_by (N := ["period", "marks", "parts", "many", "stride", "mark"]) (sc := defScope sRep) (by decide +kernel)) ?_ (fun _ _ _ _ _ => pg_name scRep.nd rfl (.inl rfl)) (fun _ _ _ _ _ _ _ _ _ => vts_nil) ?_) ?_
      · refine vi_tup (ve_is (ve_sliceT (ve_var (d := .tup (M.map natD)) (i := 1) rfl rfl (by walk_at "vis")) vp_none (vp_some (n := ((M.length - c : Nat) : Int)) ?_)) ?_)
        · exact ve_is (ve_bin (ve_bi (va_cons (ve_var (d := .tup (M.map natD)) (i := 1) rfl rfl (by walk_at "vis")) va_nil) rfl mL boot_len fo_lenT) (ve_var (d := .int (c : Nat)) (i := 3) rfl rfl (by walk_at "vis")) bo_sub) (by rw [hlen]; congr 1; omega)
        · rw [cut_to (by rw [List.length_map]; omega), ← List.map_take]
      · rw [List.length_map, List.length_take]; omega
      · intro d ow' hd _ sub s0 H0 C0 cl fp
        obtain ⟨m, hm, rfl⟩ := List.mem_map.mp hd
        exact ve_bin (ve_var (d := natD m) (i := 5) rfl rfl (by walk_at "vis")) (ve_var (d := natD st) (i := 4) rfl rfl (by walk_at "vis")) bo_add
      · rw [List.filter_eq_self.mpr (fun _ _ => rfl), List.map_map, List.map_map, List.map_map]
        congr 1
end
end
section
open Per in
theorem exists_lst (n : Nat) : ∀ M : List Nat, Pat n M → ∃ a A, Lst n M a A := by
  induction n using Nat.strongRecOn with
  | ind n ih =>
    intro M p
    by_cases irr : ∀ q, Prm q → q ∣ n → ¬ P (fn n M) (n / q)
    · exact ⟨n, M, Lst.of_irr p rfl irr⟩
    · have : ∃ q, Prm q ∧ q ∣ n ∧ P (fn n M) (n / q) := by
        apply Classical.byContradiction
        intro no
        exact irr fun q h1 h2 h3 => no ⟨q, h1, h2, h3⟩
      obtain ⟨q, hq, hd, hP⟩ := this
      have q2 : 0 < q := by have := hq.1; omega
      have r : Rep M q (n / q) (M.length / q) := by
        apply Classical.byContradiction
        intro no
        exact p.stop q2 hd no hP
      obtain ⟨p2, e2⟩ := p.step q2 hd r
      obtain ⟨a, A, h⟩ := ih (n / q) (Nat.div_lt_self p.pos hq.1) _ p2
      refine ⟨a, A, h.pat, h.eq.trans e2, fun m hm hP2 => h.min m hm ?_⟩
      rw [e2]
      exact hP2
/-- r makes the pattern of length a no shorter -/
def Irr (f : Nat → Bool) (a r : Nat) : Prop := r ∣ a → ¬ Per.P f (a / r)
theorem Irr.step {f : Nat → Bool} {a r k : Nat} (h : Irr f a r) (d : k ∣ a) (hk : 0 < k) (hr : 0 < r) : Irr f (a / k) r := fun hd hP => by
  obtain ⟨b, rfl⟩ := d
  rw [Nat.mul_div_cancel_left _ hk] at hd hP
  obtain ⟨c, rfl⟩ := hd
  rw [Nat.mul_div_cancel_left _ hr] at hP
  have e : k * (r * c) = r * (k * c) := Nat.mul_left_comm ..
  refine h ⟨k * c, e⟩ ?_
  rw [e, Nat.mul_div_cancel_left _ hr]
  exact hP.dvd (Nat.dvd_mul_left _ _)
abbrev sSho : Stmt := s_shortest
theorem scSho : FnScope ["period", "marks", "prime"] ["period", "marks"] (defScope sSho) := ⟨rfl, rfl, rfl, by decide +kernel, rfl, by decide +kernel, by decide +kernel⟩
def RSho (ds : List D) (d : D) : Prop := ∃ (n a : Nat) (M A : List Nat), ds = [natD n, .tup (M.map natD)] ∧ Per.Pat n M ∧ n < 1073741824 ∧ M.length ≤ 100000 ∧ Per.Lst n M a A ∧ d = .tup [natD a, .tup (A.map natD)]
/-- the loop: a, A tells the set of n, M, the r of done make it no shorter -/
structure Shr (n : Nat) (M : List Nat) (done : List Nat) (a : Nat) (A : List Nat) : Prop where
  pat : Per.Pat a A
  eq : Per.fn a A = Per.fn n M
  dv : a ∣ n
  len : A.length ≤ M.length
  irr : ∀ r ∈ done, Irr (Per.fn n M) a r
section
variable {P : Program} {w : World} {K : PySem.W.Frag} {mg : Str → Option Value} {base : Heap}
theorem ok_shortest {f f1 f2 : Addr} {fd fd1 fd2 : FuncData} (Fn : Fun K "shortest" "shortest" sSho f fd) (F1 : FnG γ P w K mg base CX0 1 f1 fd1 ["number"] (spE K GPri RPri)) (m1 : mg "primes_of" = some (.ref f1)) (k1 : PySem.W.keepIn K (.ref f1) = true) (b1 : Binds K fd1 ["number"] [])
    (F2 : FnG γ P w K mg base CX0 1 f2 fd2 ["period", "marks", "parts"] (spR K RRep)) (m2 : mg "repeats" = some (.ref f2)) (k2 : PySem.W.keepIn K (.ref f2) = true) (b2 : Binds K fd2 ["period", "marks", "parts"] []) (mL : mg "len" = none) : FnG γ P w K mg base CX0 2 f fd ["period", "marks"] (spR K RSho) := by
  refine okR Fn scSho (fun ds d ⟨n, a, M, A, e, _⟩ => by rw [e]; rfl) fun cdv A0 outer s H B ow ds d Q E hgd hrm hR kQ => ?_
  obtain ⟨n, a0, M, A00, rfl, pat, hn, hM, hL, rfl⟩ := hR
  have npos := pat.pos
  refine' rn_forE (fun ds => ∃ L : List Nat, ds = L.map natD ∧ (∀ r, Per.Prm r → r ∣ n → r ∈ L) ∧ (∀ r ∈ L, 2 ≤ r ∧ r ≤ n)) (g := gName 2) (f := fun d env => env.set 2 (some d)) (fun ds i env ow' => ow = ow' ∧ ∃ (a : Nat) (A L : List Nat) (z : Option D), ds = L.map natD ∧ env = [some (natD a), some (.tup (A.map natD)), z] ∧ Shr n M (L.take i) a A) PassesOwn.never rfl ?hi (pg_name scSho.nd rfl (.inl rfl)) (fun ow d => gd_name 2) ?h0 ?hs ?hd
  case hi =>
    refine Vm.imp (vm_E F1 hgd hrm rfl m1 k1 b1 (va_cons (ve_var (i := 0) rfl rfl (by walk_at "vis")) va_nil) ⟨n, rfl, npos, hn⟩) ?_
    rintro d ow2 ⟨rfl, n2, L, e, rfl, h1, h2, h3⟩
    have e2 : natD n = natD n2 := by simpa using e
    have e3 : n = n2 := by
      have : (n : Int) = (n2 : Int) := by injection e2
      omega
    subst e3
    exact ⟨rfl, _, rfl, L, rfl, h1, h2⟩
  case h0 =>
    rintro ds ⟨L, rfl, _⟩
    exact ⟨rfl, n, M, L, none, rfl, rfl, pat, rfl, Nat.dvd_refl n, Nat.le_refl _, fun r hr => absurd hr (by simp)⟩
  case hs =>
    rintro ds B1 i d env' ow' ⟨L0, hL0, hall, hge⟩ e1 hd ⟨rfl, a, A, L, z, rfl, rfl, S⟩
    have eL : L = L0 := by
      have y : L.map toI = L0.map toI := by
        have x := congrArg (fun l : List D => l.map fun d => match d with | .int i => i | _ => 0) hL0
        simp only [List.map_map] at x
        exact x
      exact ints_inj.mp y
    subst eL
    obtain ⟨r, hr, rfl⟩ : ∃ r, L[i]? = some r ∧ d = natD r := by
      rw [List.getElem?_map] at hd
      cases q : L[i]? with
      | none => rw [q] at hd; cases hd
      | some r => rw [q] at hd; exact ⟨r, rfl, (Option.some.inj hd).symm⟩
    have rL : r ∈ L := List.mem_of_getElem? hr
    obtain ⟨r2, rn⟩ := hge r rL
    refine' rn_while (fun m env ow' => ow = ow' ∧ ∃ A : List Nat, env = [some (natD m), some (.tup (A.map natD)), some (natD r)] ∧ Shr n M (L.take i) m A) PassesOwn.never ⟨a, rfl, A, rfl, S⟩ ?hs2
    case hs2 =>
      rintro B2 m env2 ow2 e2 ⟨rfl, A, rfl, S⟩
      have mle : m ≤ n := Nat.le_of_dvd npos S.dv
      have Al : A.length ≤ 100000 := Nat.le_trans S.len hM
      refine ⟨decide ((m : Int) % (r : Int) = 0) && decide (Per.Rep A r (m / r) (A.length / r)), ?_, fun t B3 e3 => ?_, fun t B3 e3 => ?_⟩
      · refine vt_w (vw_and ?_ (fun _ => vw_and1 (vt_val ?_)) (pw_all_and _ _))
        · exact vt_comp (ve_bin (ve_var (i := 0) rfl rfl (by walk_at "vis")) (ve_var (i := 2) rfl rfl (by walk_at "vis")) (bo_mod (by omega))) ve_int co_eqI
        · exact ve_R F2 hgd hrm rfl m2 k2 b2 (va_cons (ve_var (i := 0) rfl rfl (by walk_at "vis")) (va_cons (ve_var (i := 1) rfl rfl (by walk_at "vis")) (va_cons (ve_var (i := 2) rfl rfl (by walk_at "vis")) va_nil))) ⟨m, r, A, rfl, by omega, by omega, Al, rfl⟩
      · rw [Bool.and_eq_true] at t
        have dv : r ∣ m := mod_dvd.mp (of_decide_eq_true t.1)
        have rep := of_decide_eq_true t.2
        obtain ⟨p2, eq2⟩ := S.pat.step (by omega) dv rep
        have lt : m / r < m := Nat.div_lt_self S.pat.pos r2
        refine' rn_set (i := 0) (d := natD (m / r)) scSho.nd rfl (by first | exact .inl rfl | exact .inr rfl) ?h ?k
        case h => exact ve_bin (ve_var (i := 0) rfl rfl (by walk_at "vis")) (ve_var (i := 2) rfl rfl (by walk_at "vis")) (bo_div (by omega) (by omega))
        case k =>
        intro B4 e4
        have hlen : (((A.map natD).length : Nat) : Int) = ((A.length : Nat) : Int) := by rw [List.length_map]
        refine' rn_set (i := 1) (d := .tup ((A.take (A.length / r)).map natD)) scSho.nd rfl (by first | exact .inl rfl | exact .inr rfl) ?h ?k
        case h =>
          refine ve_is (ve_sliceT (ve_var (d := .tup (A.map natD)) (i := 1) rfl rfl (by walk_at "vis")) vp_none (vp_some (n := ((A.length / r : Nat) : Int)) ?_)) ?_
          · exact ve_is (ve_bin (ve_bi (va_cons (ve_var (d := .tup (A.map natD)) (i := 1) rfl rfl (by walk_at "vis")) va_nil) rfl mL boot_len fo_lenT) (ve_var (i := 2) rfl rfl (by walk_at "vis")) (bo_div (by omega) (by omega))) (by rw [hlen]; rfl)
          · rw [cut_to (by rw [List.length_map]; exact Nat.div_le_self _ _), ← List.map_take]
        case k =>
        intro B5 e5
        refine rn_nextW ?_ (e3.trans (e4.trans e5))
        refine ⟨m / r, lt, rfl, _, rfl, p2, eq2.trans S.eq, Nat.dvd_trans ⟨r, by rw [Nat.mul_comm]; exact (Nat.mul_div_cancel' dv).symm⟩ S.dv, Nat.le_trans (by rw [List.length_take]; exact Nat.min_le_right _ _) S.len, fun q hq => (S.irr q hq).step dv (by omega) ?_⟩
        have := hge q (List.mem_of_mem_take hq)
        omega
      · refine rn_nextW ?_ (e2.trans e3)
        refine ⟨rfl, m, A, L, _, rfl, rfl, S.pat, S.eq, S.dv, S.len, fun q hq => ?_⟩
        rw [List.take_add_one, hr] at hq
        rcases List.mem_append.mp hq with z | z
        · exact S.irr q z
        · have e : q = r := by simpa using z
          subst e
          intro dv hP
          have y : decide ((m : Int) % (q : Int) = 0) = true := decide_eq_true (mod_dvd.mpr dv)
          rw [y, Bool.true_and] at t
          refine S.pat.stop (by omega) dv (of_decide_eq_false t) ?_
          rw [S.eq]
          exact hP
  case hd =>
    rintro ds B1 env' ow' ⟨L0, hL0, hall, hge⟩ e1 ⟨rfl, a, A, L, z, rfl, rfl, S⟩
    have eL : L = L0 := by
      have y : L.map toI = L0.map toI := by
        have x := congrArg (fun l : List D => l.map fun d => match d with | .int i => i | _ => 0) hL0
        simp only [List.map_map] at x
        exact x
      exact ints_inj.mp y
    subst eL
    have done : L.take (L.map natD).length = L := by rw [List.length_map, List.take_length]
    have lst : Per.Lst n M a A := Per.Lst.of_irr S.pat S.eq fun q hq hd hP => by
      have qL := hall q hq (Nat.dvd_trans hd S.dv)
      refine S.irr q (by rw [done]; exact qL) hd ?_
      rw [← S.eq]
      exact hP
    obtain ⟨ea, eA⟩ := Per.Lst.uniq hL lst
    subst ea
    subst eA
    exact rn_ret (ve_tup (va_cons (ve_var (i := 0) rfl rfl (by walk_at "vis")) (va_cons (ve_var (i := 1) rfl rfl (by walk_at "vis")) va_nil)) (by show 2 ≤ 100000; decide)) (kQ.ex e1)
end
end
section
/-- o is the least marked number from low on -/
def NextIs (n : Nat) (M : List Nat) (low : Nat) : Option Nat → Prop
  | none => M = []
  | some x => low ≤ x ∧ Per.fn n M x = true ∧ ∀ y, low ≤ y → Per.fn n M y = true → x ≤ y
theorem NextIs.uniq {n low : Nat} {M : List Nat} : ∀ {o p : Option Nat}, NextIs n M low o → NextIs n M low p → o = p
  | none, none, _, _ => rfl
  | some x, some y, h, k => by
    have a := h.2.2 y k.1 k.2.1
    have b := k.2.2 x h.1 h.2.1
    rw [show x = y by omega]
  | none, some y, h, k => by
    have z := k.2.1
    rw [show M = [] from h] at z
    simp [Per.fn] at z
  | some y, none, k, h => by
    have z := k.2.1
    rw [show M = [] from h] at z
    simp [Per.fn] at z
theorem asc_toI {M : List Nat} (a : Per.Asc M) : AscI (M.map toI) := by
  unfold AscI
  rw [List.pairwise_map]
  exact a.imp fun h => by
    show ((_ : Nat) : Int) < ((_ : Nat) : Int)
    omega
def optD : Option Nat → D
  | none => .non
  | some x => natD x
section
open Per
variable {n low : Nat} {M : List Nat}
theorem next_here (p : Pat n M) (c : Nat) (hc : c = cnt (M.map toI) ((low % n : Nat) : Int)) (lt : c < M.length) : NextIs n M low (some (low / n * n + M[c])) := by
  have asc := asc_toI p.asc
  have len : (M.map toI).length = M.length := List.length_map ..
  have z := cnt_at (M.map toI) ((low % n : Nat) : Int) (by rw [len, ← hc]; exact lt)
  have ge : low % n ≤ M[c] := by
    have e : (M.map toI)[cnt (M.map toI) ((low % n : Nat) : Int)]'(by rw [len, ← hc]; exact lt) = ((M[c] : Nat) : Int) := by
      simp only [← hc, List.getElem_map]
      rfl
    rw [e] at z
    omega
  have hlt : M[c] < n := p.lt _ (List.getElem_mem lt)
  have dm := Nat.div_add_mod low n
  have dm' : low / n * n + low % n = low := by rw [Nat.mul_comm]; exact dm
  refine ⟨by omega, fn_mem.mpr ?_, fun y hy hf => ?_⟩
  · rw [Nat.mul_comm, Nat.mul_add_mod, Nat.mod_eq_of_lt hlt]
    exact List.getElem_mem lt
  · have hm := fn_mem.mp hf
    have dy : y / n * n + y % n = y := by rw [Nat.mul_comm]; exact Nat.div_add_mod y n
    by_cases q : y / n ≤ low / n
    · have q2 : low / n ≤ y / n := Nat.div_le_div_right hy
      have e : y / n = low / n := by omega
      rw [e] at dy
      obtain ⟨j, hj, ej⟩ := List.getElem_of_mem hm
      have cj : c ≤ j := by
        apply Classical.byContradiction
        intro no
        have w := cnt_lt (M.map toI) ((low % n : Nat) : Int) j (by rw [len]; exact hj) (by omega)
        rw [List.getElem_map] at w
        have w2 : ((M[j] : Nat) : Int) < ((low % n : Nat) : Int) := w
        omega
      have mono : M[c] ≤ M[j] := by
        by_cases e2 : c = j
        · subst e2
          exact Nat.le_refl _
        · exact Nat.le_of_lt (List.pairwise_iff_getElem.mp p.asc c j lt hj (by omega))
      omega
    · have z2 : (low / n + 1) * n ≤ y / n * n := Nat.mul_le_mul_right n (by omega)
      rw [Nat.succ_mul] at z2
      omega
theorem next_round (p : Pat n M) (c : Nat) (hc : c = cnt (M.map toI) ((low % n : Nat) : Int)) (eq : c = M.length) (h0 : 0 < M.length) : NextIs n M low (some ((low / n + 1) * n + M[0])) := by
  have len : (M.map toI).length = M.length := List.length_map ..
  have all : ∀ x ∈ M, x < low % n := by
    intro x hx
    obtain ⟨j, hj, ej⟩ := List.getElem_of_mem hx
    have w := cnt_lt (M.map toI) ((low % n : Nat) : Int) j (by rw [len]; exact hj) (by omega)
    rw [List.getElem_map] at w
    have w2 : ((M[j] : Nat) : Int) < ((low % n : Nat) : Int) := w
    omega
  have hlt : M[0] < n := p.lt _ (List.getElem_mem h0)
  have ml : low % n < n := Nat.mod_lt _ p.pos
  have dm' : low / n * n + low % n = low := by rw [Nat.mul_comm]; exact Nat.div_add_mod low n
  have sm : (low / n + 1) * n = low / n * n + n := Nat.succ_mul _ _
  refine ⟨by omega, fn_mem.mpr ?_, fun y hy hf => ?_⟩
  · rw [Nat.mul_comm, Nat.mul_add_mod, Nat.mod_eq_of_lt hlt]
    exact List.getElem_mem h0
  · have hm := fn_mem.mp hf
    have dy : y / n * n + y % n = y := by rw [Nat.mul_comm]; exact Nat.div_add_mod y n
    have q2 : low / n ≤ y / n := Nat.div_le_div_right hy
    by_cases q : y / n = low / n
    · have := all _ hm
      rw [q] at dy
      omega
    · have z2 : (low / n + 1) * n ≤ y / n * n := Nat.mul_le_mul_right n (by omega)
      obtain ⟨j, hj, ej⟩ := List.getElem_of_mem hm
      have mono : M[0] ≤ M[j] := by
        by_cases e2 : 0 = j
        · subst e2
          exact Nat.le_refl _
        · exact Nat.le_of_lt (List.pairwise_iff_getElem.mp p.asc 0 j h0 hj (by omega))
      omega
end
abbrev sMar : Stmt := s_marked_from
theorem scMar : FnScope ["period", "marks", "low", "rounds", "rest", "at"] ["period", "marks", "low"] (defScope sMar) := ⟨rfl, rfl, rfl, by decide +kernel, rfl, by decide +kernel, by decide +kernel⟩
def RMar (ds : List D) (d : D) : Prop := ∃ (n low : Nat) (M : List Nat) (o : Option Nat), ds = [natD n, .tup (M.map natD), natD low] ∧ Per.Pat n M ∧ n < 1073741824 ∧ NextIs n M low o ∧ d = optD o
theorem atD {M : List Nat} {c : Nat} (h : c < M.length) : L2.atI (M.map natD) (c : Int) = some (natD M[c]) := by
  unfold L2.atI L2.ixN
  rw [if_pos (by omega), if_pos (by rw [List.length_map]; omega)]
  simp [h]
section
variable {P : Program} {w : World} {K : PySem.W.Frag} {mg : Str → Option Value} {base : Heap}
theorem ok_marked {f f1 : Addr} {fd fd1 : FuncData} (Fn : Fun K "marked_from" "marked_from" sMar f fd) (F1 : FnG γ P w K mg base CX0 1 f1 fd1 ["row", "value"] (spR K RPla)) (m1 : mg "place" = some (.ref f1)) (k1 : PySem.W.keepIn K (.ref f1) = true) (b1 : Binds K fd1 ["row", "value"] []) (mL : mg "len" = none) (mD : mg "divmod" = none) :
    FnG γ P w K mg base CX0 2 f fd ["period", "marks", "low"] (spR K RMar) := by
  refine okR Fn scMar (fun ds d ⟨n, low, M, o, e, _⟩ => by rw [e]; rfl) fun cdv A0 outer s H B ow ds d Q E hgd hrm hR kQ => ?_
  obtain ⟨n, low, M, o, rfl, pat, hn, hO, rfl⟩ := hR
  have npos := pat.pos
  have hlen : (((M.map natD).length : Nat) : Int) = ((M.length : Nat) : Int) := by rw [List.length_map]
  refine' rn_if (t := decide ((M.length : Int) = 0)) ?h ?h1 ?h2
  case h => exact vt_comp (ve_is (ve_bi (va_cons (ve_var (d := .tup (M.map natD)) (i := 1) rfl rfl (by walk_at "vis")) va_nil) rfl mL boot_len fo_lenT) (by rw [hlen])) ve_int co_eqI
  case h1 =>
    intro t B1 e1
    have z := of_decide_eq_true t
    have e : M = [] := List.eq_nil_of_length_eq_zero (by omega)
    have eo : o = none := NextIs.uniq hO (show NextIs n M low none from e)
    subst eo
    exact rn_ret ve_non (kQ.ex e1)
  case h2 =>
    intro t B1 e1
    have z := of_decide_eq_false t
    have h0 : 0 < M.length := by omega
    refine rn_go ?_
    refine' rn_asg (g := gTup K 2 (gCons (gName 3) (gCons (gName 4) gNil))) (f := fun env => (env.set 3 (some (natD (low / n)))).set 4 (some (natD (low % n)))) (d := .tup [natD (low / n), natD (low % n)]) (pg_tup rfl (pgs_cons (pg_name scMar.nd rfl (.inl rfl)) (pgs_cons (pg_name scMar.nd rfl (.inl rfl)) pgs_nil))) ?h (gd_two 3 4) ?k
    case h => exact ve_bi (va_cons (ve_var (d := natD low) (i := 2) rfl rfl (by walk_at "vis")) (va_cons (ve_var (d := natD n) (i := 0) rfl rfl (by walk_at "vis")) va_nil)) rfl mD boot_divmod (fo_divmod (by omega) (by omega))
    case k =>
    intro B2 e2
    obtain ⟨c, hc⟩ : ∃ c, c = cnt (M.map toI) ((low % n : Nat) : Int) := ⟨_, rfl⟩
    have cle : c ≤ M.length := by
      rw [hc]
      have := cnt_le (M.map toI) ((low % n : Nat) : Int)
      rwa [List.length_map] at this
    refine' rn_set (i := 5) (d := natD c) scMar.nd rfl (by first | exact .inl rfl | exact .inr rfl) ?h ?k
    case h => exact ve_R F1 hgd hrm rfl m1 k1 b1 (va_cons (ve_var (d := .tup (M.map natD)) (i := 1) rfl rfl (by walk_at "vis")) (va_cons (ve_var (d := natD (low % n)) (i := 4) rfl rfl (by walk_at "vis")) va_nil)) ⟨M.map toI, ((low % n : Nat) : Int), by rw [natD_ints], asc_toI pat.asc, by rw [hc]⟩
    case k =>
    intro B3 e3
    refine' rn_if (t := decide ((c : Int) = (M.length : Int))) ?h ?h1 ?h2
    case h => exact vt_comp (ve_var (i := 5) rfl rfl (by walk_at "vis")) (ve_is (ve_bi (va_cons (ve_var (d := .tup (M.map natD)) (i := 1) rfl rfl (by walk_at "vis")) va_nil) rfl mL boot_len fo_lenT) (by rw [hlen])) co_eqI
    case h1 =>
      intro t1 B4 e4
      have eq : c = M.length := by
        have := of_decide_eq_true t1
        omega
      have eo : o = some ((low / n + 1) * n + M[0]) := NextIs.uniq hO (next_round pat c hc eq h0)
      subst eo
      refine rn_ret (ve_is (ve_bin (ve_bin (ve_bin (ve_var (d := natD (low / n)) (i := 3) rfl rfl (by walk_at "vis")) ve_int bo_add) (ve_var (d := natD n) (i := 0) rfl rfl (by walk_at "vis")) (bo_mulR (by omega))) (ve_sub (ve_var (d := .tup (M.map natD)) (i := 1) rfl rfl (by walk_at "vis")) ve_int (fun _ _ => rfl) (xo_tup (atD h0))) bo_add) rfl) (kQ.ex (e1.trans (e2.trans (e3.trans e4))))
    case h2 =>
      intro t1 B4 e4
      have lt : c < M.length := by
        have := of_decide_eq_false t1
        omega
      have eo : o = some (low / n * n + M[c]) := NextIs.uniq hO (next_here pat c hc lt)
      subst eo
      refine rn_go ?_
      exact rn_ret (ve_is (ve_bin (ve_bin (ve_var (d := natD (low / n)) (i := 3) rfl rfl (by walk_at "vis")) (ve_var (d := natD n) (i := 0) rfl rfl (by walk_at "vis")) (bo_mulR (by omega))) (ve_sub (ve_var (d := .tup (M.map natD)) (i := 1) rfl rfl (by walk_at "vis")) (ve_var (d := natD c) (i := 5) rfl rfl (by walk_at "vis")) (fun _ _ => rfl) (xo_tup (atD lt))) bo_add) rfl) (kQ.ex (e1.trans (e2.trans (e3.trans e4))))
end
end
section
def D.under : D → D → Bool
  | .int a, .int b => decide (a < b)
  | _, _ => false
theorem within_int {a b : Int} : ∀ {d : D}, D.within a b d = true → ∃ y, d = .int y
  | .int y, _ => ⟨y, rfl⟩
/-- the item at i is an integer from 0 to m, above the one ahead -/
def good (m : Int) (l : List D) (i : Nat) : Bool := D.within 0 m (l.getD i .non) && (decide (i = 0) || D.under (l.getD (i - 1) .non) (l.getD i .non))
def FuIs (m : Int) (l : List D) : Option Nat → Prop
  | none => ∀ j, j < l.length → good m l j = true
  | some i => i < l.length ∧ (∀ j, j < i → good m l j = true) ∧ good m l i = false
theorem FuIs.uniq {m : Int} {l : List D} : ∀ {o p : Option Nat}, FuIs m l o → FuIs m l p → o = p
  | none, none, _, _ => rfl
  | none, some i, h, k => by
    have a := h i k.1
    rw [k.2.2] at a
    cases a
  | some i, none, k, h => by
    have a := h i k.1
    rw [k.2.2] at a
    cases a
  | some i, some j, h, k => by
    have a : ¬ i < j := fun q => by
      have z := k.2.1 i q
      rw [h.2.2] at z
      cases z
    have b : ¬ j < i := fun q => by
      have z := h.2.1 j q
      rw [k.2.2] at z
      cases z
    rw [show i = j by omega]
abbrev sFu : Stmt := s_first_unfit
theorem scFu : FnScope ["row", "most", "at", "value"] ["row", "most"] (defScope sFu) := ⟨rfl, rfl, rfl, by decide +kernel, rfl, by decide +kernel, by decide +kernel⟩
def RFu (ds : List D) (d : D) : Prop := ∃ (l : List D) (m : Int) (o : Option Nat), ds = [.tup l, .int m] ∧ (∀ v ∈ l, v.kind.isSome = true) ∧ FuIs m l o ∧ d = optD o
section
variable {P : Program} {w : World} {K : PySem.W.Frag} {mg : Str → Option Value} {base : Heap}
theorem ok_unfit {f f1 : Addr} {fd fd1 : FuncData} (Fn : Fun K "first_unfit" "first_unfit" sFu f fd) (F1 : FnG γ P w K mg base CX0 2 f1 fd1 ["value", "least", "most"] (spR K RIsW)) (m1 : mg "is_within" = some (.ref f1)) (k1 : PySem.W.keepIn K (.ref f1) = true) (b1 : Binds K fd1 ["value", "least", "most"] []) (mEn : mg "enumerate" = none) :
    FnG γ P w K mg base CX0 3 f fd ["row", "most"] (spR K RFu) := by
  refine okR Fn scFu (fun ds d ⟨l, m, o, e, _⟩ => by rw [e]; rfl) fun cdv A0 outer s H B ow ds d Q E hgd hrm hR kQ => ?_
  obtain ⟨l, m, o, rfl, hk, hO, rfl⟩ := hR
  refine' rn_for (ds := enumD 0 l) (g := gTup K 2 (gCons (gName 2) (gCons (gName 3) gNil))) (f := fun d env => match d with | .tup [a, b] => (env.set 2 (some a)).set 3 (some b) | _ => env) (fun n env ow' => ow = ow' ∧ (∀ j, j < n → good m l j = true) ∧ ∃ a b : Option D, env = [some (.tup l), some (.int m), a, b]) PassesOwn.never rfl ?hi (pg_tup rfl (pgs_cons (pg_name scFu.nd rfl (.inl rfl)) (pgs_cons (pg_name scFu.nd rfl (.inl rfl)) pgs_nil))) ?hgd ⟨rfl, fun j h => absurd h (Nat.not_lt_zero _), none, none, rfl⟩ ?hs ?hd
  case hi => exact vi_enumT rfl mEn (ve_var (i := 0) rfl rfl (by walk_at "vis"))
  case hgd =>
    intro ow' d hd
    obtain ⟨n, hn⟩ := List.mem_iff_getElem?.mp hd
    obtain ⟨x, hx, rfl⟩ := enumD_get hn
    exact gd_two 2 3
  case hs =>
    rintro B1 i d env' ow' e1 hd ⟨rfl, ih, a, b, rfl⟩
    obtain ⟨v, hv, rfl⟩ := enumD_get hd
    have hi : i < l.length := (List.getElem?_eq_some_iff.mp hv).1
    have e0 : ((0 + i : Nat) : Int) = (i : Int) := by simp
    rw [e0]
    have gv : l.getD i .non = v := by simp [hv]
    have kv : v.kind.isSome = true := hk v (List.mem_of_getElem? hv)
    have ret : ∀ B2, Ex B B2 → good m l i = false → ∀ {F2 H2 u}, Ex B2 F2 → Wo K ow F2 H2 → Rp K F2 u (natD i) → Q u H2 := fun B2 e2 no F2 H2 u x2 w2 r2 => by
      have eo : o = some i := FuIs.uniq hO ⟨hi, ih, no⟩
      subst eo
      exact kQ F2 H2 u (e2.trans x2) w2 r2
    refine' rn_if (t := !D.within 0 m v) ?h ?h1 ?h2
    case h => exact vt_not (vt_val (ve_R F1 hgd hrm rfl m1 k1 b1 (va_cons (ve_var (i := 3) rfl rfl (by walk_at "vis")) (va_cons ve_int (va_cons (ve_var (i := 1) rfl rfl (by walk_at "vis")) va_nil))) ⟨v, 0, m, rfl, kv, rfl⟩))
    case h1 =>
      intro t B2 e2
      have no : good m l i = false := by
        unfold good
        rw [gv]
        cases q : D.within 0 m v with
        | false => rfl
        | true => rw [q] at t; cases t
      exact rn_ret (ve_var (d := natD i) (i := 2) rfl rfl (by walk_at "vis")) (fun F2 H2 u x2 w2 r2 => ret _ (e1.trans e2) no x2 w2 r2)
    case h2 =>
      intro t B2 e2
      have wi : D.within 0 m v = true := by
        cases q : D.within 0 m v with
        | true => rfl
        | false => rw [q] at t; cases t
      obtain ⟨x, rfl⟩ := within_int wi
      refine rn_go ?_
      have prev : 0 < i → ∃ y, l[i - 1]? = some (.int y) := fun pos => by
        have g := ih (i - 1) (by omega)
        unfold good at g
        rw [Bool.and_eq_true] at g
        have lt : i - 1 < l.length := by omega
        have e : l.getD (i - 1) .non = l[i - 1] := by simp [lt]
        rw [e] at g
        have w1 := g.1
        obtain ⟨y, hy⟩ := within_int w1
        exact ⟨y, by rw [List.getElem?_eq_getElem lt, hy]⟩
      by_cases pos : 0 < i
      · obtain ⟨y, hy⟩ := prev pos
        have gy : l.getD (i - 1) .non = .int y := by simp [hy]
        have gd : good m l i = decide (y < x) := by
          unfold good
          rw [gv, gy, wi, Bool.true_and, decide_eq_false (by omega), Bool.false_or]
          rfl
        refine' rn_if (t := decide ((0 : Int) < (i : Int)) && decide (x ≤ y)) ?h ?h1 ?h2
        case h =>
          refine vt_w (vw_and (vt_comp (ve_var (d := natD i) (i := 2) rfl rfl (by walk_at "vis")) ve_int co_gt) (fun _ => vw_and1 (vt_comp (ve_var (d := .int x) (i := 3) rfl rfl (by walk_at "vis")) (ve_sub (d := .int y) (ve_var (d := .tup l) (i := 0) rfl rfl (by walk_at "vis")) (ve_is (ve_bin (ve_var (d := natD i) (i := 2) rfl rfl (by walk_at "vis")) ve_int bo_sub) (by rfl : _ = D.int ((i : Int) - 1))) (fun _ _ => rfl) (xo_tup ?_)) co_le)) (pw_all_and _ _))
          have e : (i : Int) - 1 = ((i - 1 : Nat) : Int) := by omega
          rw [e]
          unfold L2.atI L2.ixN
          rw [if_pos (by omega), if_pos (by omega)]
          simpa using hy
        case h1 =>
          intro t2 B3 e3
          rw [Bool.and_eq_true] at t2
          have no : good m l i = false := by
            rw [gd]
            have := of_decide_eq_true t2.2
            exact decide_eq_false (by omega)
          exact rn_ret (ve_var (d := natD i) (i := 2) rfl rfl (by walk_at "vis")) (fun F2 H2 u x2 w2 r2 => ret _ (e1.trans (e2.trans e3)) no x2 w2 r2)
        case h2 =>
          intro t2 B3 e3
          have yes : good m l i = true := by
            rw [gd]
            rw [decide_eq_true (by omega), Bool.true_and] at t2
            have := of_decide_eq_false t2
            exact decide_eq_true (by omega)
          refine rn_go ?_
          refine rn_nextW ?_ (e2.trans e3)
          refine ⟨rfl, fun j hj => ?_, _, _, rfl⟩
          by_cases c : j = i
          · rw [c]; exact yes
          · exact ih j (by omega)
      · have z : i = 0 := by omega
        refine' rn_if (t := decide ((0 : Int) < (i : Int)) && false) ?h ?h1 ?h2
        case h =>
          refine vt_w (vw_and (vt_comp (ve_var (d := natD i) (i := 2) rfl rfl (by walk_at "vis")) ve_int co_gt) (fun t3 => ?_) (pw_all_and _ _))
          have := of_decide_eq_true t3
          omega
        case h1 =>
          intro t2
          rw [Bool.and_false] at t2
          cases t2
        case h2 =>
          intro t2 B3 e3
          have yes : good m l i = true := by
            unfold good
            rw [gv, wi, decide_eq_true z]
            rfl
          refine rn_go ?_
          refine rn_nextW ?_ (e2.trans e3)
          refine ⟨rfl, fun j hj => ?_, _, _, rfl⟩
          by_cases c : j = i
          · rw [c]; exact yes
          · exact ih j (by omega)
  case hd =>
    rintro B1 env' ow' e1 ⟨rfl, ih, a, b, rfl⟩
    rw [enumD_len] at ih
    have eo : o = none := FuIs.uniq hO (show FuIs m l none from ih)
    subst eo
    exact rn_ret ve_non (kQ.ex e1)
end
end
section
theorem co_notN {X : Cx} {ow : Ow} {b : Expr} {d : D} {t : Bool} (h : ∀ {K : PySem.W.Frag} {F : Hp} {x : V}, Rp K F x d → (!decide (x = .non)) = t) : CmpOk X ow .IsNot b d .non (.bl t) := ⟨_, op_notN, nomark _, .mk fun F H x y Q w r1 r2 k => by
  cases r2
  have z := h r1
  exact ⟨rfl, by rw [z]; exact k.here w (.bl _)⟩⟩
theorem co_notN0 {X : Cx} {ow : Ow} {b : Expr} : CmpOk X ow .IsNot b .non .non (.bl false) := co_notN fun r => by cases r; rfl
abbrev sIni : Stmt := s_Times___init__
theorem scIni : FnScope ["self", "period", "marks", "numbers", "at", "number", "mark"] ((("self" : Str) :: ["period", "marks"]) ++ [("numbers" : Str)]) (defScope sIni) := ⟨rfl, rfl, rfl, by decide +kernel, rfl, by decide +kernel, by decide +kernel⟩
/-- the fields of a set of times -/
def tmD (ns : List Nat) (a : Nat) (A : List Nat) : List (Str × D) := [("_numbers", .tup (ns.map natD)), ("_pattern", .tup [natD a, .tup (A.map natD)])]
structure IniOk (ns : List Nat) (n : Nat) (M : List Nat) (a : Nat) (A : List Nat) : Prop where
  asc : Per.Asc ns
  lt : ∀ x ∈ ns, x ≤ 1000000000000000000000000000000
  pat : Per.Pat n M
  le : n ≤ 1000
  lst : Per.Lst n M a A
def RIni (g : List D → List D) (ds kd : List D) (fl : List (Str × D)) : Prop := ∃ (ns : List Nat) (n : Nat) (M : List Nat) (a : Nat) (A : List Nat), ds = ns.map natD ∧ ns.length ≤ 100000 ∧ g kd = [natD n, .tup (M.map natD)] ∧ IniOk ns n M a A ∧ fl = tmD ns a A
theorem good_asc {m : Int} {l : List Nat} (a : Per.Asc l) (h : ∀ x ∈ l, (x : Int) ≤ m) : FuIs m (l.map natD) none := fun j hj => by
  rw [List.length_map] at hj
  have e : (l.map natD).getD j .non = natD l[j] := by simp [hj]
  unfold good
  rw [e, Bool.and_eq_true]
  have m1 := h _ (List.getElem_mem hj)
  refine ⟨decide_eq_true ⟨by omega, m1⟩, ?_⟩
  by_cases z : j = 0
  · rw [decide_eq_true z, Bool.true_or]
  · have e2 : (l.map natD).getD (j - 1) .non = natD l[j - 1] := by
      have : j - 1 < l.length := by omega
      simp [this]
    rw [e2, decide_eq_false z, Bool.false_or]
    have lt := List.pairwise_iff_getElem.mp a (j - 1) j (by omega) hj (by omega)
    exact decide_eq_true (by omega)
theorem kinds_nat {l : List Nat} : ∀ v ∈ l.map natD, v.kind.isSome = true := by
  intro v hv
  obtain ⟨n, _, rfl⟩ := List.mem_map.mp hv
  rfl
theorem asc_len {n : Nat} {M : List Nat} (p : Per.Pat n M) : M.length ≤ n := by
  have e : M = (List.range n).filter (fun x => decide (x ∈ M)) := by
    refine Per.asc_ext p.asc ((List.pairwise_lt_range).filter _) fun x => ?_
    rw [List.mem_filter, List.mem_range]
    exact ⟨fun h => ⟨p.lt x h, decide_eq_true h⟩, fun h => of_decide_eq_true h.2⟩
  rw [e]
  exact Nat.le_trans (List.length_filter_le _ _) (by rw [List.length_range]; exact Nat.le_refl _)
section
variable {P : Program} {w : World} {K : PySem.W.Frag} {mg : Str → Option Value} {base : Heap}
/-- what __init__ leans on -/
structure IniEnv (γ : Gds) (P : Program) (w : World) (K : PySem.W.Frag) (mg : Str → Option Value) (base : Heap) (C : Addr) : Prop where
  fu : ∃ f fd, FnG γ P w K mg base CX0 3 f fd ["row", "most"] (spR K RFu) ∧ mg "first_unfit" = some (.ref f) ∧ PySem.W.keepIn K (.ref f) = true ∧ Binds K fd ["row", "most"] []
  wi : ∃ f fd, FnG γ P w K mg base CX0 2 f fd ["value", "least", "most"] (spR K RIsW) ∧ mg "is_within" = some (.ref f) ∧ PySem.W.keepIn K (.ref f) = true ∧ Binds K fd ["value", "least", "most"] []
  sh : ∃ f fd, FnG γ P w K mg base CX0 2 f fd ["period", "marks"] (spR K RSho) ∧ mg "shortest" = some (.ref f) ∧ PySem.W.keepIn K (.ref f) = true ∧ Binds K fd ["period", "marks"] []
  cls : Cls K C
  n1 : NoAttr K C "_numbers"
  n2 : NoAttr K C "_pattern"
  g1 : ∃ t, mg "GREATEST" = some (.int 1000000000000000000000000000000 t)
  g2 : ∃ t, mg "MOST_PERIOD" = some (.int 1000 t)
  mI : mg "isinstance" = none
  mT : mg "tuple" = none
  mN : mg "int" = none
theorem ve_cst {X : Cx} {env : List (Option D)} {ow : Ow} {x : Str} {pos : Pos} {i : Int} (h : ∃ t, X.mg x = some (.int i t)) (hg : Gl X x) (hx : (x == ("__debug__" : Str)) = false) : Ve X (.Name x pos) env ow (.int i) := by
  obtain ⟨t, e⟩ := h
  exact ve_glob (v := .int i) hg e ⟨t, rfl⟩ (fun _ => .int _) hx
theorem init_body {qual : Str} {f C : Addr} {cdv : Value} {md : List D} (T : IniEnv γ P w K mg base C) (g : {α : Type} → List α → List α → List α) (A : Around) (outer : List Env) (s : Shared) (H B : Hp) (ow : Ow) (x : Addr) (ds kd : List D) (fl : List (Str × D)) (Q : VK) (hgd : γ A.guards) (hr : Room 3 (A.deeper (envOfC qual (defScope sIni) s.heap.objs.size f cdv)))
    (hR : RIni (fun kd => g kd md) ds kd fl) (kQ : ∀ F2 H2, Ex B F2 → Wo K (ou ow x (.ins C fl)) F2 H2 → Q .non H2) :
    Rn (cxOf CX0 P w K mg base ["self", "period", "marks", "numbers", "at", "number", "mark"] qual (defScope sIni) f cdv A outer s H E0).nox B (defBody sIni) { nx := fun _ H' => Q .non H', rt := Q } (env0 ["self", "period", "marks", "numbers", "at", "number", "mark"] ((.ob (.ref x) :: g kd md) ++ [.tup ds])) (ou ow x (.ins C [])) := by
  obtain ⟨ns, n, M, a, A0, rfl, hns, hkd, ok, rfl⟩ := hR
  obtain ⟨f1, fd1, F1, m1, k1, b1⟩ := T.fu
  obtain ⟨f2, fd2, F2, m2, k2, b2⟩ := T.wi
  obtain ⟨f3, fd3, F3, m3, k3, b3⟩ := T.sh
  have mI := T.mI
  have mT := T.mT
  have mN := T.mN
  have npos := ok.pat.pos
  have nle := ok.le
  have Ml : M.length ≤ 1000 := Nat.le_trans (asc_len ok.pat) nle
  have hr2 : Room 2 (A.deeper (envOfC qual (defScope sIni) s.heap.objs.size f cdv)) := hr.mono (by decide)
  have hkd2 : g kd md = [natD n, .tup (M.map natD)] := hkd
  rw [hkd2]
  refine' rn_set (i := 4) (d := .non) scIni.nd rfl (by first | exact .inl rfl | exact .inr rfl) ?h ?k
  case h => exact ve_R F1 hgd hr rfl m1 k1 b1 (va_cons (ve_var (d := .tup (ns.map natD)) (i := 3) rfl rfl (by walk_at "vis")) (va_cons (ve_cst T.g1 rfl (by decide)) va_nil)) ⟨ns.map natD, _, none, rfl, kinds_nat, good_asc ok.asc (fun x hx => by have := ok.lt x hx; omega), rfl⟩
  case k =>
  intro B1 e1
  refine' rn_if (t := false) ?h (fun z => nomatch z) ?h2
  case h => exact vt_comp (ve_var (i := 4) rfl rfl (by walk_at "vis")) ve_non co_notN0
  case h2 =>
  intro _ B2 e2
  refine rn_go ?_
  refine' rn_if (t := !true) ?h (fun z => nomatch z) ?h2
  case h => exact vt_not (vt_val (ve_R F2 hgd hr2 rfl m2 k2 b2 (va_cons (ve_var (d := natD n) (i := 1) rfl rfl (by walk_at "vis")) (va_cons ve_int (va_cons (ve_cst T.g2 rfl (by decide)) va_nil))) ⟨natD n, 1, 1000, rfl, rfl, by
    have : D.within 1 1000 (natD n) = true := decide_eq_true (by omega)
    rw [this]⟩))
  case h2 =>
  intro _ B3 e3
  refine rn_go ?_
  refine' rn_if (t := !true || false) ?h (fun z => nomatch z) ?h2
  case h =>
    refine vt_w (vw_or (vt_not (vt_val ?_)) (fun _ => vw_or1 ?_) (pw_all_or _ _))
    · exact ve_bi (va_cons (ve_var (d := .tup (M.map natD)) (i := 2) rfl rfl (by walk_at "vis")) (va_cons (ve_bty rfl mT boot_tuple) va_nil)) rfl mI boot_isinstance fo_isTup
    · refine vt_comp (d1 := .non) (ve_R F1 hgd hr rfl m1 k1 b1 (va_cons (ve_var (d := .tup (M.map natD)) (i := 2) rfl rfl (by walk_at "vis")) (va_cons (ve_bin (ve_var (d := natD n) (i := 1) rfl rfl (by walk_at "vis")) ve_int bo_sub) va_nil)) ⟨M.map natD, _, none, rfl, kinds_nat, good_asc ok.pat.asc (fun x hx => by have := ok.pat.lt x hx; omega), rfl⟩) ve_non co_notN0
  case h2 =>
  intro _ B4 e4
  refine rn_go ?_
  have comp : ∀ (l : List Nat), l.length ≤ 100000 → ((l.map natD).filter (fun _ => true)).map (fun d => d) = l.map natD := fun l _ => by
    rw [List.filter_eq_self.mpr (fun _ _ => rfl), List.map_id']
  refine' rn_fld (d := .tup (ns.map natD)) (q := x) (fl := []) T.cls T.n1 ?h ?ho ou_same (by show 0 < 1000; decide) ?k
  case ho => exact ve_var (i := 0) rfl rfl (by walk_at "vis")
  case h =>
    refine ve_ty (va_cons (ve_is (ve_lc (j := 5) (fun _ => true) (fun d => d) (ds := ns.map natD) rfl scIni.nd (vi_tup (ve_var (i := 3) rfl rfl (by walk_at "vis"))) (blkOk_by (N := ["self", "period", "marks", "numbers", "at", "number", "mark"]) (sc := defScope sIni) (by decide +kernel)) ?_ (fun _ _ _ _ _ => pg_name scIni.nd rfl (.inl rfl)) (fun _ _ _ _ _ _ _ _ _ => vts_nil) ?_) (by rw [comp ns hns])) va_nil) rfl mT boot_tuple to_tupL
    · rw [List.length_map]; exact hns
    · intro d ow' hd _ sub s0 H0 C0 cl fp
      obtain ⟨m, hm, rfl⟩ := List.mem_map.mp hd
      exact ve_ty (va_cons (ve_var (d := natD m) (i := 5) rfl rfl (by walk_at "vis")) va_nil) rfl mN boot_int to_int
  case k =>
  intro B5 e5
  refine' rn_fld (d := .tup [natD a, .tup (A0.map natD)]) (q := x) (fl := [("_numbers", .tup (ns.map natD))]) T.cls T.n2 ?h ?ho ou_same (by show 1 < 1000; decide) ?k
  case ho => exact ve_var (i := 0) rfl rfl (by walk_at "vis")
  case h =>
    refine ve_R F3 hgd hr2 rfl m3 k3 b3 (va_cons (ve_ty (va_cons (ve_var (d := natD n) (i := 1) rfl rfl (by walk_at "vis")) va_nil) rfl mN boot_int to_int) (va_cons (ve_ty (va_cons (ve_is (ve_lc (j := 6) (fun _ => true) (fun d => d) (ds := M.map natD) rfl scIni.nd (vi_tup (ve_var (i := 2) rfl rfl (by walk_at "vis"))) (blkOk_by (N := ["self", "period", "marks", "numbers", "at", "number", "mark"]) (sc := defScope sIni) (by decide +kernel)) ?_ (fun _ _ _ _ _ => pg_name scIni.nd rfl (.inl rfl)) (fun _ _ _ _ _ _ _ _ _ => vts_nil) ?_) (by rw [comp M (by omega)])) va_nil) rfl mT boot_tuple to_tupL) va_nil))
      ⟨n, a, M, A0, rfl, ok.pat, by omega, by omega, ok.lst, rfl⟩
    · rw [List.length_map]; omega
    · intro d ow' hd _ sub s0 H0 C0 cl fp
      obtain ⟨m, hm, rfl⟩ := List.mem_map.mp hd
      exact ve_ty (va_cons (ve_var (d := natD m) (i := 6) rfl rfl (by walk_at "vis")) va_nil) rfl mN boot_int to_int
  case k =>
  intro B6 e6
  refine rn_end fun σ F3 H3 e7 s3 w3 => kQ F3 H3 (e1.trans (e2.trans (e3.trans (e4.trans (e5.trans (e6.trans e7)))))) ?_
  have z := w3
  rw [ou_ou, ou_ou] at z
  exact z
end
end
section
def gPM {α : Type} (a b : List α) : List α := a
def gP {α : Type} (a b : List α) : List α := a ++ b
def g0 {α : Type} (a b : List α) : List α := b
section
variable {P : Program} {w : World} {K : PySem.W.Frag} {mg : Str → Option Value} {base : Heap} {C f D0 : Addr} {doc pm cdv ct oc : Value} {an od : Option Addr} {osl : Array (Option Value)}
/-- the defaults 1 and () -/
structure Dfl (K : PySem.W.Frag) (D0 T0 : Addr) (t : Tok) : Prop where
  p : PySem.W.nsIn K D0 "period" = some (some (.int 1 t))
  m : PySem.W.nsIn K D0 "marks" = some (some (.ref T0))
  tup : ∀ F : Hp, SqT K F T0 []
theorem ini_PM (T : IniEnv γ P w K mg base C) (lk : K.lookup f = some ⟨oc, od, .func (PySem.W.fnOf "__init__" "Times.__init__" (defArgs sIni) (defBody sIni) (defScope sIni) .none (.ref D0) doc pm an cdv ct), osl⟩) (hcd : PySem.W.codeIn K cdv "Times.__init__" = true) :
    InS γ P w K mg base 4 f ["period", "marks"] (spI K C (RIni fun kd => gPM kd [])) :=
  okS (ps := ["period", "marks"]) (ms := []) (mv := []) (mz := []) (md := []) lk hcd scIni (fun q hq => by cases hq) .nil (fun _ => .nil) gPM (fun r => r) (fun r => r) (fun ws h => h)
    (fun x us ws h => match ws, h with | [a, b], _ => by cases us <;> rfl) (init_body T gPM)
theorem ini_0 {T0 : Addr} {t : Tok} (T : IniEnv γ P w K mg base C) (df : Dfl K D0 T0 t) (lk : K.lookup f = some ⟨oc, od, .func (PySem.W.fnOf "__init__" "Times.__init__" (defArgs sIni) (defBody sIni) (defScope sIni) .none (.ref D0) doc pm an cdv ct), osl⟩) (hcd : PySem.W.codeIn K cdv "Times.__init__" = true) :
    InS γ P w K mg base 4 f [] (spI K C (RIni fun kd => g0 kd [natD 1, .tup []])) :=
  okS (ps := ["period", "marks"]) (ms := ["period", "marks"]) (mv := [.int 1 t, .ref T0]) (mz := [.int 1, .ref T0]) (md := [natD 1, .tup []]) lk hcd scIni (fun q hq => by
      simp at hq
      rcases hq with rfl | rfl
      · exact df.p
      · exact df.m) (.cons ⟨_, rfl⟩ (.cons rfl .nil)) (fun F => .cons (.int 1) (.cons (.tup (df.tup F) .nil) .nil)) g0 (fun _ => .cons ⟨_, rfl⟩ (.cons rfl .nil)) (fun _ => .cons (.int 1) (.cons (.tup (df.tup _) .nil) .nil)) (fun ws h => rfl)
    (fun x us ws h => match ws, h with | [], _ => by cases us <;> exact ⟨_, _, _, _, _, _, rfl, rfl, ⟨_, _, _, _, _, _, rfl, rfl, rfl⟩⟩) (init_body T g0)
end
end
section
theorem look_n {ns : List Nat} {a : Nat} {A : List Nat} : (tmD ns a A).lookup ("_numbers" : Str) = some (D.tup (ns.map natD)) := rfl
theorem look_p {ns : List Nat} {a : Nat} {A : List Nat} : (tmD ns a A).lookup ("_pattern" : Str) = some (D.tup [natD a, D.tup (A.map natD)]) := rfl
def RSelf (C : Addr) (g : List Nat → Nat → List Nat → D) (ds : List D) (d : D) : Prop := ∃ (ns : List Nat) (a : Nat) (A : List Nat), ds = [.ins C (tmD ns a A)] ∧ A.length ≤ 100000 ∧ ns.length ≤ 100000 ∧ d = g ns a A
section
variable {P : Program} {w : World} {K : PySem.W.Frag} {mg : Str → Option Value} {base : Heap}
theorem ve_num {X : Cx} {env : List (Option D)} {ow : Ow} {e : Expr} {pos : Pos} {C : Addr} {ns A : List Nat} {a : Nat} (c : Cls X.K C) (n1 : NoAttr X.K C "_numbers") (h : Ve X e env ow (.ins C (tmD ns a A))) (hb : attributeBase e "_numbers" X.env (eval e X.env) = eval e X.env := by rfl) : Ve X (.Attribute e "_numbers" pos) env ow (.tup (ns.map natD)) := ve_at c n1 h look_n hb
theorem ve_pat {X : Cx} {env : List (Option D)} {ow : Ow} {e : Expr} {pos : Pos} {C : Addr} {ns A : List Nat} {a : Nat} (c : Cls X.K C) (n2 : NoAttr X.K C "_pattern") (h : Ve X e env ow (.ins C (tmD ns a A))) (hb : attributeBase e "_pattern" X.env (eval e X.env) = eval e X.env := by rfl) : Ve X (.Attribute e "_pattern" pos) env ow (.tup [natD a, .tup (A.map natD)]) := ve_at c n2 h look_p hb
abbrev sPer : Stmt := s_Times_period
theorem scPer : FnScope ["self"] ["self"] (defScope sPer) := ⟨rfl, rfl, rfl, by decide +kernel, rfl, by decide +kernel, by decide +kernel⟩
abbrev sNbs : Stmt := s_Times_numbers
theorem scNbs : FnScope ["self"] ["self"] (defScope sNbs) := ⟨rfl, rfl, rfl, by decide +kernel, rfl, by decide +kernel, by decide +kernel⟩
abbrev sEnd : Stmt := s_Times_endless
theorem scEnd : FnScope ["self"] ["self"] (defScope sEnd) := ⟨rfl, rfl, rfl, by decide +kernel, rfl, by decide +kernel, by decide +kernel⟩
abbrev sMny : Stmt := s_Times_many
theorem scMny : FnScope ["self"] ["self"] (defScope sMny) := ⟨rfl, rfl, rfl, by decide +kernel, rfl, by decide +kernel, by decide +kernel⟩
theorem ok_period {f C : Addr} {fd : FuncData} (Fn : Fun K "period" "Times.period" sPer f fd) (c : Cls K C) (n1 : NoAttr K C "_numbers") (n2 : NoAttr K C "_pattern") : FnG γ P w K mg base CX0 1 f fd ["self"] (spR K (RSelf C (fun ns a A => natD a))) := by
  refine okR Fn scPer (fun ds d ⟨ns, a, A, e, _⟩ => by rw [e]; rfl) fun cdv A0 outer s H B ow ds d Q E hgd hrm hR kQ => ?_
  obtain ⟨ns, a, A, rfl, hA, hns, rfl⟩ := hR
  exact rn_ret (ve_sub (ve_pat c n2 (ve_var (i := 0) rfl rfl (by walk_at "vis"))) ve_int (fun _ _ => rfl) (xo_tup rfl)) kQ
theorem ok_numbers {f C : Addr} {fd : FuncData} (Fn : Fun K "numbers" "Times.numbers" sNbs f fd) (c : Cls K C) (n1 : NoAttr K C "_numbers") (n2 : NoAttr K C "_pattern") : FnG γ P w K mg base CX0 1 f fd ["self"] (spR K (RSelf C (fun ns a A => .tup (ns.map natD)))) := by
  refine okR Fn scNbs (fun ds d ⟨ns, a, A, e, _⟩ => by rw [e]; rfl) fun cdv A0 outer s H B ow ds d Q E hgd hrm hR kQ => ?_
  obtain ⟨ns, a, A, rfl, hA, hns, rfl⟩ := hR
  exact rn_ret (ve_num c n1 (ve_var (i := 0) rfl rfl (by walk_at "vis"))) kQ
theorem ok_endless {f C : Addr} {fd : FuncData} (Fn : Fun K "endless" "Times.endless" sEnd f fd) (c : Cls K C) (n1 : NoAttr K C "_numbers") (n2 : NoAttr K C "_pattern") (mL : mg "len" = none) : FnG γ P w K mg base CX0 1 f fd ["self"] (spR K (RSelf C (fun ns a A => .bl (decide (A ≠ []))))) := by
  refine okR Fn scEnd (fun ds d ⟨ns, a, A, e, _⟩ => by rw [e]; rfl) fun cdv A0 outer s H B ow ds d Q E hgd hrm hR kQ => ?_
  obtain ⟨ns, a, A, rfl, hA, hns, rfl⟩ := hR
  refine rn_ret (ve_is (ve_comp (ve_bi (va_cons (ve_sub (ve_pat c n2 (ve_var (i := 0) rfl rfl (by walk_at "vis"))) ve_int (fun _ _ => rfl) (xo_tup (d := .tup (A.map natD)) rfl)) va_nil) rfl mL boot_len fo_lenT) ve_int co_gt) ?_) kQ
  congr 1
  apply decide_eq_decide.mpr
  rw [List.length_map]
  cases A with
  | nil => simp
  | cons x l => simp
theorem ok_many {f C : Addr} {fd : FuncData} (Fn : Fun K "many" "Times.many" sMny f fd) (c : Cls K C) (n1 : NoAttr K C "_numbers") (n2 : NoAttr K C "_pattern") (mL : mg "len" = none) : FnG γ P w K mg base CX0 1 f fd ["self"] (spR K (RSelf C (fun ns a A => if A = [] then natD ns.length else .non))) := by
  refine okR Fn scMny (fun ds d ⟨ns, a, A, e, _⟩ => by rw [e]; rfl) fun cdv A0 outer s H B ow ds d Q E hgd hrm hR kQ => ?_
  obtain ⟨ns, a, A, rfl, hA, hns, rfl⟩ := hR
  refine' rn_if (t := decide (A ≠ [])) ?h ?h1 ?h2
  case h =>
    refine vt_is (vt_comp (ve_bi (va_cons (ve_sub (ve_pat c n2 (ve_var (i := 0) rfl rfl (by walk_at "vis"))) ve_int (fun _ _ => rfl) (xo_tup (d := .tup (A.map natD)) rfl)) va_nil) rfl mL boot_len fo_lenT) ve_int co_gt) ?_
    apply decide_eq_decide.mpr
    rw [List.length_map]
    cases A with
    | nil => simp
    | cons x l => simp
  case h1 =>
    intro t B1 e1
    have kQ2 : Post K ow B (if A = [] then natD ns.length else D.non) Q := kQ
    rw [if_neg (of_decide_eq_true t)] at kQ2
    exact rn_ret ve_non (kQ2.ex e1)
  case h2 =>
    intro t B1 e1
    have z : A = [] := Classical.byContradiction fun q => of_decide_eq_false t q
    have kQ2 : Post K ow B (if A = [] then natD ns.length else D.non) Q := kQ
    rw [if_pos z] at kQ2
    refine rn_go ?_
    exact rn_ret (ve_is (ve_bi (va_cons (ve_num c n1 (ve_var (i := 0) rfl rfl (by walk_at "vis"))) va_nil) rfl mL boot_len fo_lenT) (by rw [List.length_map])) (kQ2.ex e1)
end
end
section
/-- whether x is in the set -/
def inT (ns : List Nat) (a : Nat) (A : List Nat) (x : Nat) : Bool := Per.fn a A x != decide (x ∈ ns)
def NextT (ns : List Nat) (a : Nat) (A : List Nat) (low : Nat) : Option Nat → Prop
  | none => ∀ y, low ≤ y → inT ns a A y = false
  | some x => low ≤ x ∧ inT ns a A x = true ∧ ∀ y, low ≤ y → inT ns a A y = true → x ≤ y
theorem NextT.uniq {ns : List Nat} {a : Nat} {A : List Nat} {low : Nat} : ∀ {o p : Option Nat}, NextT ns a A low o → NextT ns a A low p → o = p
  | none, none, _, _ => rfl
  | some x, some y, h, k => by
    have z1 := h.2.2 y k.1 k.2.1
    have z2 := k.2.2 x h.1 h.2.1
    rw [show x = y by omega]
  | none, some y, h, k => by
    have z := h y k.1
    rw [k.2.1] at z
    cases z
  | some y, none, k, h => by
    have z := h y k.1
    rw [k.2.1] at z
    cases z
/-- i is the place of the first of the numbers from cur on -/
structure AtIs (ns : List Nat) (cur i : Nat) : Prop where
  le : i ≤ ns.length
  lo : ∀ j (h : j < ns.length), j < i → ns[j] < cur
  hi : ∀ j (h : j < ns.length), i ≤ j → cur ≤ ns[j]
theorem AtIs.out {ns : List Nat} {cur i : Nat} (h : AtIs ns cur i) (e : ¬ i < ns.length) {y : Nat} (hy : cur ≤ y) : ¬ y ∈ ns := fun m => by
  obtain ⟨j, hj, ej⟩ := List.getElem_of_mem m
  have := h.lo j hj (by omega)
  omega
theorem AtIs.gap {ns : List Nat} {cur i : Nat} (a : Per.Asc ns) (h : AtIs ns cur i) (e : i < ns.length) {y : Nat} (hy : cur ≤ y) (hl : y < ns[i]) : ¬ y ∈ ns := fun m => by
  obtain ⟨j, hj, ej⟩ := List.getElem_of_mem m
  by_cases c : j < i
  · have := h.lo j hj c
    omega
  · by_cases d : j = i
    · subst d
      omega
    · have := List.pairwise_iff_getElem.mp a i j e hj (by omega)
      omega
theorem AtIs.next {ns : List Nat} {cur i : Nat} (a : Per.Asc ns) (h : AtIs ns cur i) (e : i < ns.length) : AtIs ns (ns[i] + 1) (i + 1) :=
  ⟨e, fun j hj q => by
    by_cases d : j = i
    · subst d
      omega
    · have := List.pairwise_iff_getElem.mp a j i hj e (by omega)
      omega, fun j hj q => by
    have := List.pairwise_iff_getElem.mp a i j e hj (by omega)
    omega⟩
theorem at_cnt {ns : List Nat} (a : Per.Asc ns) (cur : Nat) : AtIs ns cur (cnt (ns.map toI) (cur : Int)) := by
  have len : (ns.map toI).length = ns.length := List.length_map ..
  have le := cnt_le (ns.map toI) (cur : Int)
  rw [len] at le
  refine ⟨le, fun j hj q => ?_, fun j hj q => ?_⟩
  · have z := cnt_lt (ns.map toI) (cur : Int) j (by rw [len]; exact hj) q
    rw [List.getElem_map] at z
    have y : ((ns[j] : Nat) : Int) < (cur : Int) := z
    omega
  · have lt : cnt (ns.map toI) (cur : Int) < (ns.map toI).length := by rw [len]; omega
    have z := cnt_at (ns.map toI) (cur : Int) lt
    rw [List.getElem_map] at z
    have y : ¬ ((ns[cnt (ns.map toI) (cur : Int)]'(by omega) : Nat) : Int) < (cur : Int) := z
    by_cases d : j = cnt (ns.map toI) (cur : Int)
    · subst d
      omega
    · have := List.pairwise_iff_getElem.mp a (cnt (ns.map toI) (cur : Int)) j (by omega) hj (by omega)
      omega
theorem nextis_ex (a : Nat) (A : List Nat) (p : Per.Pat a A) (low : Nat) : ∃ o, NextIs a A low o := by
  by_cases e : A = []
  · exact ⟨none, e⟩
  · have h0 : 0 < A.length := List.length_pos_iff.mpr e
    have cle : cnt (A.map toI) ((low % a : Nat) : Int) ≤ A.length := by
      have := cnt_le (A.map toI) ((low % a : Nat) : Int)
      rwa [List.length_map] at this
    by_cases lt : cnt (A.map toI) ((low % a : Nat) : Int) < A.length
    · exact ⟨_, next_here p _ rfl lt⟩
    · exact ⟨_, next_round p _ rfl (by omega) h0⟩
theorem NextIs.gap {n low : Nat} {M : List Nat} {o : Option Nat} (h : NextIs n M low o) {y : Nat} (hy : low ≤ y) (hl : ∀ x, o = some x → y < x) : Per.fn n M y = false := by
  cases q : Per.fn n M y with
  | false => rfl
  | true =>
    cases o with
    | none =>
      rw [show M = [] from h] at q
      simp [Per.fn] at q
    | some x =>
      have := h.2.2 y hy q
      have := hl x rfl
      omega
theorem co_isN {X : Cx} {ow : Ow} {b : Expr} {d : D} {t : Bool} (h : ∀ {K : PySem.W.Frag} {F : Hp} {x : V}, Rp K F x d → decide (x = .non) = t) : CmpOk X ow .Is b d .non (.bl t) := ⟨_, op_isN, nomark _, .mk fun F H x y Q w r1 r2 k => by
  cases r2
  have z := h r1
  exact ⟨rfl, by rw [z]; exact k.here w (.bl _)⟩⟩
abbrev sLst : Stmt := s_Times__least_from
theorem scLst : FnScope ["self", "low", "period", "marks", "numbers", "at", "marked"] ["self", "low"] (defScope sLst) := ⟨rfl, rfl, rfl, by decide +kernel, rfl, by decide +kernel, by decide +kernel⟩
def RLst (C : Addr) (ds : List D) (d : D) : Prop := ∃ (ns : List Nat) (a : Nat) (A : List Nat) (low : Nat) (o : Option Nat), ds = [.ins C (tmD ns a A), natD low] ∧ Per.Asc ns ∧ Per.Pat a A ∧ a < 1073741824 ∧ NextT ns a A low o ∧ d = optD o
theorem eqOk_nat (n : Nat) : (natD n).eqOk = true := rfl
theorem eqOk_opt : ∀ o : Option Nat, (optD o).eqOk = true
  | none => rfl
  | some _ => rfl
theorem eqv_opt (n : Nat) : ∀ o : Option Nat, PyData.eqv (natD n).py (optD o).py = decide (o = some n)
  | none => rfl
  | some m => by
    show ((n : Int) == (m : Int)) = decide (some m = some n)
    by_cases h : n = m
    · subst h
      simp
    · have h1 : ¬ (n : Int) = (m : Int) := by omega
      have h2 : ¬ m = n := fun z => h z.symm
      simp [h1, h2]
section
variable {P : Program} {w : World} {K : PySem.W.Frag} {mg : Str → Option Value} {base : Heap}
theorem ok_least {f f1 f2 C : Addr} {fd fd1 fd2 : FuncData} (Fn : Fun K "_least_from" "Times._least_from" sLst f fd) (c : Cls K C) (n1 : NoAttr K C "_numbers") (n2 : NoAttr K C "_pattern") (F1 : FnG γ P w K mg base CX0 1 f1 fd1 ["row", "value"] (spR K RPla)) (m1 : mg "place" = some (.ref f1)) (k1 : PySem.W.keepIn K (.ref f1) = true) (b1 : Binds K fd1 ["row", "value"] [])
    (F2 : FnG γ P w K mg base CX0 2 f2 fd2 ["period", "marks", "low"] (spR K RMar)) (m2 : mg "marked_from" = some (.ref f2)) (k2 : PySem.W.keepIn K (.ref f2) = true) (b2 : Binds K fd2 ["period", "marks", "low"] []) (mL : mg "len" = none) : FnG γ P w K mg base CX0 3 f fd ["self", "low"] (spR K (RLst C)) := by
  refine okR Fn scLst (fun ds d ⟨ns, a, A, low, o, e, _⟩ => by rw [e]; rfl) fun cdv A0 outer s H B ow ds d Q E hgd hrm hR kQ => ?_
  obtain ⟨ns, a, A, low, o, rfl, asc, pat, ha, hO, rfl⟩ := hR
  have hr1 : Room 1 (A0.deeper (envOfC "Times._least_from" (defScope sLst) s.heap.objs.size f cdv)) := hrm.mono (by decide)
  have hu64 : A0.units + 3 + 64 < cLine := by
    have z := hrm.un
    have z2 : A0.units + 3 + 16 * 2 + 200 < cLine := z
    omega
  have hlen : (((ns.map natD).length : Nat) : Int) = ((ns.length : Nat) : Int) := by rw [List.length_map]
  refine' rn_asg (g := gTup K 2 (gCons (gName 2) (gCons (gName 3) gNil))) (f := fun env => (env.set 2 (some (natD a))).set 3 (some (.tup (A.map natD)))) (d := .tup [natD a, .tup (A.map natD)]) (pg_tup rfl (pgs_cons (pg_name scLst.nd rfl (.inl rfl)) (pgs_cons (pg_name scLst.nd rfl (.inl rfl)) pgs_nil))) (ve_pat c n2 (ve_var (i := 0) rfl rfl (by walk_at "vis"))) (gd_two 2 3) ?k
  case k =>
  intro B1 e1
  refine' rn_set (i := 4) (d := .tup (ns.map natD)) scLst.nd rfl (by first | exact .inl rfl | exact .inr rfl) (ve_num c n1 (ve_var (i := 0) rfl rfl (by walk_at "vis"))) ?k
  case k =>
  intro B2 e2
  refine' rn_set (i := 5) (d := natD (cnt (ns.map toI) (low : Int))) scLst.nd rfl (by first | exact .inl rfl | exact .inr rfl) ?h ?k
  case h => exact ve_R F1 hgd hr1 rfl m1 k1 b1 (va_cons (ve_var (d := .tup (ns.map natD)) (i := 4) rfl rfl (by walk_at "vis")) (va_cons (ve_var (d := natD low) (i := 1) rfl rfl (by walk_at "vis")) va_nil)) ⟨ns.map toI, (low : Int), by rw [natD_ints], asc_toI asc, rfl⟩
  case k =>
  intro B3 e3
  obtain ⟨m0, hm0⟩ := nextis_ex a A pat low
  refine' rn_set (i := 6) (d := optD m0) scLst.nd rfl (by first | exact .inl rfl | exact .inr rfl) ?h ?k
  case h => exact ve_R F2 hgd hrm rfl m2 k2 b2 (va_cons (ve_var (d := natD a) (i := 2) rfl rfl (by walk_at "vis")) (va_cons (ve_var (d := .tup (A.map natD)) (i := 3) rfl rfl (by walk_at "vis")) (va_cons (ve_var (d := natD low) (i := 1) rfl rfl (by walk_at "vis")) va_nil))) ⟨a, low, A, m0, rfl, pat, ha, hm0, rfl⟩
  case k =>
  intro B4 e4
  refine' rn_while (fun m env ow' => ow = ow' ∧ ∃ (i cur : Nat) (mk : Option Nat), env = [some (.ins C (tmD ns a A)), some (natD low), some (natD a), some (.tup (A.map natD)), some (.tup (ns.map natD)), some (natD i), some (optD mk)] ∧ m = ns.length - i ∧ AtIs ns cur i ∧ NextIs a A cur mk ∧ low ≤ cur ∧ ∀ y, low ≤ y → y < cur → inT ns a A y = false) PassesOwn.never
    ⟨_, rfl, cnt (ns.map toI) (low : Int), low, m0, rfl, rfl, at_cnt asc low, hm0, Nat.le_refl _, fun y h1 h2 => by omega⟩ ?hs
  case hs =>
    rintro B5 m env' ow' e5 ⟨rfl, i, cur, mk, rfl, rfl, hAt, hMk, hcur, hno⟩
    refine ⟨decide ((i : Int) < (ns.length : Int)) && decide (∃ h : i < ns.length, mk = some ns[i]), ?_, fun t B6 e6 => ?_, fun t B6 e6 => ?_⟩
    · refine vt_w (vw_and (vt_comp (ve_var (d := natD i) (i := 5) rfl rfl (by walk_at "vis")) (ve_is (ve_bi (va_cons (ve_var (d := .tup (ns.map natD)) (i := 4) rfl rfl (by walk_at "vis")) va_nil) rfl mL boot_len fo_lenT) (by rw [hlen])) co_lt) (fun t => vw_and1 ?_) (pw_all_and _ _))
      have lt : i < ns.length := by
        have := of_decide_eq_true t
        omega
      refine vt_is (vt_comp (ve_sub (ve_var (d := .tup (ns.map natD)) (i := 4) rfl rfl (by walk_at "vis")) (ve_var (d := natD i) (i := 5) rfl rfl (by walk_at "vis")) (fun _ _ => rfl) (xo_tup (atD lt))) (ve_var (d := optD mk) (i := 6) rfl rfl (by walk_at "vis")) (co_eqD hu64 (eqOk_nat _) (eqOk_opt _))) ?_
      rw [eqv_opt]
      apply decide_eq_decide.mpr
      exact ⟨fun z => ⟨lt, z⟩, fun ⟨_, z⟩ => z⟩
    · rw [Bool.and_eq_true] at t
      obtain ⟨lt, em⟩ := of_decide_eq_true t.2
      subst em
      obtain ⟨m2', hm2⟩ := nextis_ex a A pat (ns[i] + 1)
      refine' rn_set (i := 6) (d := optD m2') scLst.nd rfl (by first | exact .inl rfl | exact .inr rfl) ?h ?k
      case h => exact ve_R F2 hgd hrm rfl m2 k2 b2 (va_cons (ve_var (d := natD a) (i := 2) rfl rfl (by walk_at "vis")) (va_cons (ve_var (d := .tup (A.map natD)) (i := 3) rfl rfl (by walk_at "vis")) (va_cons (ve_is (ve_bin (ve_var (d := natD ns[i]) (i := 6) rfl rfl (by walk_at "vis")) ve_int bo_add) (by rfl : _ = natD (ns[i] + 1))) va_nil))) ⟨a, ns[i] + 1, A, m2', rfl, pat, ha, hm2, rfl⟩
      case k =>
      intro B7 e7
      refine' rn_addTo (j := 5) (n := (i : Int)) scLst.nd rfl (by first | exact .inl rfl | exact .inr rfl) rfl ve_int ?k
      case k =>
      intro B8 e8
      refine rn_nextW ?_ (e6.trans (e7.trans e8))
      have hmk := hMk
      refine ⟨_, ?_, rfl, i + 1, ns[i] + 1, m2', rfl, rfl, hAt.next asc lt, hm2, ?_, fun y h1 h2 => ?_⟩
      · omega
      · have := hAt.hi i lt (Nat.le_refl _)
        omega
      · by_cases c1 : y < cur
        · exact hno y h1 c1
        · unfold inT
          by_cases c2 : y = ns[i]
          · have f1 : Per.fn a A y = true := by rw [c2]; exact hmk.2.1
            have f2 : y ∈ ns := by rw [c2]; exact List.getElem_mem lt
            rw [f1, decide_eq_true f2]
            rfl
          · have f1 : Per.fn a A y = false := hMk.gap (by omega) fun x hx => by
              have : ns[i] = x := Option.some.inj hx
              omega
            have f2 : ¬ y ∈ ns := hAt.gap asc lt (by omega) (by omega)
            rw [f1, decide_eq_false f2]
            rfl
    · have ne : ∀ h : i < ns.length, mk ≠ some ns[i] := fun h z => by
        rw [decide_eq_true (by omega), decide_eq_true ⟨h, z⟩] at t
        cases t
      refine' rn_if (t := decide ((i : Int) < (ns.length : Int)) && decide (∃ h : i < ns.length, ∀ x, mk = some x → ns[i] < x)) ?h ?h1 ?h2
      case h =>
        refine vt_w (vw_and (vt_comp (ve_var (d := natD i) (i := 5) rfl rfl (by walk_at "vis")) (ve_is (ve_bi (va_cons (ve_var (d := .tup (ns.map natD)) (i := 4) rfl rfl (by walk_at "vis")) va_nil) rfl mL boot_len fo_lenT) (by rw [hlen])) co_lt) (fun t => vw_and1 ?_) (pw_all_and _ _))
        have lt : i < ns.length := by
          have := of_decide_eq_true t
          omega
        cases mk with
        | none =>
          refine vt_is (vt_w (vw_or (t := true) (u := false) (vt_comp (ve_var (d := D.non) (i := 6) rfl rfl (by walk_at "vis")) ve_non (co_isN (t := true) fun r => by cases r; rfl)) (fun z => nomatch z) (pw_all_or _ _))) ?_
          exact (decide_eq_true (show ∃ h : i < ns.length, ∀ x, (none : Option Nat) = some x → ns[i] < x from ⟨lt, fun x hx => nomatch hx⟩)).symm
        | some x =>
          refine vt_is (vt_w (vw_or (t := false) (u := decide ((ns[i] : Int) < (x : Int))) (vt_comp (ve_var (d := natD x) (i := 6) rfl rfl (by walk_at "vis")) ve_non (co_isN (t := false) fun r => by cases r; rfl)) (fun _ => vw_or1 ?_) (pw_all_or _ _))) ?_
          · exact vt_comp (ve_sub (ve_var (d := .tup (ns.map natD)) (i := 4) rfl rfl (by walk_at "vis")) (ve_var (d := natD i) (i := 5) rfl rfl (by walk_at "vis")) (fun _ _ => rfl) (xo_tup (atD lt))) (ve_var (d := natD x) (i := 6) rfl rfl (by walk_at "vis")) co_lt
          · rw [Bool.false_or]
            apply decide_eq_decide.mpr
            constructor
            · intro h
              exact ⟨lt, fun y hy => by have : x = y := Option.some.inj hy; omega⟩
            · rintro ⟨_, h⟩
              have := h x rfl
              omega
      case h1 =>
        intro t2 B7 e7
        rw [Bool.and_eq_true] at t2
        obtain ⟨lt, less⟩ := of_decide_eq_true t2.2
        have eo : o = some ns[i] := NextT.uniq hO (by
          have ge := hAt.hi i lt (Nat.le_refl _)
          refine ⟨by omega, ?_, fun y h1 h2 => ?_⟩
          · unfold inT
            rw [hMk.gap ge (fun x hx => less x hx), decide_eq_true (List.getElem_mem lt)]
            rfl
          · apply Classical.byContradiction
            intro q
            by_cases c1 : y < cur
            · rw [hno y h1 c1] at h2
              cases h2
            · unfold inT at h2
              rw [hMk.gap (by omega) (fun x hx => by have := less x hx; omega), decide_eq_false (hAt.gap asc lt (by omega) (by omega))] at h2
              cases h2)
        subst eo
        exact rn_ret (ve_sub (ve_var (d := .tup (ns.map natD)) (i := 4) rfl rfl (by walk_at "vis")) (ve_var (d := natD i) (i := 5) rfl rfl (by walk_at "vis")) (fun _ _ => rfl) (xo_tup (atD lt))) (kQ.ex (e1.trans (e2.trans (e3.trans (e4.trans (e5.trans (e6.trans e7)))))))
      case h2 =>
        intro t2 B7 e7
        have no : ∀ h : i < ns.length, ∃ x, mk = some x ∧ x < ns[i] := fun h => by
          apply Classical.byContradiction
          intro q
          rw [decide_eq_true (by omega), Bool.true_and] at t2
          refine of_decide_eq_false t2 ⟨h, fun x hx => ?_⟩
          apply Classical.byContradiction
          intro q2
          have q3 : x ≠ ns[i] := fun z => ne h (by rw [hx, z])
          exact q ⟨x, hx, by omega⟩
        have eo : o = mk := NextT.uniq hO (by
          cases mk with
          | none =>
            intro y h1
            have out : ¬ i < ns.length := fun h => by
              obtain ⟨x, hx, _⟩ := no h
              cases hx
            by_cases c1 : y < cur
            · exact hno y h1 c1
            · unfold inT
              rw [hMk.gap (by omega) (fun x hx => nomatch hx), decide_eq_false (hAt.out out (by omega))]
              rfl
          | some x =>
            have notin : ∀ y, cur ≤ y → y ≤ x → ¬ y ∈ ns := fun y h1 h2 => by
              by_cases lt : i < ns.length
              · obtain ⟨x2, hx2, l2⟩ := no lt
                have : x = x2 := Option.some.inj hx2
                exact hAt.gap asc lt h1 (by omega)
              · exact hAt.out lt h1
            refine ⟨Nat.le_trans hcur hMk.1, ?_, fun y h1 h2 => ?_⟩
            · unfold inT
              rw [hMk.2.1, decide_eq_false (notin x hMk.1 (Nat.le_refl _))]
              rfl
            · apply Classical.byContradiction
              intro q
              by_cases c1 : y < cur
              · rw [hno y h1 c1] at h2
                cases h2
              · unfold inT at h2
                rw [hMk.gap (by omega) (fun x2 hx => by have : x = x2 := Option.some.inj hx; omega), decide_eq_false (notin y (by omega) (by omega))] at h2
                cases h2)
        subst eo
        refine rn_go ?_
        exact rn_ret (ve_var (d := optD o) (i := 6) rfl rfl (by walk_at "vis")) (kQ.ex (e1.trans (e2.trans (e3.trans (e4.trans (e5.trans (e6.trans e7)))))))
end
end
section
abbrev sFst : Stmt := s_Times_first
theorem scFst : FnScope ["self"] ["self"] (defScope sFst) := ⟨rfl, rfl, rfl, by decide +kernel, rfl, by decide +kernel, by decide +kernel⟩
def RFst (C : Addr) (ds : List D) (d : D) : Prop := ∃ (ns : List Nat) (a : Nat) (A : List Nat) (o : Option Nat), ds = [.ins C (tmD ns a A)] ∧ Per.Asc ns ∧ Per.Pat a A ∧ a < 1073741824 ∧ NextT ns a A 0 o ∧ d = optD o
abbrev sCon : Stmt := s_Times___contains__
theorem scCon : FnScope ["self", "number", "period", "marks"] ["self", "number"] (defScope sCon) := ⟨rfl, rfl, rfl, by decide +kernel, rfl, by decide +kernel, by decide +kernel⟩
/-- whether a datum is in the set -/
def memT (ns : List Nat) (a : Nat) (A : List Nat) : D → Bool
  | .int i => decide (0 ≤ i) && inT ns a A i.toNat
  | _ => false
def RCon (C : Addr) (ds : List D) (d : D) : Prop := ∃ (ns : List Nat) (a : Nat) (A : List Nat) (v : D), ds = [.ins C (tmD ns a A), v] ∧ v.kind.isSome = true ∧ Per.Asc ns ∧ Per.Pat a A ∧ d = .bl (memT ns a A v)
theorem mem_toI {x : Nat} {l : List Nat} : ((x : Int) ∈ l.map toI) ↔ x ∈ l := by
  rw [List.mem_map]
  constructor
  · rintro ⟨y, hy, e⟩
    have e2 : (y : Int) = (x : Int) := e
    have : y = x := by omega
    exact this ▸ hy
  · intro h
    exact ⟨x, h, rfl⟩
section
variable {P : Program} {w : World} {K : PySem.W.Frag} {mg : Str → Option Value} {base : Heap}
theorem ok_first {f g C : Addr} {fd fd1 : FuncData} (Fn : Fun K "first" "Times.first" sFst f fd) (c : Cls K C) (hm : Meth K C "_least_from" g) (F1 : FnG γ P w K mg base CX0 3 g fd1 ["self", "low"] (spR K (RLst C))) (b1 : Binds K fd1 ["self", "low"] []) : FnG γ P w K mg base CX0 4 f fd ["self"] (spR K (RFst C)) := by
  refine okR Fn scFst (fun ds d ⟨ns, a, A, o, e, _⟩ => by rw [e]; rfl) fun cdv A0 outer s H B ow ds d Q E hgd hrm hR kQ => ?_
  obtain ⟨ns, a, A, o, rfl, asc, pat, ha, hO, rfl⟩ := hR
  exact rn_ret (ve_meth c hm F1 hgd hrm b1 (ve_var (d := .ins C (tmD ns a A)) (i := 0) rfl rfl (by walk_at "vis")) rfl (va_cons (ve_is ve_int (by rfl : D.int 0 = natD 0)) va_nil) ⟨ns, a, A, 0, o, rfl, asc, pat, ha, hO, rfl⟩) kQ
theorem ok_contains {f f1 f2 C : Addr} {fd fd1 fd2 : FuncData} (Fn : Fun K "__contains__" "Times.__contains__" sCon f fd) (c : Cls K C) (n1 : NoAttr K C "_numbers") (n2 : NoAttr K C "_pattern") (F1 : FnG γ P w K mg base CX0 1 f1 fd1 ["value"] (spR K RIsI)) (m1 : mg "is_integer" = some (.ref f1)) (k1 : PySem.W.keepIn K (.ref f1) = true) (b1 : Binds K fd1 ["value"] [])
    (F2 : FnG γ P w K mg base CX0 2 f2 fd2 ["row", "value"] (spR K RHol)) (m2 : mg "holds_rows" = some (.ref f2)) (k2 : PySem.W.keepIn K (.ref f2) = true) (b2 : Binds K fd2 ["row", "value"] []) : FnG γ P w K mg base CX0 3 f fd ["self", "number"] (spR K (RCon C)) := by
  refine okR Fn scCon (fun ds d ⟨ns, a, A, v, e, _⟩ => by rw [e]; rfl) fun cdv A0 outer s H B ow ds d Q E hgd hrm hR kQ => ?_
  obtain ⟨ns, a, A, v, rfl, hk, asc, pat, rfl⟩ := hR
  have hr1 : Room 1 (A0.deeper (envOfC "Times.__contains__" (defScope sCon) s.heap.objs.size f cdv)) := hrm.mono (by decide)
  have hu64 : A0.units + 3 + 64 < cLine := by
    have z := hrm.un
    have z2 : A0.units + 3 + 16 * 2 + 200 < cLine := z
    omega
  by_cases hi : ∃ i, v = .int i
  · obtain ⟨i, rfl⟩ := hi
    refine' rn_if (t := !true || decide (i < 0)) ?h ?h1 ?h2
    case h =>
      refine vt_w (vw_or (vt_not (vt_val (ve_R F1 hgd hr1 rfl m1 k1 b1 (va_cons (ve_var (d := .int i) (i := 1) rfl rfl (by walk_at "vis")) va_nil) ⟨.int i, rfl, rfl, rfl⟩))) (fun _ => vw_or1 ?_) (pw_all_or _ _))
      exact vt_comp (ve_var (d := .int i) (i := 1) rfl rfl (by walk_at "vis")) ve_int co_lt
    case h1 =>
      intro t B1 e1
      have neg : i < 0 := of_decide_eq_true t
      have z : memT ns a A (.int i) = false := by
        show (decide (0 ≤ i) && inT ns a A i.toNat) = false
        rw [decide_eq_false (by omega), Bool.false_and]
      rw [z] at kQ
      exact rn_ret ve_bl (kQ.ex e1)
    case h2 =>
      intro t B1 e1
      have pos : ¬ i < 0 := of_decide_eq_false t
      obtain ⟨n, rfl⟩ : ∃ n : Nat, i = (n : Int) := ⟨i.toNat, by omega⟩
      have apos := pat.pos
      refine rn_go ?_
      refine' rn_asg (g := gTup K 2 (gCons (gName 2) (gCons (gName 3) gNil))) (f := fun env => (env.set 2 (some (natD a))).set 3 (some (.tup (A.map natD)))) (d := .tup [natD a, .tup (A.map natD)]) (pg_tup rfl (pgs_cons (pg_name scCon.nd rfl (.inl rfl)) (pgs_cons (pg_name scCon.nd rfl (.inl rfl)) pgs_nil))) (ve_pat c n2 (ve_var (i := 0) rfl rfl (by walk_at "vis"))) (gd_two 2 3) ?k
      case k =>
      intro B2 e2
      have z : memT ns a A (.int (n : Int)) = !(decide (((n % a : Nat) : Int) ∈ A.map toI) == decide ((n : Int) ∈ ns.map toI)) := by
        show (decide ((0 : Int) ≤ (n : Int)) && (decide (n % a ∈ A) != decide (n ∈ ns))) = _
        rw [decide_eq_true (show (0 : Int) ≤ (n : Int) by omega), Bool.true_and]
        have e1 : decide (((n % a : Nat) : Int) ∈ A.map toI) = decide (n % a ∈ A) := decide_eq_decide.mpr mem_toI
        have e2 : decide ((n : Int) ∈ ns.map toI) = decide (n ∈ ns) := decide_eq_decide.mpr mem_toI
        rw [e1, e2]
        rfl
      rw [z] at kQ
      refine rn_ret (ve_comp (d1 := .bl (decide (((n % a : Nat) : Int) ∈ A.map toI))) (d2 := .bl (decide ((n : Int) ∈ ns.map toI))) ?_ ?_ (co_neD hu64 rfl rfl)) (kQ.ex (e1.trans e2))
      · exact ve_R F2 hgd hrm rfl m2 k2 b2 (va_cons (ve_var (d := .tup (A.map natD)) (i := 3) rfl rfl (by walk_at "vis")) (va_cons (ve_is (ve_bin (ve_var (d := .int (n : Int)) (i := 1) rfl rfl (by walk_at "vis")) (ve_var (d := natD a) (i := 2) rfl rfl (by walk_at "vis")) (bo_mod (by omega))) (by rfl : _ = D.int ((n % a : Nat) : Int))) va_nil)) ⟨A.map toI, _, by rw [natD_ints], asc_toI pat.asc, rfl⟩
      · exact ve_R F2 hgd hrm rfl m2 k2 b2 (va_cons (ve_num c n1 (ve_var (i := 0) rfl rfl (by walk_at "vis"))) (va_cons (ve_var (d := .int (n : Int)) (i := 1) rfl rfl (by walk_at "vis")) va_nil)) ⟨ns.map toI, _, by rw [natD_ints], asc_toI asc, rfl⟩
  · have no : v.isInt = false := by
      cases v <;> first | rfl | exact absurd ⟨_, rfl⟩ hi
    have z : memT ns a A v = false := by
      cases v <;> first | rfl | exact absurd ⟨_, rfl⟩ hi
    rw [z] at kQ
    refine' rn_if (t := !v.isInt || false) ?h ?h1 ?h2
    case h =>
      refine vt_w (vw_or (vt_not (vt_val (ve_R F1 hgd hr1 rfl m1 k1 b1 (va_cons (ve_var (d := v) (i := 1) rfl rfl (by walk_at "vis")) va_nil) ⟨v, rfl, hk, rfl⟩))) (fun t => ?_) (pw_all_or _ _))
      rw [no] at t
      cases t
    case h1 =>
      intro t B1 e1
      exact rn_ret ve_bl (kQ.ex e1)
    case h2 =>
      intro t
      rw [no] at t
      cases t
end
end
section
abbrev sUn : Stmt := s_unchecked
theorem scUn : FnScope ["numbers", "period", "marks", "made"] ["numbers", "period", "marks"] (defScope sUn) := ⟨rfl, rfl, rfl, by decide +kernel, rfl, by decide +kernel, by decide +kernel⟩
def RUn (C : Addr) (ds : List D) (d : D) : Prop := ∃ (ns M A : List Nat) (n a : Nat), ds = [.tup (ns.map natD), natD n, .tup (M.map natD)] ∧ Per.Pat n M ∧ n < 1073741824 ∧ M.length ≤ 100000 ∧ Per.Lst n M a A ∧ d = .ins C (tmD ns a A)
section
variable {γ : Gds} {P : Program} {w : World} {K : PySem.W.Frag} {mg : Str → Option Value} {base : Heap}
theorem ok_unchecked {f f1 g C : Addr} {fd fd1 : FuncData} (Fn : Fun K "unchecked" "unchecked" sUn f fd) (c : Cls K C) (n1 : NoAttr K C "_numbers") (n2 : NoAttr K C "_pattern") (M0 : Mk K C g) (I0 : InS γ P w K mg base 4 g [] (spI K C (RIni fun kd => g0 kd [natD 1, .tup []]))) (gl : mg "Times" = some (.ref C))
    (F1 : FnG γ P w K mg base CX0 2 f1 fd1 ["period", "marks"] (spR K RSho)) (m1 : mg "shortest" = some (.ref f1)) (k1 : PySem.W.keepIn K (.ref f1) = true) (b1 : Binds K fd1 ["period", "marks"] []) : FnG γ P w K mg base CX0 6 f fd ["numbers", "period", "marks"] (spR K (RUn C)) := by
  refine okR Fn scUn (fun ds d ⟨ns, M, A, n, a, e, _⟩ => by rw [e]; rfl) fun cdv A0 outer s H Bh ow ds d Q E hgd hrm hR kQ => ?_
  obtain ⟨ns, M, A, n, a, rfl, pat, hn, hM, hL, rfl⟩ := hR
  have lst0 : Per.Lst 1 [] 1 [] := ⟨⟨by decide, List.Pairwise.nil, (fun x hx => by cases hx)⟩, rfl, fun m hm _ => hm⟩
  have n0 : IniOk [] 1 [] 1 [] := ⟨List.Pairwise.nil, (fun x hx => by cases hx), ⟨by decide, List.Pairwise.nil, (fun x hx => by cases hx)⟩, by decide, lst0⟩
  refine' rn_setM (i := 3) scUn.nd rfl (by first | exact .inl rfl | exact .inr rfl) (vm_mk0 M0 I0 hgd hrm rfl gl vk_nil rfl ⟨[], 1, [], 1, [], rfl, by decide, rfl, n0, rfl⟩) ?k1
  rintro B1 d ow2 e1 ⟨q, hq, rfl, rfl⟩
  refine' rn_fld (d := .tup [natD a, .tup (A.map natD)]) (q := q) (fl := tmD [] 1 []) c n2 ?h2 ?o2 ou_same (by show 2 < 1000; decide) ?k2
  case h2 => exact ve_R F1 hgd (hrm.mono (by decide)) rfl m1 k1 b1 (va_cons (ve_var (d := natD n) (i := 1) rfl rfl (by walk_at "vis")) (va_cons (ve_var (d := .tup (M.map natD)) (i := 2) rfl rfl (by walk_at "vis")) va_nil)) ⟨n, a, M, A, rfl, pat, hn, hM, hL, rfl⟩
  case o2 => exact ve_var (i := 3) rfl rfl (by walk_at "vis")
  case k2 =>
  intro B2 e2
  refine' rn_fld (d := .tup (ns.map natD)) (q := q) (fl := tmD [] a A) c n1 ?h3 ?o3 ou_same (by show 2 < 1000; decide) ?k3
  case h3 => exact ve_var (d := .tup (ns.map natD)) (i := 0) rfl rfl (by walk_at "vis")
  case o3 => exact ve_var (i := 3) rfl rfl (by walk_at "vis")
  case k3 =>
  intro B3 e3
  refine' rn_freezeI (j := 3) (q := q) (C := C) (fl := tmD ns a A) rfl ou_same ?k4
  intro B4 e4
  refine rn_retS (ow0 := ow) (ve_var (d := .ins C (tmD ns a A)) (i := 3) rfl rfl (by walk_at "vis")) (fun b o h => ?_) (kQ.ex (e1.trans (e2.trans (e3.trans e4))))
  have ne : b ≠ q := fun z => by rw [z, hq] at h; cases h
  rw [oz_ne ne, ou_ne ne, ou_ne ne, ou_ne ne]
  exact h
end
end
section
open Wk TL
def laneK (f : Nat → Nat) (dx dy : Int) (i : Nat) : Pt := (laneX (px f i) (py f i) dx dy, laneY (px f i) (py f i) dx dy)
def laneI (f : Nat → Nat) (dx dy : Int) (i : Nat) : Int := laneP (px f i) (py f i) dx dy
def hits (f : Nat → Nat) (dx dy : Int) (n : Nat) (k : Pt) : List Pt := ((List.range n).filter fun i => decide (laneK f dx dy i = k)).map fun i => (laneI f dx dy i, (i : Int))
theorem find_addK (m : List (Pt × List Pt)) (k0 p k : Pt) : (addK m k0 p).find? (fun e => decide (e.1 = k)) = if k = k0 then some (k, ((m.find? fun e => decide (e.1 = k)).map (·.2)).getD [] ++ [p]) else m.find? fun e => decide (e.1 = k) := by
  unfold addK
  by_cases hin : k0 ∈ m.map (·.1)
  · rw [if_pos hin, List.find?_map]
    have e : ((fun e : Pt × List Pt => decide (e.1 = k)) ∘ fun e => if e.1 = k0 then (e.1, e.2 ++ [p]) else e) = fun e => decide (e.1 = k) := by
      funext e
      show decide ((if e.1 = k0 then (e.1, e.2 ++ [p]) else e).1 = k) = _
      by_cases h : e.1 = k0 <;> simp [h]
    rw [e]
    by_cases h : k = k0
    · subst h
      rw [if_pos rfl]
      cases hf : m.find? (fun e => decide (e.1 = k)) with
      | none =>
        obtain ⟨e, he, h1⟩ := List.mem_map.mp hin
        have z := List.find?_eq_none.mp hf e he
        simp [h1] at z
      | some e =>
        have z := List.find?_some hf
        have z2 : e.1 = k := of_decide_eq_true z
        show some (if e.1 = k then (e.1, e.2 ++ [p]) else e) = some (k, e.2 ++ [p])
        rw [if_pos z2, z2]
    · rw [if_neg h]
      cases hf : m.find? (fun e => decide (e.1 = k)) with
      | none => rfl
      | some e =>
        have z := List.find?_some hf
        have z2 : e.1 = k := of_decide_eq_true z
        show some (if e.1 = k0 then (e.1, e.2 ++ [p]) else e) = some e
        rw [if_neg (by rw [z2]; exact h)]
  · rw [if_neg hin, List.find?_append]
    by_cases h : k = k0
    · subst h
      have hf : m.find? (fun e => decide (e.1 = k)) = none := List.find?_eq_none.mpr fun e he z => hin (List.mem_map.mpr ⟨e, he, of_decide_eq_true z⟩)
      rw [hf, if_pos rfl]
      simp
    · rw [if_neg h]
      have z : [(k0, [p])].find? (fun e => decide (e.1 = k)) = none := by
        simp
        exact fun q => h q.symm
      rw [z]
      cases m.find? (fun e => decide (e.1 = k)) <;> rfl
theorem find_lanes (f : Nat → Nat) (dx dy : Int) (k : Pt) : ∀ n, (lanesN f dx dy n).find? (fun e => decide (e.1 = k)) = if hits f dx dy n k = [] then none else some (k, hits f dx dy n k)
  | 0 => rfl
  | n + 1 => by
    have ih := find_lanes f dx dy k n
    have e : hits f dx dy (n + 1) k = if laneK f dx dy n = k then hits f dx dy n k ++ [(laneI f dx dy n, (n : Int))] else hits f dx dy n k := by
      unfold hits
      rw [List.range_succ, List.filter_append, List.map_append]
      by_cases h : laneK f dx dy n = k <;> simp [h]
    show (addK (lanesN f dx dy n) (laneK f dx dy n) (laneI f dx dy n, (n : Int))).find? _ = _
    rw [find_addK, ih, e]
    by_cases h : laneK f dx dy n = k
    · have ne : ¬ (hits f dx dy n k ++ [(laneI f dx dy n, (n : Int))] = []) := by simp
      by_cases h2 : hits f dx dy n k = []
      · rw [if_pos h.symm, if_pos h2, if_pos h, if_neg ne, h2]
        rfl
      · rw [if_pos h.symm, if_neg h2, if_pos h, if_neg ne]
        rfl
    · rw [if_neg (fun q => h q.symm), if_neg h]
theorem valT_lanes (f : Nat → Nat) (dx dy : Int) (n : Nat) (k : Pt) : (valT (lanesD (lanesN f dx dy n)) (kx k)).getD (.tup []) = .tup ((srt (hits f dx dy n k)).map pF) := by
  have e : valT (lanesD (lanesN f dx dy n)) (kx k) = ((lanesN f dx dy n).find? fun e => decide (e.1 = k)).map fun e => .tup ((srt e.2).map pF) := by
    unfold valT lanesD
    rw [List.find?_map]
    have z : ((fun p : List Key × D => decide (p.1 = kx k)) ∘ fun e : Pt × List Pt => (kx e.1, D.tup ((srt e.2).map pF))) = fun e => decide (e.1 = k) := by
      funext e
      show decide (kx e.1 = kx k) = decide (e.1 = k)
      exact decide_eq_decide.mpr ⟨kx_inj, fun q => by rw [q]⟩
    rw [z, Option.map_map]
    rfl
  rw [e, find_lanes]
  by_cases h : hits f dx dy n k = []
  · rw [if_pos h, h]
    show D.tup [] = .tup ((srt []).map pF)
    have z : srt [] = [] := List.perm_nil.mp (srt_perm [])
    rw [z]
    rfl
  · rw [if_neg h]
    rfl
theorem laneP_add {x y dx dy j : Int} (h : ¬ (dx = 0 ∧ dy = 0)) : laneP (x + j * dx) (y + j * dy) dx dy = laneP x y dx dy + j := by
  unfold laneP
  by_cases h1 : dx = 0
  · have h2 : dy ≠ 0 := fun z => h ⟨h1, z⟩
    rw [if_pos h1, if_pos h1, if_neg h2, if_neg h2]
    exact Int.add_mul_fdiv_right y j h2
  · rw [if_neg h1, if_neg h1]
    exact Int.add_mul_fdiv_right x j h1
theorem lane_eq {x y u v dx dy j : Int} (h : ¬ (dx = 0 ∧ dy = 0)) : (x + j * dx = u ∧ y + j * dy = v) ↔ ((laneX x y dx dy, laneY x y dx dy) : Pt) = (laneX u v dx dy, laneY u v dx dy) ∧ laneP u v dx dy = laneP x y dx dy + j := by
  constructor
  · rintro ⟨rfl, rfl⟩
    refine ⟨?_, laneP_add h⟩
    unfold laneX laneY
    rw [laneP_add h]
    have e1 : (laneP x y dx dy + j) * dx = laneP x y dx dy * dx + j * dx := Int.add_mul ..
    have e2 : (laneP x y dx dy + j) * dy = laneP x y dx dy * dy + j * dy := Int.add_mul ..
    rw [e1, e2]
    congr 1 <;> omega
  · rintro ⟨e, hp⟩
    obtain ⟨e1, e2⟩ := Prod.mk.inj e
    unfold laneX at e1
    unfold laneY at e2
    rw [hp] at e1 e2
    have a1 : (laneP x y dx dy + j) * dx = laneP x y dx dy * dx + j * dx := Int.add_mul ..
    have a2 : (laneP x y dx dy + j) * dy = laneP x y dx dy * dy + j * dy := Int.add_mul ..
    rw [a1] at e1
    rw [a2] at e2
    constructor <;> omega
theorem lane_closed {x y u v : Int} : ((laneX x y 0 0, laneY x y 0 0) : Pt) = (laneX u v 0 0, laneY u v 0 0) ↔ x = u ∧ y = v := by
  unfold laneX laneY laneP
  simp
/-- the times at which a walk stands on a square: by numbers, or by a pattern -/
def TSpec (f : Nat → Nat) (p : Nat) (u v : Int) (ns : List Nat) (b : Nat) (A : List Nat) : Prop :=
  Per.Asc ns ∧ ((px f p = 0 ∧ py f p = 0 ∧ ns = [] ∧ Per.Lst p ((List.range p).filter fun i => decide (px f i = u ∧ py f i = v)) b A) ∨ (¬ (px f p = 0 ∧ py f p = 0) ∧ b = 1 ∧ A = [] ∧ ∀ t, t ∈ ns ↔ px f t = u ∧ py f t = v))
theorem asc_range (n : Nat) (q : Nat → Bool) : Per.Asc ((List.range n).filter q) := List.Pairwise.filter _ List.pairwise_lt_range
theorem pat_on {f : Nat → Nat} {p : Nat} (h0 : 0 < p) (u v : Int) : Per.Pat p ((List.range p).filter fun i => decide (px f i = u ∧ py f i = v)) := ⟨h0, asc_range _ _, fun x hx => List.mem_range.mp (List.mem_filter.mp hx).1⟩
theorem tspec_ex {f : Nat → Nat} {p : Nat} (hp : IsPer f p) (u v : Int) : ∃ ns b A, TSpec f p u v ns b A := by
  by_cases h : px f p = 0 ∧ py f p = 0
  · obtain ⟨b, A, hL⟩ := exists_lst p _ (pat_on (f := f) hp.pos u v)
    exact ⟨[], b, A, List.Pairwise.nil, .inl ⟨h.1, h.2, rfl, hL⟩⟩
  · refine ⟨(List.range (p * (u.natAbs + v.natAbs + p + 2))).filter fun t => decide (px f t = u ∧ py f t = v), 1, [], asc_range _ _, .inr ⟨h, rfl, rfl, fun t => ?_⟩⟩
    rw [List.mem_filter, List.mem_range, decide_eq_true_eq]
    refine ⟨fun z => z.2, fun z => ⟨?_, z⟩⟩
    have hx := px_div hp.per t
    have hy := py_div hp.per t
    have bx := px_le f (t % p)
    have by_ := py_le f (t % p)
    have lt := Nat.mod_lt t hp.pos
    have k0 : t / p ≤ u.natAbs + v.natAbs + p := by
      by_cases h1 : px f p = 0
      · have h2 : py f p ≠ 0 := fun z => h ⟨h1, z⟩
        have e : ((t / p : Nat) : Int) * py f p = v - py f (t % p) := by omega
        have n1 : (((t / p : Nat) : Int) * py f p).natAbs = (t / p) * (py f p).natAbs := by rw [Int.natAbs_mul]; rfl
        have n2 : t / p ≤ (t / p) * (py f p).natAbs := Nat.le_mul_of_pos_right _ (Int.natAbs_pos.mpr h2)
        rw [e] at n1
        omega
      · have e : ((t / p : Nat) : Int) * px f p = u - px f (t % p) := by omega
        have n1 : (((t / p : Nat) : Int) * px f p).natAbs = (t / p) * (px f p).natAbs := by rw [Int.natAbs_mul]; rfl
        have n2 : t / p ≤ (t / p) * (px f p).natAbs := Nat.le_mul_of_pos_right _ (Int.natAbs_pos.mpr h1)
        rw [e] at n1
        omega
    have d := Nat.div_add_mod t p
    have m1 : p * (t / p) ≤ p * (u.natAbs + v.natAbs + p) := Nat.mul_le_mul_left p k0
    have m2 : p * (u.natAbs + v.natAbs + p + 2) = p * (u.natAbs + v.natAbs + p) + p * 2 := Nat.mul_add ..
    have := hp.pos
    omega
theorem on_open {f : Nat → Nat} {p : Nat} (hp : IsPer f p) (h : ¬ (px f p = 0 ∧ py f p = 0)) (u v : Int) (t : Nat) : (px f t = u ∧ py f t = v) ↔ laneK f (px f p) (py f p) (t % p) = (laneX u v (px f p) (py f p), laneY u v (px f p) (py f p)) ∧ laneP u v (px f p) (py f p) = laneI f (px f p) (py f p) (t % p) + ((t / p : Nat) : Int) := by
  rw [px_div hp.per t, py_div hp.per t]
  exact lane_eq h
end
section
open Wk TL
theorem srt_same {l : List Pt} (h : l.Pairwise leP) : srt l = l := by
  unfold srt
  exact List.mergeSort_of_pairwise (h.imp fun {a b} q => leB_iff.mpr q)
theorem closed_marks {f : Nat → Nat} {p : Nat} (u v : Int) : (srt (hits f 0 0 p (laneX u v 0 0, laneY u v 0 0))).map (·.2) = ((List.range p).filter fun i => decide (px f i = u ∧ py f i = v)).map toI := by
  have e : hits f 0 0 p (laneX u v 0 0, laneY u v 0 0) = ((List.range p).filter fun i => decide (px f i = u ∧ py f i = v)).map fun (i : Nat) => ((0 : Int), (i : Int)) := by
    unfold hits laneK
    have z : (fun i => decide (((laneX (px f i) (py f i) 0 0, laneY (px f i) (py f i) 0 0) : Pt) = (laneX u v 0 0, laneY u v 0 0))) = fun i => decide (px f i = u ∧ py f i = v) := by
      funext i
      exact decide_eq_decide.mpr lane_closed
    rw [z]
    refine List.map_congr_left fun i _ => ?_
    unfold laneI laneP
    simp
  have s : (hits f 0 0 p (laneX u v 0 0, laneY u v 0 0)).Pairwise leP := by
    rw [e]
    refine List.Pairwise.map _ (fun a b h => ?_) (asc_range p _)
    unfold leP
    have h2 : a < b := h
    simp
    omega
  rw [srt_same s, e, List.map_map]
  rfl
def numG (P : Int) (p : Nat) (q : Pt) : Int := (P - q.1) * (p : Int) + q.2
theorem open_perm {f : Nat → Nat} {p : Nat} (hp : IsPer f p) (h : ¬ (px f p = 0 ∧ py f p = 0)) {u v : Int} {ns : List Nat} (asc : Per.Asc ns) (hm : ∀ t, t ∈ ns ↔ px f t = u ∧ py f t = v) :
    (ns.map toI).Perm (((srt (hits f (px f p) (py f p) p (laneX u v (px f p) (py f p), laneY u v (px f p) (py f p)))).filter fun q => decide (q.1 ≤ laneP u v (px f p) (py f p))).map (numG (laneP u v (px f p) (py f p)) p)) := by
  obtain ⟨P, hP⟩ : ∃ P, P = laneP u v (px f p) (py f p) := ⟨_, rfl⟩
  obtain ⟨K0, hK⟩ : ∃ K0 : Pt, K0 = (laneX u v (px f p) (py f p), laneY u v (px f p) (py f p)) := ⟨_, rfl⟩
  have on : ∀ t, (px f t = u ∧ py f t = v) ↔ laneK f (px f p) (py f p) (t % p) = K0 ∧ P = laneI f (px f p) (py f p) (t % p) + ((t / p : Nat) : Int) := fun t => by
    rw [hK, hP]
    exact on_open hp h u v t
  rw [← hP, ← hK]
  have p0 := hp.pos
  refine List.Perm.trans ?_ (((srt_perm _).filter _).map _).symm
  have e : ((hits f (px f p) (py f p) p K0).filter fun q => decide (q.1 ≤ P)).map (numG P p) = ((List.range p).filter fun i => decide (laneK f (px f p) (py f p) i = K0) && decide (laneI f (px f p) (py f p) i ≤ P)).map fun i => (P - laneI f (px f p) (py f p) i) * (p : Int) + (i : Int) := by
    unfold hits
    rw [List.filter_map, List.map_map, List.filter_filter]
    rw [show (fun a => ((fun q : Pt => decide (q.1 ≤ P)) ∘ fun i : Nat => (laneI f (px f p) (py f p) i, (i : Int))) a && decide (laneK f (px f p) (py f p) a = K0)) = fun i => decide (laneK f (px f p) (py f p) i = K0) && decide (laneI f (px f p) (py f p) i ≤ P) from funext fun i => Bool.and_comm _ _]
    rfl
  rw [e]
  refine (List.perm_ext_iff_of_nodup ?_ ?_).mpr fun z => ?_
  · exact List.Pairwise.map _ (fun a b q z => by
      have q2 : a < b := q
      have z2 : (a : Int) = (b : Int) := z
      omega) asc
  · refine List.Pairwise.map _ (fun a b q => q) ?_
    refine List.Pairwise.imp_of_mem ?_ (asc_range p _)
    intro a b ha hb q z
    have a1 := List.mem_range.mp (List.mem_filter.mp ha).1
    have b1 := List.mem_range.mp (List.mem_filter.mp hb).1
    have e1 : ((P - laneI f (px f p) (py f p) a) * (p : Int) + (a : Int)) % (p : Int) = (a : Int) := by
      rw [Int.add_comm, Int.add_mul_emod_self_right]
      exact Int.emod_eq_of_lt (by omega) (by omega)
    have e2 : ((P - laneI f (px f p) (py f p) b) * (p : Int) + (b : Int)) % (p : Int) = (b : Int) := by
      rw [Int.add_comm, Int.add_mul_emod_self_right]
      exact Int.emod_eq_of_lt (by omega) (by omega)
    have z2 : (P - laneI f (px f p) (py f p) a) * (p : Int) + (a : Int) = (P - laneI f (px f p) (py f p) b) * (p : Int) + (b : Int) := z
    rw [z2, e2] at e1
    have q2 : a < b := q
    omega
  · constructor
    · intro hz
      obtain ⟨t, ht, rfl⟩ := List.mem_map.mp hz
      obtain ⟨k1, k2⟩ := (on t).mp ((hm t).mp ht)
      refine List.mem_map.mpr ⟨t % p, List.mem_filter.mpr ⟨List.mem_range.mpr (Nat.mod_lt t p0), ?_⟩, ?_⟩
      · rw [Bool.and_eq_true, decide_eq_true_eq, decide_eq_true_eq]
        refine ⟨k1, ?_⟩
        have nn : (0 : Int) ≤ ((t / p : Nat) : Int) := Int.natCast_nonneg _
        generalize ((t / p : Nat) : Int) = q at k2 nn
        omega
      · show (P - laneI f (px f p) (py f p) (t % p)) * (p : Int) + ((t % p : Nat) : Int) = (t : Int)
        rw [show P - laneI f (px f p) (py f p) (t % p) = ((t / p : Nat) : Int) by omega]
        have d := Nat.div_add_mod t p
        have d2 : ((p * (t / p) + t % p : Nat) : Int) = (t : Int) := by rw [d]
        rw [← d2, Int.natCast_add, Int.natCast_mul, Int.mul_comm]
    · intro hz
      obtain ⟨i, hi, rfl⟩ := List.mem_map.mp hz
      obtain ⟨h1, h2⟩ := List.mem_filter.mp hi
      rw [Bool.and_eq_true, decide_eq_true_eq, decide_eq_true_eq] at h2
      have il := List.mem_range.mp h1
      obtain ⟨k, hk⟩ : ∃ k : Nat, P - laneI f (px f p) (py f p) i = (k : Int) := ⟨(P - laneI f (px f p) (py f p) i).toNat, by omega⟩
      refine List.mem_map.mpr ⟨k * p + i, ?_, ?_⟩
      · have m1 : (k * p + i) % p = i := by
          rw [Nat.add_comm, Nat.add_mul_mod_self_right]
          exact Nat.mod_eq_of_lt il
        have m2 : (k * p + i) / p = k := by
          rw [Nat.add_comm, Nat.add_mul_div_right _ _ p0, Nat.div_eq_of_lt il, Nat.zero_add]
        refine (hm _).mpr ((on _).mpr ?_)
        rw [m1, m2]
        exact ⟨h2.1, by omega⟩
      · show ((k * p + i : Nat) : Int) = _
        rw [hk, Int.natCast_add, Int.natCast_mul]
def sndD : D → D
  | .tup [_, b] => b
  | _ => .non
def kpD (P : Int) : D → Bool
  | .tup [.int a, _] => decide (a ≤ P)
  | _ => false
def numD (P : Int) (p : Nat) : D → D
  | .tup [.int a, .int b] => .int ((P - a) * (p : Int) + b)
  | _ => .non
theorem snd_map (S : List Pt) : ((S.map pT).filter fun _ => true).map sndD = (S.map (·.2)).map D.int := by
  rw [List.filter_eq_self.mpr (fun _ _ => rfl), List.map_map, List.map_map]
  rfl
theorem num_map (P : Int) (p : Nat) (S : List Pt) : ((S.map pT).filter (kpD P)).map (numD P p) = ((S.filter fun q => decide (q.1 ≤ P)).map (numG P p)).map D.int := by
  rw [List.filter_map, List.map_map, List.map_map]
  rfl
section
variable {γ : Gds} {P : Program} {w : World} {K : PySem.W.Frag} {mg : Str → Option Value} {base : Heap} {f C Ct : Addr} {fd : FuncData}
theorem scToSt : FnScope ["walker", "square"] ["walker", "square"] (defScope s_to_start) := ⟨rfl, rfl, rfl, by decide +kernel, rfl, by decide +kernel, by decide +kernel⟩
def RToSt (C : Addr) (ds : List D) (d : D) : Prop := ∃ l x y a p u v, ds = [.ins C (wkD l x y a p), sq u v] ∧ WkOk l a p ∧ d = sq (u - x) (v - y)
theorem ok_toStart (Fn : Fun K "to_start" "to_start" s_to_start f fd) (W : WkC K C) (S : Pf γ P w K mg base C 1 "start" (RW C fun l x y a p => sq x y)) : FnG γ P w K mg base CX0 3 f fd ["walker", "square"] (spR K (RToSt C)) := by
  refine okR Fn scToSt (fun ds d ⟨l, x, y, a, p, u, v, e, _⟩ => by rw [e]; rfl) fun cdv A outer s H B ow ds d Q E hgd hr hR kQ => ?_
  obtain ⟨l, x, y, a, p, u, v, rfl, ok, rfl⟩ := hR
  refine rn_ret (ve_tup (va_cons (ve_bin (ve_sub (ve_var (d := sq u v) (i := 1) rfl rfl (by walk_at "vis")) ve_int (fun _ _ => rfl) (xo_tup (d := .int u) rfl)) (ve_sub (ve_P W.cl S hgd hr (ve_var (d := .ins C (wkD l x y a p)) (i := 0) rfl rfl (by walk_at "vis")) ⟨l, x, y, a, p, rfl, ok, rfl⟩) ve_int (fun _ _ => rfl) (xo_tup (d := .int x) rfl)) bo_sub) (va_cons (ve_bin (ve_sub (ve_var (d := sq u v) (i := 1) rfl rfl (by walk_at "vis")) ve_int (fun _ _ => rfl) (xo_tup (d := .int v) rfl)) (ve_sub (ve_P W.cl S hgd hr (ve_var (d := .ins C (wkD l x y a p)) (i := 0) rfl rfl (by walk_at "vis")) ⟨l, x, y, a, p, rfl, ok, rfl⟩) ve_int (fun _ _ => rfl) (xo_tup (d := .int y) rfl)) bo_sub) va_nil)) (by show 2 ≤ 100000; decide)) kQ
theorem scTimes : FnScope ["self", "square", "lane", "place", "passed", "period", "numbers", "_", "at", "first"] ["self", "square"] (defScope s_Walker_times) := ⟨rfl, rfl, rfl, by decide +kernel, rfl, by decide +kernel, by decide +kernel⟩
def RTimes (C Ct : Addr) (ds : List D) (d : D) : Prop := ∃ (l : List Od) (x y : Int) (a p : Nat) (u v : Int) (ns : List Nat) (b : Nat) (A : List Nat), ds = [.ins C (wkD l x y a p), sq u v] ∧ WkOk l a p ∧ absI u ≤ GR ∧ absI v ≤ GR ∧ TSpec (way l a) p (u - x) (v - y) ns b A ∧ d = .ins Ct (tmD ns b A)
theorem ok_wTimes (Fn : Fun K "times" "Walker.times" s_Walker_times f fd) (W : WkC K C) (N : Free mg) (I : Df γ P w K mg base 3 "is_square" ["value"] (spR K RSq)) (L : Df γ P w K mg base 1 "lane_of" ["square", "drift"] (spR K RLane)) (S : Df γ P w K mg base 3 "to_start" ["walker", "square"] (spR K (RToSt C)))
    (Cl : Pf γ P w K mg base C 1 "closed" (RW C fun l x y a p => .bl (decide (px (way l a) p = 0 ∧ py (way l a) p = 0)))) (U : Df γ P w K mg base 6 "unchecked" ["numbers", "period", "marks"] (spR K (RUn Ct))) : FnG γ P w K mg base CX0 7 f fd ["self", "square"] (spR K (RTimes C Ct)) := by
  refine okR Fn scTimes (fun ds d ⟨l, x, y, a, p, u, v, ns, b, A, e, _⟩ => by rw [e]; rfl) fun cdv A0 outer s H B ow ds d Q E hgd hrm hR kQ => ?_
  obtain ⟨l, x, y, a, p, u, v, ns, b, A, rfl, ok, hu, hv, ⟨asc, sp⟩, rfl⟩ := hR
  have hr : ∀ k, k ≤ 6 → Room k (A0.deeper (envOfC "Walker.times" (defScope s_Walker_times) s.heap.objs.size f cdv)) := fun k hk => hrm.mono hk
  have hu1 : A0.units + 3 + 1 < cLine := by
    have z : A0.units + 3 + 16 * 6 + 200 < cLine := hrm.un
    omega
  have p0 := ok.per.pos
  have ple := ok.le
  have wv : ∀ {env : List (Option D)} {pos : Pos} {ow6 : Ow}, env[0]? = some (some (.ins C (wkD l x y a p))) → Ve (cxOf CX0 P w K mg base ["self", "square", "lane", "place", "passed", "period", "numbers", "_", "at", "first"] "Walker.times" (defScope s_Walker_times) f cdv A0 outer s H E).nox (.Name "self" pos) env ow6 (.ins C (wkD l x y a p)) := fun h => ve_var h rfl (by walk_at "vis")
  obtain ⟨g, hg⟩ : ∃ g, g = way l a := ⟨_, rfl⟩
  obtain ⟨dx, hdx⟩ : ∃ dx, dx = px g p := ⟨_, rfl⟩
  obtain ⟨dy, hdy⟩ : ∃ dy, dy = py g p := ⟨_, rfl⟩
  have bx := ok.dx
  have by_ := ok.dy
  rw [← hg] at sp bx by_
  obtain ⟨PL, hPL⟩ : ∃ PL, PL = laneP (u - x) (v - y) dx dy := ⟨_, rfl⟩
  obtain ⟨K0, hK0⟩ : ∃ K0 : Pt, K0 = (laneX (u - x) (v - y) dx dy, laneY (u - x) (v - y) dx dy) := ⟨_, rfl⟩
  obtain ⟨S0, hS0⟩ : ∃ S0, S0 = srt (hits g dx dy p K0) := ⟨_, rfl⟩
  have S0len : S0.length ≤ 288 := by
    rw [hS0, (srt_perm _).length_eq]
    unfold hits
    rw [List.length_map]
    have z := List.length_filter_le (fun i => decide (laneK g dx dy i = K0)) (List.range p)
    rw [List.length_range] at z
    omega
  refine' rn_if (t := false) (vt_is (vt_not (t := true) (vt_val (ve_is (ve_D I hgd (hr 3 (by decide)) rfl (va_cons (ve_var (d := sq u v) (i := 1) rfl rfl (by walk_at "vis")) va_nil) ⟨u, v, rfl, rfl⟩) (by rw [decide_eq_true hu, decide_eq_true hv]; rfl)))) rfl) (fun z => nomatch z) fun _ B1 e1 => rn_go ?_
  refine' rn_two (d1 := .tupF [.int K0.1, .int K0.2]) (d2 := .int PL) 2 3 rfl scTimes.nd rfl rfl (by first | exact .inl rfl | exact .inr rfl) (by first | exact .inl rfl | exact .inr rfl) ?s2 fun B2 e2 => ?_
  case s2 => exact ve_is (ve_D L hgd (hr 1 (by decide)) rfl (va_cons (ve_D S hgd (hr 3 (by decide)) rfl (va_cons (wv rfl) (va_cons (ve_var (d := sq u v) (i := 1) rfl rfl (by walk_at "vis")) va_nil)) ⟨l, x, y, a, p, u, v, rfl, ok, rfl⟩) (va_cons (ve_at W.cl W.drift (wv rfl) (d := sq dx dy) (by rw [hdx, hdy, hg]; rfl)) va_nil)) ⟨u - x, v - y, dx, dy, rfl, by rw [hdx]; exact bx, by rw [hdy]; exact by_, rfl⟩) (by rw [hK0, hPL])
  refine' rn_set (i := 4) (d := .tup (S0.map pF)) scTimes.nd rfl (by first | exact .inl rfl | exact .inr rfl) ?s3 fun B3 e3 => ?_
  case s3 => exact ve_is (ve_getT2 (k := kx K0) hu1 (ve_at W.cl W.lanes (wv rfl) (d := .dtp (lanesD (lanesN g dx dy p))) (by rw [hdx, hdy, hg]; rfl)) (ve_var (d := .tupF [.int K0.1, .int K0.2]) (i := 2) rfl rfl (by walk_at "vis")) (ve_tup va_nil (by show 0 ≤ 100000; decide))) (by rw [valT_lanes, hS0])
  refine' rn_set (i := 5) (d := natD p) scTimes.nd rfl (by first | exact .inl rfl | exact .inr rfl) ?s4 fun B4 e4 => ?_
  case s4 => exact ve_is (ve_bi (va_cons (ve_at W.cl W.ways (wv rfl) (d := .str (wsT ((List.range p).map (way l a)))) rfl) va_nil) rfl N.len boot_len (fo_lenS (by rw [wsT_len, List.length_map, List.length_range]; omega))) (by rw [wsT_len, List.length_map, List.length_range])
  have kQ4 := kQ.ex (e1.trans (e2.trans (e3.trans e4)))
  have pv : ∀ {env : List (Option D)} {pos : Pos} {ow6 : Ow}, env[4]? = some (some (.tup (S0.map pF))) → Ve (cxOf CX0 P w K mg base ["self", "square", "lane", "place", "passed", "period", "numbers", "_", "at", "first"] "Walker.times" (defScope s_Walker_times) f cdv A0 outer s H E).nox (.Name "passed" pos) env ow6 (.tup (S0.map pT)) := fun h => ve_pT (ve_var h rfl (by walk_at "vis"))
  refine' rn_if (t := decide (dx = 0 ∧ dy = 0)) (vt_val (ve_P W.cl Cl hgd (hr 2 (by decide)) (wv rfl) ⟨l, x, y, a, p, rfl, ok, by rw [hdx, hdy, hg]⟩)) ?c1 ?c2
  case c1 =>
    intro t B5 e5
    obtain ⟨z1, z2⟩ := of_decide_eq_true t
    rcases sp with ⟨_, _, rfl, hL⟩ | ⟨no, _⟩
    · have mk : S0.map (·.2) = ((List.range p).filter fun i => decide (px g i = u - x ∧ py g i = v - y)).map toI := by
        rw [hS0, hK0, z1, z2]
        exact closed_marks _ _
      refine rn_ret (ve_D U hgd (hr 6 (by decide)) rfl (va_cons (ve_tup va_nil (by show 0 ≤ 100000; decide)) (va_cons (ve_var (d := natD p) (i := 5) rfl rfl (by walk_at "vis")) (va_cons (ve_ty (id := "tuple") (va_cons (ve_lcP (j := 7) (j1 := 8) (ds := S0.map pT) (fun _ => true) sndD rfl scTimes.nd (vi_tup (pv rfl)) (blkOk_by (N := ["self", "square", "lane", "place", "passed", "period", "numbers", "_", "at", "first"]) (sc := defScope s_Walker_times) (by decide +kernel)) (by rw [List.length_map]; omega) (by decide) ?hp ?hg (fun d ow' _ _ s0 H0 C0 cl fp => vts_nil) ?he) va_nil) rfl N.tuple boot_tuple to_tupL) va_nil))) ⟨[], (List.range p).filter fun i => decide (px g i = u - x ∧ py g i = v - y), A, p, b, by rw [snd_map, mk, ← natD_ints]; rfl, pat_on p0 _ _, by omega, ?hl, hL, rfl⟩) (kQ4.ex e5)
      case hl =>
        have z := List.length_filter_le (fun i => decide (px g i = u - x ∧ py g i = v - y)) (List.range p)
        rw [List.length_range] at z
        omega
      case hp =>
        intro d hd
        obtain ⟨q, _, rfl⟩ := List.mem_map.mp hd
        exact ⟨_, _, rfl⟩
      case hg => exact fun _ _ _ _ _ => pg_tup rfl (pgs_cons (pg_name (i := 7) scTimes.nd rfl (.inl rfl)) (pgs_cons (pg_name (i := 8) scTimes.nd rfl (.inl rfl)) pgs_nil))
      case he =>
        intro d ow' hd _ _ s0 H0 C0 cl fp
        obtain ⟨q, _, rfl⟩ := List.mem_map.mp hd
        exact ve_var (d := .int q.2) (i := 8) rfl rfl (by walk_at "vis")
    · exact absurd ⟨hdx ▸ z1, hdy ▸ z2⟩ no
  case c2 =>
    intro t B5 e5
    have no : ¬ (dx = 0 ∧ dy = 0) := of_decide_eq_false t
    refine rn_go ?_
    rcases sp with ⟨z1, z2, _⟩ | ⟨no2, rfl, rfl, hm⟩
    · exact absurd ⟨hdx.trans z1, hdy.trans z2⟩ no
    · have pm := open_perm ok.per (by rw [← hg]; exact no2) asc (by rw [← hg]; exact hm)
      rw [← hg, ← hdx, ← hdy, ← hPL, ← hK0, ← hS0] at pm
      refine' rn_set (i := 6) (d := .lst (ns.map natD)) scTimes.nd rfl (by first | exact .inl rfl | exact .inr rfl) ?s5 fun B6 e6 => ?_
      case s5 =>
        refine ve_is (ve_bi (va_cons (ve_is (ve_lcP (j := 9) (j1 := 8) (ds := S0.map pT) (kpD PL) (numD PL p) rfl scTimes.nd (vi_tup (pv rfl)) (blkOk_by (N := ["self", "square", "lane", "place", "passed", "period", "numbers", "_", "at", "first"]) (sc := defScope s_Walker_times) (by decide +kernel)) (by rw [List.length_map]; omega) (by decide) ?hp ?hg ?ht ?he) (congrArg D.lst (num_map PL p S0))) va_nil) rfl N.sorted boot_sorted (fo_sorted (l := ns.map toI) ?hs pm)) (by rw [natD_ints])
        case hs =>
          refine List.Pairwise.map _ (fun c d q => ?_) asc
          have q2 : c < d := q
          show (c : Int) ≤ (d : Int)
          omega
        case hp =>
          intro d hd
          obtain ⟨q, _, rfl⟩ := List.mem_map.mp hd
          exact ⟨_, _, rfl⟩
        case hg => exact fun _ _ _ _ _ => pg_tup rfl (pgs_cons (pg_name (i := 9) scTimes.nd rfl (.inl rfl)) (pgs_cons (pg_name (i := 8) scTimes.nd rfl (.inl rfl)) pgs_nil))
        case ht =>
          intro d ow' hd _ s0 H0 C0 cl fp
          obtain ⟨q, _, rfl⟩ := List.mem_map.mp hd
          exact vts_one (vt_comp (ve_var (d := .int q.1) (i := 9) rfl rfl (by walk_at "vis")) (ve_var (d := .int PL) (i := 3) rfl rfl (by walk_at "vis")) co_le)
        case he =>
          intro d ow' hd _ _ s0 H0 C0 cl fp
          obtain ⟨q, _, rfl⟩ := List.mem_map.mp hd
          exact ve_bin (ve_bin (ve_bin (ve_var (d := .int PL) (i := 3) rfl rfl (by walk_at "vis")) (ve_var (d := .int q.1) (i := 9) rfl rfl (by walk_at "vis")) bo_sub) (ve_var (d := natD p) (i := 5) rfl rfl (by walk_at "vis")) (bo_mulR (by omega))) (ve_var (d := .int q.2) (i := 8) rfl rfl (by walk_at "vis")) bo_add
      exact rn_ret (ve_D U hgd (hr 6 (by decide)) rfl (va_cons (ve_ty (id := "tuple") (va_cons (ve_var (d := .lst (ns.map natD)) (i := 6) rfl rfl (by walk_at "vis")) va_nil) rfl N.tuple boot_tuple to_tupL) (va_cons ve_int (va_cons (ve_tup va_nil (by show 0 ≤ 100000; decide)) va_nil))) ⟨ns, [], [], 1, 1, rfl, ⟨by decide, List.Pairwise.nil, fun x hx => by cases hx⟩, by decide, by decide, ⟨⟨by decide, List.Pairwise.nil, (fun x hx => by cases hx)⟩, rfl, fun m hm _ => hm⟩, rfl⟩) (kQ4.ex (e5.trans e6))
end
end
section
theorem scSip : FnScope ["cup", "many", "part"] ["cup", "many"] (defScope s__law_sip) := ⟨rfl, rfl, rfl, by decide +kernel, rfl, by decide +kernel, by decide +kernel⟩
section
variable {P : Program} {w : World} {K : PySem.W.Frag} {mg : Str → Option Value} {base : Heap}
def GSip (ds : List D) : Prop := ∃ m : Int, ds = [.int m] ∧ 0 < m ∧ m < 1073741824
def RSip (ds : List D) (d : D) : Prop := ∃ m r : Int, ds = [.int m] ∧ d = .int r ∧ 0 ≤ r ∧ r < m
theorem ok_sip {f : Addr} {fd : FuncData} (Fn : Fun K "_law_sip" "_law_sip" s__law_sip f fd) (mI : mg "int" = none) (mD : mg "divmod" = none) : FnG γ P w K mg base CX0 1 f fd ["cup", "many"] (spC K GSip RSip) := by
  refine okC Fn scSip (fun ds ⟨m, e, _⟩ => by rw [e]; rfl) fun cdv A outer s H B ow c ds Q E hgd hr hG hc k => ?_
  obtain ⟨m, rfl, hm0, hm1⟩ := hG
  obtain ⟨x, y, hx, hy, hco⟩ := hc
  refine' rn_seti (q := c) (n := 0) (j := 0) ?h ?ho ?hi hco rfl ?k (pg_sub pe_can pe_can set_list)
  case h => walk_at "vd"
  case ho => walk_at "vd"
  case hi => walk_at "vd"
  case k =>
  intro B' e1
  have ho2 : ou ow c (.lst ([D.int x, .int y].set 0 (.int ((x * 48271 + 11) % 2147483629)))) c = some (.lst [.int ((x * 48271 + 11) % 2147483629), .int y]) := ou_same
  refine' rn_if (t := decide (0 < y)) ?h ?h1 ?h2
  case h => walk_at "vt"
  case h1 =>
    intro ht B2 e2
    have hy0 : 0 < y := of_decide_eq_true ht
    refine' rn_setiName (q := c) (n := 1) (j := 1) (m := 2) rfl ?h ?ho ?hi ho2 rfl scSip.nd rfl (.inl rfl) ?k rfl rfl rfl (pg_tup rfl (pgs_cons (pg_sub pe_can pe_can set_list) (pgs_cons (pg_name scSip.nd rfl (.inl rfl)) pgs_nil)))
    case h => walk_at "vd"
    case ho => walk_at "vd"
    case hi => walk_at "vd"
    case k =>
    intro B3 e3
    refine rn_retC (ow0 := ow) (d := .int (y % m)) ?_ k (e1.trans (e2.trans e3)) ?_ ?_ ⟨m, _, rfl, rfl, Int.emod_nonneg _ (by omega), Int.emod_lt_of_pos _ hm0⟩
    · walk_at "vd"
    · intro b o n e
      rw [ou_ne n, ou_ne n]
      exact e
    · exact ⟨_, _, Int.emod_nonneg _ (by omega), Int.ediv_nonneg hy (by omega), ou_same⟩
  case h2 =>
    intro ht B2 e2
    refine rn_go ?_
    refine rn_retC (ow0 := ow) (d := .int (((x * 48271 + 11) % 2147483629 / 1021) % m)) ?_ k (e1.trans e2) ?_ ?_ ⟨m, _, rfl, rfl, Int.emod_nonneg _ (by omega), Int.emod_lt_of_pos _ hm0⟩
    · walk_at "vd"
    · intro b o n e
      rw [ou_ne n]
      exact e
    · exact ⟨_, _, Int.emod_nonneg _ (by omega), hy, ou_same⟩
theorem scCup : FnScope ["script", "spot", "cell", "one"] ["script", "spot"] (defScope s__law_cup) := ⟨rfl, rfl, rfl, by decide +kernel, rfl, by decide +kernel, by decide +kernel⟩
theorem cut_ints (ns : List Int) (lo hi : Option Int) : ∃ L : List Int, Vd.cutD (ns.map D.int) lo hi = L.map D.int := by
  unfold Vd.cutD
  exact ⟨((ns.drop (HT.sIx (ns.map D.int).length 0 lo)).take (HT.sIx (ns.map D.int).length (ns.map D.int).length hi - HT.sIx (ns.map D.int).length 0 lo)), by rw [List.map_take, List.map_drop]⟩
theorem atI_nat {α : Type} {xs : List α} {n : Nat} (h : n < xs.length) : L2.atI xs (n : Int) = some xs[n] := by
  unfold L2.atI L2.ixN
  rw [if_pos (by omega), if_pos (by omega)]
  simp [h]
theorem atI_map {ns : List Int} {n : Nat} (h : n < ns.length) : L2.atI (ns.map D.int) (n : Int) = some (.int ns[n]) := by
  rw [atI_nat (by rw [List.length_map]; exact h)]
  simp
theorem ok_cup {f : Addr} {fd : FuncData} (Fn : Fun K "_law_cup" "_law_cup" s__law_cup f fd) (mI : mg "int" = none) (mA : mg "abs" = none) (mL : mg "len" = none) : FnG γ P w K mg base CX0 1 f fd ["script", "spot"] (spCup K) := by
  refine okG Fn scCup (fun vs H Q E ⟨F, ow, v, ns, n, e, _⟩ => by rw [e]; rfl) fun cdv A outer s H vs Q E hgd hr ⟨F, ow, v, ns, n, e, wo, rv, k⟩ => ?_
  subst e
  refine ⟨F, ow, [.rol (ns.map D.int), .int n], wo, .cons rv (.cons (.int _) .nil), ?_⟩
  have hlen : ((ns.map D.int).length : Int) = ns.length := by rw [List.length_map]
  obtain ⟨L, hL⟩ := cut_ints ns none (some 2)
  obtain ⟨c0, hc0⟩ : ∃ c0 : Int, c0 = if h : n < ns.length then ns[n] else 7919 * n + 104729 := ⟨_, rfl⟩
  obtain ⟨L0, hL0⟩ : ∃ L0 : List Int, L0 = if n < ns.length then [] else L := ⟨_, rfl⟩
  refine' rn_set (i := 2) (d := .int c0) scCup.nd rfl (.inl rfl) ?h ?k
  case h =>
    refine' ve_if (t := decide ((n : Int) < ((ns.map D.int).length : Nat))) ?c ?a ?b
    case c =>
      refine' vt_comp ?ha ?hb co_lt
      case ha => walk_at "vd"
      case hb =>
        refine' ve_bi ?ha rfl ?hm ?hv ?hr
        case hv => exact boot_len
        case ha => walk_at "va"
        case hm => walk_at "none"
        case hr => exact fo_lenR
    case a =>
      intro t
      have h : n < ns.length := by
        have z := of_decide_eq_true t
        rw [hlen] at z
        omega
      rw [dif_pos h] at hc0
      subst hc0
      refine' ve_sub ?ha ?hb (fun _ _ => rfl) ?hr
      case ha => walk_at "vd"
      case hb => walk_at "vd"
      case hr => exact xo_rol (atI_map h)
    case b =>
      intro t
      have h : ¬ n < ns.length := by
        have z := of_decide_eq_false t
        rw [hlen] at z
        omega
      rw [dif_neg h] at hc0
      subst hc0
      walk_at "vd"
  case k =>
  intro B1 e1
  refine' rn_for (ds := L0.map D.int) (g := gName 3) (f := fun d env => env.set 3 (some d)) (fun i env ow' => ow' = ow ∧ ∃ (c : Int) (o : Option D), env = [some (.rol (ns.map D.int)), some (.int n), some (.int c), o]) PassesOwn.never rfl ?hi (pg_name scCup.nd rfl (.inl rfl)) (fun ow d _ => gd_name 3) ⟨rfl, c0, none, rfl⟩ ?hs ?hd
  case hi =>
    refine vi_list ?_
    refine' ve_if (t := decide (((ns.map D.int).length : Nat) ≤ (n : Int))) ?c ?a ?b
    case c =>
      refine' vt_comp ?ha ?hb co_ge
      case ha => walk_at "vd"
      case hb =>
        refine' ve_bi ?ha rfl ?hm ?hv ?hr
        case hv => exact boot_len
        case ha => walk_at "va"
        case hm => walk_at "none"
        case hr => exact fo_lenR
    case a =>
      intro t
      have h : ¬ n < ns.length := by
        have z := of_decide_eq_true t
        rw [hlen] at z
        omega
      rw [if_neg h] at hL0
      rw [hL0, ← hL]
      exact ve_sliceR (ve_var (i := 0) rfl rfl (by walk_at "vis")) vp_none (vp_some ve_int)
    case b =>
      intro t
      have h : n < ns.length := by
        have z := of_decide_eq_false t
        rw [hlen] at z
        omega
      rw [if_pos h] at hL0
      rw [hL0]
      exact ve_lst va_nil (Nat.zero_le _)
  case hs =>
    rintro B2 i d env' ow' e2 hd ⟨rfl, c, o, rfl⟩
    obtain ⟨j, hj⟩ : ∃ j : Int, d = .int j := by
      rw [List.getElem?_map] at hd
      cases q : L0[i]? with
      | none => rw [q] at hd; cases hd
      | some j => rw [q] at hd; cases hd; exact ⟨j, rfl⟩
    subst hj
    refine' rn_set (i := 2) (d := .int ((c * 31 + j) % 1000000007)) scCup.nd rfl (.inl rfl) ?h ?k
    case h => walk_at "vd"
    case k =>
      intro B3 e3
      refine rn_nextW ?_ e3
      exact ⟨rfl, _, some (.int j), rfl⟩
  case hd =>
    rintro B2 env' ow' e2 ⟨rfl, c, o, rfl⟩
    refine' rn_retL (ds := [.int ((c * 4099 + 271 * n + 17) % 2147483629), .int (if decide (c < 0) || decide ((10 : Int) ^ (18 : Int).toNat ≤ c) then (if c < 0 then -c else c) else 0)]) ?h ?hl ?k
    case h =>
      refine' va_cons ?ha (va_cons ?hb va_nil)
      case ha => walk_at "vd"
      case hb =>
        refine' ve_if (t := decide (c < 0) || decide ((10 : Int) ^ (18 : Int).toNat ≤ c)) ?c ?a ?b
        case c =>
          refine vt_w (vw_or ?_ (fun _ => vw_or1 ?_) (pw_all_or _ _))
          · walk_at "vt"
          · walk_at "vt"
        case a =>
          intro t
          rw [if_pos t]
          walk_at "vd"
        case b =>
          intro t
          rw [if_neg (by rw [t]; exact Bool.false_ne_true)]
          walk_at "vd"
    case hl => show 2 ≤ 100000; decide
    case k =>
      intro F2 H2 q e3 hq w2
      refine k F2 H2 q _ _ (e1.trans (e2.trans e3)) hq w2 (Int.emod_nonneg _ (by omega)) ?_
      split <;> (try split) <;> omega
theorem scPick : FnScope ["cup", "things"] ["cup", "things"] (defScope s__law_pick) := ⟨rfl, rfl, rfl, by decide +kernel, rfl, by decide +kernel, by decide +kernel⟩
def GPick (ds : List D) : Prop := ∃ l : List D, ds = [.lst l] ∧ 0 < l.length ∧ l.length < 1073741824
def RPick (ds : List D) (d : D) : Prop := ∃ l : List D, ds = [.lst l] ∧ d ∈ l
theorem ok_pick {f f1 : Addr} {fd fd1 : FuncData} (Fn : Fun K "_law_pick" "_law_pick" s__law_pick f fd) (F1 : FnG γ P w K mg base CX0 1 f1 fd1 ["cup", "many"] (spC K GSip RSip)) (m1 : mg "_law_sip" = some (.ref f1)) (k1 : PySem.W.keepIn K (.ref f1) = true) (b1 : Binds K fd1 ["cup", "many"] []) (mL : mg "len" = none) :
    FnG γ P w K mg base CX0 2 f fd ["cup", "things"] (spC K GPick RPick) := by
  refine okC Fn scPick (fun ds ⟨m, e, _⟩ => by rw [e]; rfl) fun cdv A outer s H B ow c ds Q E hgd hr hG hc k => ?_
  obtain ⟨l, rfl, h0, h1⟩ := hG
  refine rn_retM (P := fun d ow2 => SameO c ow ow2 ∧ CupO ow2 c ∧ d ∈ l) ?_ (fun d ow2 ⟨a, b, e⟩ F2 H2 v e2 w2 r2 => k F2 H2 ow2 v d e2 w2 a b r2 ⟨l, rfl, e⟩)
  refine' vm_ix2 (d1 := .lst l) ix_list (fun _ _ => rfl) ?ha (vm_draw F1 hgd hr rfl m1 k1 b1 ?hb hc ?hG) ?hk
  case ha => walk_at "vd"
  case hb => exact va_cons (ve_var (i := 0) rfl rfl (by walk_at "vis")) (va_cons (by refine' ve_bi ?ha rfl ?hm ?hv ?hr; (case hv => exact boot_len); (case ha => walk_at "va"); (case hm => walk_at "none"); (case hr => exact fo_lenL)) va_nil)
  case hG => exact ⟨_, rfl, by omega, by omega⟩
  case hk =>
    rintro d2 ow2 ⟨s2, c2, m, r, e, rfl, r0, r1⟩
    cases e
    have hr : r.toNat < l.length := by omega
    have er : r = (r.toNat : Int) := by omega
    have at_ : L2.atI l r = some l[r.toNat] := (congrArg (L2.atI l) er).trans (atI_nat hr)
    exact ⟨l[r.toNat], rd_ixL at_, s2, c2, List.getElem_mem hr⟩
end
end
section
open Wk TL
theorem scLRow : FnScope ["cup", "most", "longest", "found", "turn", "kind", "is_turn", "word"] ["cup", "most", "longest"] (defScope s__law_row) := ⟨rfl, rfl, rfl, by decide +kernel, rfl, by decide +kernel, by decide +kernel⟩
def GLRow (ds : List D) : Prop := ∃ m n : Int, ds = [.int m, .int n] ∧ 1 ≤ m ∧ m ≤ 8 ∧ 1 ≤ n ∧ n ≤ 9
def RLRow2 (ds : List D) (d : D) : Prop := ∃ (l : List Od) (m n : Int), ds = [.int m, .int n] ∧ d = .str (tx (rowC l)) ∧ Row l ∧ (l.length : Int) ≤ m
def RLRow (_ : List D) (d : D) : Prop := ∃ l : List Od, d = .str (tx (rowC l)) ∧ Row l
def rlb : Str := ("RLB" : Str)
/-- whether a datum is a turn's text -/
def isT : D → Bool
  | .str z => decide (z.cps.toList.headD 0 ∈ rlb.cps.toList)
  | _ => false
theorem isT_oc {o : Od} (h : o.ok) : decide (oc o ∈ rlb.cps.toList) = !o.isGo := by
  cases o with
  | t k =>
    obtain ⟨h1, h2⟩ := (h : 1 ≤ k ∧ k ≤ 3)
    match k, h1, h2 with
    | 1, _, _ => decide +kernel
    | 2, _, _ => decide +kernel
    | 3, _, _ => decide +kernel
  | g n =>
    obtain ⟨h1, h2⟩ := (h : 1 ≤ n ∧ n ≤ 9)
    show decide (48 + n ∈ rlb.cps.toList) = false
    have e : rlb.cps.toList = [82, 76, 66] := by decide +kernel
    rw [e]
    simp
    omega
theorem isT_d {o : Od} (h : o.ok) : isT (.str (tx [oc o])) = !o.isGo := by
  show decide ((tx [oc o]).cps.toList.headD 0 ∈ rlb.cps.toList) = _
  rw [tx_cps]
  exact isT_oc h
theorem log_small {i : Int} (h1 : 0 ≤ i) (h2 : i ≤ 10) : i.natAbs.log2 < 1920 := by
  have : i.natAbs.log2 ≤ i.natAbs := Nat.log2_le_self _
  omega
theorem not_all {l : List Od} (h : l.all (fun o => !o.isGo) = false) : l.any Od.isGo = true := by
  induction l with
  | nil => cases h
  | cons o l ih =>
    rw [List.all_cons] at h
    rw [List.any_cons]
    cases q : o.isGo with
    | true => rfl
    | false =>
      rw [q] at h
      simpa using ih (by simpa using h)
theorem set_any {l : List Od} {j : Nat} {o : Od} (hj : j < l.length) (ho : o.isGo = true) : (l.set j o).any Od.isGo = true := by
  rw [List.any_eq_true]
  exact ⟨o, List.mem_iff_getElem.mpr ⟨j, by rw [List.length_set]; exact hj, by rw [List.getElem_set_self]⟩, ho⟩
theorem join_small {l : List Od} (h : l.length ≤ 8) : ((l.map fun o => tx [oc o]).map (·.length)).sum + (l.map fun o => tx [oc o]).length * (" " : Str).length ≤ 16777216 := by
  have e : ((l.map fun o => tx [oc o]).map (·.length)).sum = l.length := by
    rw [List.map_map]
    clear h
    induction l with
    | nil => rfl
    | cons o l ih =>
      rw [List.map_cons, List.sum_cons, ih, List.length_cons]
      show (tx [oc o]).length + l.length = _
      rw [tx_len]
      simp
      omega
  have e2 : (" " : Str).length = 1 := by decide +kernel
  rw [e, e2, List.length_map]
  omega
section
variable {γ : Gds} {P : Program} {w : World} {K : PySem.W.Frag} {mg : Str → Option Value} {base : Heap} {f C : Addr} {fd : FuncData}
theorem ok_lrow2 (Fn : Fun K "_law_row" "_law_row" s__law_row f fd) (N : Free mg) (S : Df γ P w K mg base 1 "_law_sip" ["cup", "many"] (spC K GSip RSip)) : FnG γ P w K mg base CX0 2 f fd ["cup", "most", "longest"] (spC K GLRow RLRow2) := by
  refine okC Fn scLRow (fun ds ⟨m, n, e, _⟩ => by rw [e]; rfl) fun cdv A outer s H B ow c ds Q E hgd hr hG hc kQ => ?_
  obtain ⟨mo, lo, rfl, m1, m8, l1, l9⟩ := hG
  refine' rn_newL (j := 3) (ds := []) scLRow.nd rfl (.inl rfl) va_nil (Nat.zero_le _) fun B1 q e1 hq => ?_
  have cq : c ≠ q := fun z => by
    obtain ⟨x, y, _, _, h⟩ := hc
    rw [z, hq] at h
    cases h
  have hc1 : CupO (ou ow q (.lst [])) c := by
    obtain ⟨x, y, hx, hy, h⟩ := hc
    exact ⟨x, y, hx, hy, by rw [ou_ne cq]; exact h⟩
  have cup_ou : ∀ {o2 : Ow} {u : OD}, CupO o2 c → CupO (ou o2 q u) c := fun {o2 u} h => by
    obtain ⟨x, y, hx, hy, h⟩ := h
    exact ⟨x, y, hx, hy, by rw [ou_ne cq]; exact h⟩
  -- a step drawn
  refine' rn_forRM (g := gName 4) (f := fun d env => env.set 4 (some d)) (P := fun d ow2 => SameO c (ou ow q (.lst [])) ow2 ∧ CupO ow2 c ∧ ∃ r : Int, d = .int (1 + r) ∧ 0 ≤ r ∧ r < mo)
    (fun n i env ow' => 1 ≤ n ∧ n ≤ 8 ∧ (n : Int) ≤ mo ∧ ∃ (l : List Od) (z4 z5 z6 : Option D), env = [some (.ob (.ref c)), some (.int mo), some (.int lo), some (.ob (.ref q)), z4, z5, z6, none] ∧ ow' q = some (.lst (wsD l)) ∧ (∀ b o, b ≠ c → b ≠ q → ow b = some o → ow' b = some o) ∧ CupO ow' c ∧ l.length = i ∧ ∀ o ∈ l, o.ok)
    PassesOwn.never rfl ?hgR N.range ?hi ?hP ?hgt (fun ow d => gd_name 4) ?hs ?hd ?hst
  case hgR => rfl
  case hgt => exact pg_name scLRow.nd rfl (.inl rfl)
  case hst => rfl
  case hi =>
    refine vm_op2 (d1 := .int 1) op_add ve_int (vm_DC S hgd (hr.mono (by decide)) rfl (va_cons (ve_var (i := 0) rfl rfl (by walk_at "vis")) (va_cons (ve_var (d := .int mo) (i := 1) rfl rfl (by walk_at "vis")) va_nil)) hc1 ⟨mo, rfl, by omega, by omega⟩) ?_
    rintro d2 ow2 ⟨s2, c2, m, r, e, rfl, r0, r1⟩
    cases e
    exact ⟨_, rd_add, s2, c2, r, rfl, r0, r1⟩
  case hP =>
    rintro d ow2 ⟨s2, c2, r, rfl, r0, r1⟩
    exact ⟨(1 + r).toNat, by congr 1; omega, by omega, by omega, by omega, by omega, [], none, none, none, rfl, s2 q _ (Ne.symm cq) ou_same, fun b o n1 n2 h => s2 b o n1 (by rw [ou_ne n2]; exact h), c2, rfl, fun x hx => by simp at hx⟩
  case hs =>
    rintro n B2 i env' ow' e2 hin ⟨n1, n8, nm, l, z4, z5, z6, rfl, hq2, same, c2, len, okl⟩
    refine' rn_setM (i := 5) (P := fun d ow2 => SameO c ow' ow2 ∧ CupO ow2 c ∧ ∃ r : Int, d = .int r ∧ 0 ≤ r ∧ r < 6) scLRow.nd rfl (.inl rfl) ?a1 ?a2
    case a1 =>
      refine Vm.imp (vm_DC S hgd (hr.mono (by decide)) rfl (va_cons (ve_var (i := 0) rfl rfl (by walk_at "vis")) (va_cons ve_int va_nil)) c2 ⟨6, rfl, by decide, by decide⟩) ?_
      rintro d ow2 ⟨s3, c3, m, r, e, rfl, r0, r1⟩
      cases e
      exact ⟨s3, c3, r, rfl, r0, r1⟩
    case a2 =>
    rintro B3 d ow3 e3 ⟨s3, c3, k, rfl, k0, k6⟩
    refine' rn_setM (i := 6) (P := fun d ow2 => SameO c ow3 ow2 ∧ CupO ow2 c ∧ ∃ t : Bool, d = .bl t ∧ (t = true → k < 3)) scLRow.nd rfl (.inl rfl) ?b1 ?b2
    case b1 =>
      refine vm_or (t := decide (k < 2)) (ve_comp (ve_var (d := .int k) (i := 5) rfl rfl (by walk_at "vis")) ve_int co_lt) (fun t => ⟨.refl, c3, true, rfl, fun _ => by have := of_decide_eq_true t; omega⟩) fun t => vm_one ?_
      refine vm_and (t := decide (k = 2)) (ve_comp (ve_var (d := .int k) (i := 5) rfl rfl (by walk_at "vis")) ve_int co_eqI) (fun t => ⟨.refl, c3, false, rfl, fun z => nomatch z⟩) fun t => vm_one ?_
      refine vm_eqI (vm_DC S hgd (hr.mono (by decide)) rfl (va_cons (ve_var (i := 0) rfl rfl (by walk_at "vis")) (va_cons ve_int va_nil)) c3 ⟨3, rfl, by decide, by decide⟩) ?_
      rintro d ow2 ⟨s4, c4, m, r, e, rfl, r0, r1⟩
      exact ⟨r, 0, rfl, ve_int, s4, c4, _, rfl, fun _ => by have := of_decide_eq_true t; omega⟩
    case b2 =>
    rintro B4 d ow4 e4 ⟨s4, c4, t, rfl, ht⟩
    have hq4 : ow4 q = some (.lst (wsD l)) := s4 q _ (Ne.symm cq) (s3 q _ (Ne.symm cq) hq2)
    refine' rn_appV (q := q) (P := fun d ow2 => SameO c ow4 ow2 ∧ CupO ow2 c ∧ ∃ o : Od, o.ok ∧ d = .str (tx [oc o])) (ve_var (i := 3) rfl rfl (by walk_at "vis")) hq4 ?c1 ?c2
    case c1 =>
      refine vm_if (t := t) (vt_val (ve_var (d := .bl t) (i := 6) rfl rfl (by walk_at "vis"))) (fun tt => ?_) (fun tt => ?_)
      · have k3 := ht tt
        obtain ⟨o, ok, h1⟩ : ∃ o : Od, o.ok ∧ L2.atI rlb.cps.toList k = some (oc o) := by
          have kk : k = 0 ∨ k = 1 ∨ k = 2 := by omega
          rcases kk with rfl | rfl | rfl
          · exact ⟨.t 1, ⟨by decide, by decide⟩, by decide +kernel⟩
          · exact ⟨.t 3, ⟨by decide, by decide⟩, by decide +kernel⟩
          · exact ⟨.t 2, ⟨by decide, by decide⟩, by decide +kernel⟩
        exact vm_of (ve_sub ve_str (ve_var (d := .int k) (i := 5) rfl rfl (by walk_at "vis")) (fun _ _ => rfl) (xo_str (z := rlb) (c := oc o) (by decide +kernel) h1)) ⟨.refl, c4, o, ok, rfl⟩
      · refine vm_strI (P := fun d ow2 => SameO c ow4 ow2 ∧ CupO ow2 c ∧ ∃ r : Int, d = .int (1 + r) ∧ 0 ≤ r ∧ r < lo) ?d1 rfl N.str boot_str ?d2
        case d1 =>
          refine vm_op2 (d1 := .int 1) op_add ve_int (vm_DC S hgd (hr.mono (by decide)) rfl (va_cons (ve_var (i := 0) rfl rfl (by walk_at "vis")) (va_cons (ve_var (d := .int lo) (i := 2) rfl rfl (by walk_at "vis")) va_nil)) c4 ⟨lo, rfl, by omega, by omega⟩) ?_
          rintro d2 ow2 ⟨s2, c2, m, r, e, rfl, r0, r1⟩
          cases e
          exact ⟨_, rd_add, s2, c2, r, rfl, r0, r1⟩
        case d2 =>
          rintro d ow2 ⟨s5, c5, r, rfl, r0, r1⟩
          refine ⟨_, rfl, log_small (by omega) (by omega), s5, c5, .g (1 + r).toNat, ⟨by omega, by omega⟩, ?_⟩
          have y : (1 + r : Int) = (((1 + r).toNat : Nat) : Int) := by omega
          show D.str _ = D.str (tx [48 + (1 + r).toNat])
          rw [← num_tx (n := (1 + r).toNat) (by omega), ← y]
    case c2 =>
    rintro d ow5 ⟨s5, c5, o, oko, rfl⟩
    refine ⟨wsD l, s5 q _ (Ne.symm cq) hq4, by unfold wsD; rw [List.length_map]; omega, fun B5 e5 => rn_nextW ?_ (e3.trans (e4.trans e5))⟩
    refine ⟨n1, n8, nm, l ++ [o], _, _, _, rfl, ?_, fun b u nb1 nb2 h => ?_, cup_ou c5, by rw [List.length_append, len]; rfl, fun x hx => ?_⟩
    · rw [ou_same]
      unfold wsD
      rw [List.map_append]
      rfl
    · rw [ou_ne nb2]
      exact s5 b u nb1 (s4 b u nb1 (s3 b u nb1 (same b u nb1 nb2 h)))
    · rcases List.mem_append.mp hx with h | h
      · exact okl x h
      · rw [List.mem_singleton] at h
        rw [h]
        exact oko
  case hd =>
    rintro n B2 env' ow' e2 ⟨n1, n8, nm, l, z4, z5, z6, rfl, hq2, same, c2, len, okl⟩
    have len2 : (wsD l).length = l.length := by unfold wsD; rw [List.length_map]
    refine' rn_if (t := l.all fun o => !o.isGo) ?t1 ?t2 ?t3
    case t1 =>
      refine vt_val (ve_is (ve_bi (ds := [.lst ((l.map fun o => !o.isGo).map D.bl)]) (va_cons (ve_is (ve_lcO (j := 7) (fun _ => true) (fun d => .bl (isT d)) rfl scLRow.nd (viO_list (ve_var (d := .ob (.ref q)) (i := 3) rfl rfl (by walk_at "vis")) hq2) (blkOk_by (N := ["cup", "most", "longest", "found", "turn", "kind", "is_turn", "word"]) (sc := defScope s__law_row) (by decide +kernel)) (by omega) (fun _ _ _ _ _ => pg_name scLRow.nd rfl (.inl rfl)) (fun d ow' _ _ s0 H0 C0 cl fp => vts_nil) ?el) ?q) va_nil) rfl N.all boot_all (fo_all rfl)) (by rw [List.all_map]; rfl))
      case el =>
        intro d ow2 hd _ _ s0 H0 C0 cl fp
        obtain ⟨o, ho, rfl⟩ := List.mem_map.mp hd
        rw [isT_d (okl o ho), ← isT_oc (okl o ho)]
        exact ve_comp (ve_var (d := .str (tx [oc o])) (i := 7) rfl rfl (by walk_at "vis")) ve_str (co_inC rfl)
      case q =>
        rw [List.filter_eq_self.mpr (fun _ _ => rfl)]
        unfold wsD
        rw [List.map_map, List.map_map]
        congr 1
        exact List.map_congr_left fun o ho => congrArg D.bl (isT_d (okl o ho))
    case t2 =>
      intro _ B3 e3
      refine' rn_setiM (q := q) (P := fun d ow2 => SameO c ow' ow2 ∧ CupO ow2 c ∧ ∃ o : Od, o.ok ∧ o.isGo = true ∧ d = .str (tx [oc o])) (P2 := fun d di ow2 => SameO c ow' ow2 ∧ CupO ow2 c ∧ (∃ o : Od, o.ok ∧ o.isGo = true ∧ d = .str (tx [oc o])) ∧ ∃ r : Int, di = .int r ∧ 0 ≤ r ∧ r < (l.length : Int)) ?f1 (fun ow2 => ve_var (i := 3) rfl rfl (by walk_at "vis")) ?f2 ?f3 (pg_sub pe_can pe_can set_list)
      case f1 =>
        refine vm_strI (P := fun d ow2 => SameO c ow' ow2 ∧ CupO ow2 c ∧ ∃ r : Int, d = .int (1 + r) ∧ 0 ≤ r ∧ r < lo) ?d1 rfl N.str boot_str ?d2
        case d1 =>
          refine vm_op2 (d1 := .int 1) op_add ve_int (vm_DC S hgd (hr.mono (by decide)) rfl (va_cons (ve_var (i := 0) rfl rfl (by walk_at "vis")) (va_cons (ve_var (d := .int lo) (i := 2) rfl rfl (by walk_at "vis")) va_nil)) c2 ⟨lo, rfl, by omega, by omega⟩) ?_
          rintro d2 ow2 ⟨s2, c2, m, r, e, rfl, r0, r1⟩
          cases e
          exact ⟨_, rd_add, s2, c2, r, rfl, r0, r1⟩
        case d2 =>
          rintro d ow2 ⟨s5, c5, r, rfl, r0, r1⟩
          refine ⟨_, rfl, log_small (by omega) (by omega), s5, c5, .g (1 + r).toNat, ⟨by omega, by omega⟩, rfl, ?_⟩
          have y : (1 + r : Int) = (((1 + r).toNat : Nat) : Int) := by omega
          show D.str _ = D.str (tx [48 + (1 + r).toNat])
          rw [← num_tx (n := (1 + r).toNat) (by omega), ← y]
      case f2 =>
        rintro d ow2 ⟨s3, c3, ho⟩
        have hq3 : ow2 q = some (.lst (wsD l)) := s3 q _ (Ne.symm cq) hq2
        refine Vm.imp (vm_DC S hgd (hr.mono (by decide)) rfl (va_cons (ve_var (i := 0) rfl rfl (by walk_at "vis")) (va_cons (ve_bi (va_cons (ve_var (d := .ob (.ref q)) (i := 3) rfl rfl (by walk_at "vis")) va_nil) rfl N.len boot_len (fo_lenO hq3)) va_nil)) c3 ⟨_, rfl, by omega, by omega⟩) ?_
        rintro d3 ow3 ⟨s4, c4, m, r, e, rfl, r0, r1⟩
        cases e
        exact ⟨s3.trans s4, c4, ho, r, rfl, r0, by omega⟩
      case f3 =>
        rintro d di ow3 ⟨s3, c3, ⟨o, oko, go, rfl⟩, r, rfl, r0, r1⟩
        have hq3 : ow3 q = some (.lst (wsD l)) := s3 q _ (Ne.symm cq) hq2
        have hj : r.toNat < l.length := by omega
        refine ⟨r, wsD l, r.toNat, rfl, hq3, by unfold ixN; rw [if_pos (by omega), if_pos (by rw [len2]; omega)], fun B4 e4 => rn_go ?_⟩
        refine' rn_freeze (j := 3) (q := q) (l := wsD (l.set r.toNat o)) rfl (by rw [ou_same]; unfold wsD; rw [List.map_set]) fun B5 e5 => ?_
        have ok2 : ∀ x ∈ l.set r.toNat o, x.ok := fun x hx => by
          rcases List.mem_or_eq_of_mem_set hx with h | h
          · exact okl x h
          · rw [h]; exact oko
        refine rn_retC (ow0 := ow) (d := .str (Txt.join (" " : Str) ((l.set r.toNat o).map fun o => tx [oc o]))) (ve_join ve_str (ve_is (ve_var (d := .lst (wsD (l.set r.toNat o))) (i := 3) rfl rfl (by walk_at "vis")) (by rw [wsD_eq])) ?z1) kQ (e1.trans (e2.trans (e3.trans (e4.trans e5)))) (fun b u nb h => ?z2) ?z3 ⟨l.set r.toNat o, mo, lo, rfl, by rw [join_row], ⟨ok2, set_any hj go, by rw [List.length_set]; omega⟩, by rw [List.length_set]; omega⟩
        case z1 => exact join_small (by simp; omega)
        case z2 =>
          have nq : b ≠ q := fun z => by rw [z, hq] at h; cases h
          rw [oz_ne nq, ou_ne nq]
          exact s3 b u nb (same b u nb nq h)
        case z3 =>
          obtain ⟨x, y, hx, hy, h⟩ := c3
          exact ⟨x, y, hx, hy, by rw [oz_ne cq, ou_ne cq]; exact h⟩
    case t3 =>
      intro tf B3 e3
      refine rn_go ?_
      refine' rn_freeze (j := 3) (q := q) (l := wsD l) rfl hq2 fun B5 e5 => ?_
      refine rn_retC (ow0 := ow) (d := .str (Txt.join (" " : Str) (l.map fun o => tx [oc o]))) (ve_join ve_str (ve_is (ve_var (d := .lst (wsD l)) (i := 3) rfl rfl (by walk_at "vis")) (by rw [wsD_eq])) ?z1) kQ (e1.trans (e2.trans (e3.trans e5))) (fun b u nb h => ?z2) ?z3 ⟨l, mo, lo, rfl, by rw [join_row], ⟨okl, not_all tf, by omega⟩, by omega⟩
      case z1 => exact join_small (by omega)
      case z2 =>
        have nq : b ≠ q := fun z => by rw [z, hq] at h; cases h
        rw [oz_ne nq]
        exact same b u nb nq h
      case z3 =>
        obtain ⟨x, y, hx, hy, h⟩ := c2
        exact ⟨x, y, hx, hy, by rw [oz_ne cq]; exact h⟩
theorem spC_weak {k : Nat} {ps : List Str} {G : List D → Prop} {R R' : List D → D → Prop} (h : FnG γ P w K mg base CX0 k f fd ps (spC K G R)) (q : ∀ ds d, R ds d → R' ds d) : FnG γ P w K mg base CX0 k f fd ps (spC K G R') :=
  ⟨fun vs H Q E ⟨F, ow, c, ws, ds, e, wo, hc, r, hG, k0⟩ => h.len vs H Q E ⟨F, ow, c, ws, ds, e, wo, hc, r, hG, fun F2 H2 ow2 v d e2 w2 s2 c2 r2 hR => k0 F2 H2 ow2 v d e2 w2 s2 c2 r2 (q ds d hR)⟩,
   fun A outer s H args us vs Q E hg hr e0 hb r0 ⟨F, ow, c, ws, ds, e, wo, hc, r, hG, k0⟩ => h.run A outer s H args us vs Q E hg hr e0 hb r0 ⟨F, ow, c, ws, ds, e, wo, hc, r, hG, fun F2 H2 ow2 v d e2 w2 s2 c2 r2 hR => k0 F2 H2 ow2 v d e2 w2 s2 c2 r2 (q ds d hR)⟩⟩
theorem ok_lrow (Fn : Fun K "_law_row" "_law_row" s__law_row f fd) (N : Free mg) (S : Df γ P w K mg base 1 "_law_sip" ["cup", "many"] (spC K GSip RSip)) : FnG γ P w K mg base CX0 2 f fd ["cup", "most", "longest"] (spC K GLRow RLRow) := spC_weak (ok_lrow2 Fn N S) fun ds d ⟨l, _, _, _, e, r, _⟩ => ⟨l, e, r⟩
end
end
section
open Wk TL
section
variable {γ : Gds} {P : Program} {w : World} {K : PySem.W.Frag} {mg : Str → Option Value} {base : Heap} {f C : Addr} {fd : FuncData}
theorem scLOn : FnScope ["spot", "side", "many", "x", "y"] ["spot", "side", "many"] (defScope s__law_on) := ⟨rfl, rfl, rfl, by decide +kernel, rfl, by decide +kernel, by decide +kernel⟩
def RLOn (ds : List D) (d : D) : Prop := ∃ (x y : Int) (a : Nat), ds = [sq x y, wD a, .int 1] ∧ a < 4 ∧ d = sq (x + mx a) (y + my a)
theorem wD_ns {a : Nat} (h : a < 4) : decide (wc a ∈ ("NS" : Str).cps.toList) = (a == 0 || a == 2) := by
  match a, h with
  | 0, _ => decide +kernel
  | 1, _ => decide +kernel
  | 2, _ => decide +kernel
  | 3, _ => decide +kernel
theorem ok_lon (Fn : Fun K "_law_on" "_law_on" s__law_on f fd) : FnG γ P w K mg base CX0 1 f fd ["spot", "side", "many"] (spR K RLOn) := by
  refine okR Fn scLOn (fun ds d ⟨x, y, a, e, _⟩ => by rw [e]; rfl) fun cdv A outer s H B ow ds d Q E hgd hr hR kQ => ?_
  obtain ⟨x, y, a, rfl, ha, rfl⟩ := hR
  refine' rn_two (d1 := .int x) (d2 := .int y) 3 4 rfl scLOn.nd rfl rfl (.inl rfl) (.inl rfl) (ve_var (d := sq x y) (i := 0) rfl rfl (by walk_at "vis")) fun B1 e1 => ?_
  refine' rn_if (t := a == 0 || a == 2) ?t1 ?t2 ?t3
  case t1 => exact vt_comp (ve_var (d := wD a) (i := 1) rfl rfl (by walk_at "vis")) ve_str (co_to (co_inC rfl) (congrArg D.bl (wD_ns ha)))
  case t2 =>
    intro t B2 e2
    refine rn_ret (ve_is (ve_tup (va_cons (ve_var (d := .int x) (i := 3) rfl rfl (by walk_at "vis")) (va_cons (ve_if (d := .int (y + my a)) (t := a == 0) (vt_comp (ve_var (d := wD a) (i := 1) rfl rfl (by walk_at "vis")) ve_str (co_to co_eqS ?q1)) ?q2 ?q3) va_nil)) (by show 2 ≤ 100000; decide)) ?q4) (kQ.ex (e1.trans e2))
    case q1 =>
      match a, ha with
      | 0, _ => exact congrArg D.bl (by decide +kernel)
      | 1, _ => exact congrArg D.bl (by decide +kernel)
      | 2, _ => exact congrArg D.bl (by decide +kernel)
      | 3, _ => exact congrArg D.bl (by decide +kernel)
    case q2 =>
      intro t2
      match a, ha, t2 with
      | 0, _, _ => exact ve_bin (ve_var (d := .int y) (i := 4) rfl rfl (by walk_at "vis")) (ve_var (d := .int 1) (i := 2) rfl rfl (by walk_at "vis")) bo_add
    case q3 =>
      intro t2
      match a, ha, t, t2 with
      | 2, _, _, _ => exact ve_bin (ve_var (d := .int y) (i := 4) rfl rfl (by walk_at "vis")) (ve_var (d := .int 1) (i := 2) rfl rfl (by walk_at "vis")) bo_sub
    case q4 =>
      match a, ha, t with
      | 0, _, _ => show sq x (y + 1) = sq (x + 0) (y + 1); rw [Int.add_zero]
      | 2, _, _ => show sq x (y + -1) = sq (x + 0) (y + -1); rw [Int.add_zero]
  case t3 =>
    intro t B2 e2
    refine rn_go ?_
    refine rn_ret (ve_is (ve_tup (va_cons (ve_if (d := .int (x + mx a)) (t := a == 1) (vt_comp (ve_var (d := wD a) (i := 1) rfl rfl (by walk_at "vis")) ve_str (co_to co_eqS ?q1)) ?q2 ?q3) (va_cons (ve_var (d := .int y) (i := 4) rfl rfl (by walk_at "vis")) va_nil)) (by show 2 ≤ 100000; decide)) ?q4) (kQ.ex (e1.trans e2))
    case q1 =>
      match a, ha with
      | 0, _ => exact congrArg D.bl (by decide +kernel)
      | 1, _ => exact congrArg D.bl (by decide +kernel)
      | 2, _ => exact congrArg D.bl (by decide +kernel)
      | 3, _ => exact congrArg D.bl (by decide +kernel)
    case q2 =>
      intro t2
      match a, ha, t2 with
      | 1, _, _ => exact ve_bin (ve_var (d := .int x) (i := 3) rfl rfl (by walk_at "vis")) (ve_var (d := .int 1) (i := 2) rfl rfl (by walk_at "vis")) bo_add
    case q3 =>
      intro t2
      match a, ha, t, t2 with
      | 3, _, _, _ => exact ve_bin (ve_var (d := .int x) (i := 3) rfl rfl (by walk_at "vis")) (ve_var (d := .int 1) (i := 2) rfl rfl (by walk_at "vis")) bo_sub
    case q4 =>
      match a, ha, t with
      | 1, _, _ => show sq (x + 1) y = sq (x + 1) (y + 0); rw [Int.add_zero]
      | 3, _, _ => show sq (x + -1) y = sq (x + -1) (y + 0); rw [Int.add_zero]
end
end
section
open Wk TL
theorem scLSteps : FnScope ["orders", "side", "many", "look", "found", "turn", "word", "step"] ["orders", "side", "many"] (defScope s__law_steps) := ⟨rfl, rfl, rfl, by decide +kernel, rfl, by decide +kernel, by decide +kernel⟩
def RLSteps (ds : List D) (d : D) : Prop := ∃ (l : List Od) (a m : Nat), ds = [.str (tx (rowC l)), wD a, .int (m : Nat)] ∧ Row l ∧ a < 4 ∧ m ≤ 1000 ∧ d = .lst ((List.range m).map fun t => wD (way l a t))
theorem cut_take {l : List D} {m : Nat} : Vd.cutD l none (some (m : Int)) = l.take m := by
  unfold Vd.cutD
  rw [HT.sIx_none]
  have e : HT.sIx l.length l.length (some (m : Int)) = min m l.length := by
    show (if (m : Int) < 0 then ((m : Int) + (l.length : Int)).toNat else min (m : Int).toNat l.length) = _
    rw [if_neg (by omega), Int.toNat_natCast]
  rw [e, List.drop_zero, Nat.sub_zero, List.take_eq_take_iff]
  omega
def rbl : Str := ("RBL" : Str)
theorem isR_oc {o : Od} (h : o.ok) : decide (oc o ∈ rbl.cps.toList) = !o.isGo := by
  cases o with
  | t k =>
    obtain ⟨h1, h2⟩ := (h : 1 ≤ k ∧ k ≤ 3)
    match k, h1, h2 with
    | 1, _, _ => decide +kernel
    | 2, _, _ => decide +kernel
    | 3, _, _ => decide +kernel
  | g n =>
    obtain ⟨h1, h2⟩ := (h : 1 ≤ n ∧ n ≤ 9)
    show decide (48 + n ∈ rbl.cps.toList) = false
    have e : rbl.cps.toList = [82, 66, 76] := by decide +kernel
    rw [e]
    simp
    omega
theorem occ_rbl {k : Nat} (h1 : 1 ≤ k) (h2 : k ≤ 3) : Builtin.Str.occurrences (" RBL" : Str) (tx [oc (.t k)]) 0 (" RBL" : Str).length 1 = k :: [] := by
  match k, h1, h2 with
  | 1, _, _ => decide +kernel
  | 2, _, _ => decide +kernel
  | 3, _, _ => decide +kernel
theorem runs_succ (l : List Od) (k a : Nat) : runs l (k + 1) a = runs l k a ++ run l (fins l k a) := by
  rw [runs_add]
  show _ ++ (run l _ ++ []) = _
  rw [List.append_nil]
theorem fins_succ (l : List Od) (k a : Nat) : fins l (k + 1) a = fin l (fins l k a) := by
  rw [fins_add]
  rfl
section
variable {γ : Gds} {P : Program} {w : World} {K : PySem.W.Frag} {mg : Str → Option Value} {base : Heap} {f C : Addr} {fd : FuncData}
theorem ok_lsteps (Fn : Fun K "_law_steps" "_law_steps" s__law_steps f fd) (N : Free mg) : FnG γ P w K mg base CX0 1 f fd ["orders", "side", "many"] (spR K RLSteps) := by
  refine okR Fn scLSteps (fun ds d ⟨l, a, m, e, _⟩ => by rw [e]; rfl) fun cdv A outer s H B ow ds d Q E hgd hr hR kQ => ?_
  obtain ⟨l, a, m, rfl, rl, ha, hm, rfl⟩ := hR
  refine' rn_two (d1 := .int (a : Nat)) (d2 := .lst []) 3 4 rfl scLSteps.nd rfl rfl (by first | exact .inl rfl | exact .inr rfl) (by first | exact .inl rfl | exact .inr rfl) ?s1 fun B1 e1 => ?_
  case s1 => exact ve_tup (va_cons (ve_sindex (ve_is ve_str (congrArg D.str (by decide +kernel : _ = nesw))) (ve_var (d := wD a) (i := 1) rfl rfl (by walk_at "vis")) (occ_way ha)) (va_cons (ve_lst va_nil (Nat.zero_le _)) va_nil)) (by show 2 ≤ 100000; decide)
  refine' rn_for (ds := rangeD 0 ((m : Int) + 1).toNat) (g := gName 5) (f := fun d env => env.set 5 (some d)) (fun i env ow' => ow = ow' ∧ ∃ (k : Nat) (z5 z6 : Option D), env = [some (.str (tx (rowC l))), some (wD a), some (.int (m : Nat)), some (.int (fins l k a : Nat)), some (.lst ((runs l k a).map wD)), z5, z6, none] ∧ k ≤ i ∧ (k = i ∨ m ≤ (runs l k a).length))
    PassesOwn.never rfl (vi_range1 rfl N.range (ve_bin (ve_var (d := .int (m : Nat)) (i := 2) rfl rfl (by walk_at "vis")) ve_int bo_add) (by omega)) (pg_name scLSteps.nd rfl (by first | exact .inl rfl | exact .inr rfl)) (fun ow d _ => gd_name 5) ⟨rfl, 0, none, none, rfl, Nat.le_refl _, .inl rfl⟩ ?hs ?hd
  case hd =>
    rintro B2 env' ow' e2 ⟨rfl, k, z5, z6, rfl, hk, hor⟩
    rw [rangeD_len] at hk hor
    have big : m ≤ (runs l k a).length := by
      rcases hor with h | h
      · rw [runs_len, h]
        have := rl.pos
        have z : ((m : Int) + 1).toNat = m + 1 := by omega
        rw [z]
        calc m ≤ (m + 1) * 1 := by omega
          _ ≤ (m + 1) * stp l := Nat.mul_le_mul_left _ this
      · exact h
    refine rn_ret (ve_is (ve_sliceL (ve_var (d := .lst ((runs l k a).map wD)) (i := 4) rfl rfl (by walk_at "vis")) vp_none (vp_some (ve_var (d := .int (m : Nat)) (i := 2) rfl rfl (by walk_at "vis")))) ?_) (kQ.ex (e1.trans e2))
    rw [cut_take, runs_map rl.pos, List.map_map, ← List.map_take, List.take_range]
    rw [runs_len] at big
    rw [Nat.min_eq_left big]
    rfl
  case hs =>
    rintro B2 i d env' ow' e2 hd ⟨rfl, k, z5, z6, rfl, hk, hor⟩
    obtain ⟨hi, rfl⟩ := rangeD_get hd
    obtain ⟨u, hu⟩ : ∃ u, u = fins l k a := ⟨_, rfl⟩
    have u4 : u < 4 := by rw [hu]; exact fins_lt l k a ha
    obtain ⟨G, hG⟩ : ∃ G, G = runs l k a := ⟨_, rfl⟩
    rw [← hu, ← hG]
    obtain ⟨W, hW⟩ : ∃ W : List Od, W = if G.length < m then l else [] := ⟨_, rfl⟩
    refine' rn_for (ds := wsD W) (g := gName 6) (f := fun d env => env.set 6 (some d)) (fun j env ow' => ow = ow' ∧ ∃ (z6 : Option D), env = [some (.str (tx (rowC l))), some (wD a), some (.int (m : Nat)), some (.int (fin (W.take j) u : Nat)), some (.lst ((G ++ run (W.take j) u).map wD)), some (.int (0 + (i : Nat))), z6, none])
      PassesOwn.never rfl ?gi (pg_name scLSteps.nd rfl (by first | exact .inl rfl | exact .inr rfl)) (fun ow d _ => gd_name 6) ⟨rfl, z6, ?g0⟩ ?gs ?gd
    case g0 =>
      show _ = [some (.str (tx (rowC l))), some (wD a), some (.int (m : Nat)), some (.int (u : Nat)), some (.lst ((G ++ []).map wD)), some (.int (0 + (i : Nat))), z6, none]
      rw [List.append_nil]
      rfl
    case gi =>
      refine vi_list (ve_if (t := decide ((((G.map wD).length : Nat) : Int) < (m : Nat))) (vt_comp (ve_bi (va_cons (ve_var (d := .lst (G.map wD)) (i := 4) rfl rfl (by walk_at "vis")) va_nil) rfl N.len boot_len fo_lenL) (ve_var (d := .int (m : Nat)) (i := 2) rfl rfl (by walk_at "vis")) co_lt) ?yy1 ?nn1)
      case yy1 =>
        intro t
        have z := of_decide_eq_true t
        rw [List.length_map] at z
        rw [hW, if_pos (by omega)]
        exact ve_words rl (ve_var (d := .str (tx (rowC l))) (i := 0) rfl rfl (by walk_at "vis")) ve_str
      case nn1 =>
        intro t
        have z := of_decide_eq_false t
        rw [List.length_map] at z
        rw [hW, if_neg (by omega)]
        exact ve_lst va_nil (Nat.zero_le _)
    case gd =>
      rintro B3 env' ow' e3 ⟨rfl, z6, rfl⟩
      have tk : W.take (wsD W).length = W := List.take_of_length_le (by unfold wsD; rw [List.length_map]; exact Nat.le_refl _)
      rw [tk]
      refine rn_nextW ⟨rfl, ?_⟩ e3
      by_cases h : G.length < m
      · rw [if_pos h] at hW
        have hki : k = i := by
          rcases hor with h2 | h2
          · exact h2
          · rw [← hG] at h2; omega
        refine ⟨k + 1, some (.int (0 + (i : Nat))), z6, ?_, by omega, .inl (by omega)⟩
        rw [runs_succ, fins_succ, ← hu, ← hG, hW]
      · rw [if_neg h] at hW
        refine ⟨k, some (.int (0 + (i : Nat))), z6, ?_, by omega, .inr (by rw [← hG]; omega)⟩
        rw [← hu, ← hG, hW]
        show [some (.str (tx (rowC l))), some (wD a), some (.int (m : Nat)), some (.int (u : Nat)), some (.lst ((G ++ []).map wD)), some (.int (0 + (i : Nat))), z6, none] = _
        rw [List.append_nil]
    case gs =>
      rintro B3 j d env' ow' e3 hdj ⟨rfl, z6, rfl⟩
      unfold wsD at hdj
      rw [List.getElem?_map] at hdj
      cases y : W[j]? with
      | none => rw [y] at hdj; cases hdj
      | some o =>
        rw [y] at hdj
        obtain rfl := Option.some.inj hdj
        have hlt : G.length < m := by
          apply Classical.byContradiction
          intro h
          rw [hW, if_neg h] at y
          cases y
        rw [if_pos hlt] at hW
        subst hW
        have ho := rl.ok o (List.mem_of_getElem? y)
        have tk : W.take (j + 1) = W.take j ++ [o] := by rw [List.take_add_one, y]; rfl
        obtain ⟨v, hv⟩ : ∃ v, v = fin (W.take j) u := ⟨_, rfl⟩
        have v4 : v < 4 := by rw [hv]; exact fin_lt u4
        have lenr : (run (W.take j) u).length ≤ 72 := by
          have z1 : W = W.take j ++ W.drop j := (List.take_append_drop j W).symm
          have z2 : (run W u).length ≤ 72 := by rw [run_len]; exact rl.stp
          rw [z1, run_app, List.length_append] at z2
          omega
        rw [tk, ← hv]
        refine' rn_if (t := !o.isGo) ?c ?c1 ?c2
        case c => exact vt_comp (ve_var (d := .str (tx [oc o])) (i := 6) rfl rfl (by walk_at "vis")) ve_str (co_to (co_inC rfl) (congrArg D.bl (isR_oc ho)))
        case c1 =>
          intro t B4 e4
          cases o with
          | g n => cases t
          | t n =>
            obtain ⟨a1, a2⟩ := (ho : 1 ≤ n ∧ n ≤ 3)
            refine' rn_set (i := 3) (d := .int ((v + n) % 4 : Nat)) scLSteps.nd rfl (by first | exact .inl rfl | exact .inr rfl) ?u1 fun B5 e5 => ?_
            case u1 => exact ve_is (ve_bin (ve_ty (id := "int") (va_cons (ve_bin (ve_var (d := .int (v : Nat)) (i := 3) rfl rfl (by walk_at "vis")) (ve_sindex ve_str (ve_var (d := .str (tx [oc (.t n)])) (i := 6) rfl rfl (by walk_at "vis")) (occ_rbl a1 a2)) bo_add) va_nil) rfl N.int boot_int to_int) ve_int (bo_mod (by decide))) rfl
            refine rn_go (rn_nextW ⟨rfl, some (.str (tx [oc (.t n)])), ?_⟩ (e4.trans e5))
            rw [run_app, fin_app, ← hv]
            show _ = [some (.str (tx (rowC W))), some (wD a), some (.int (m : Nat)), some (.int ((v + n) % 4 : Nat)), some (.lst ((G ++ (run (W.take j) u ++ [])).map wD)), some (.int (0 + (i : Nat))), some (.str (tx [oc (.t n)])), none]
            rw [List.append_nil]
            rfl
        case c2 =>
          intro t B4 e4
          cases o with
          | t n => cases t
          | g n =>
            obtain ⟨a1, a2⟩ := (ho : 1 ≤ n ∧ n ≤ 9)
            refine' rn_set (i := 4) (d := .lst ((G ++ run (W.take j) u).map wD ++ (List.replicate n v).map wD)) scLSteps.nd rfl (by first | exact .inl rfl | exact .inr rfl) ?u1 fun B5 e5 => ?_
            case u1 =>
              refine ve_bin (ve_var (d := .lst ((G ++ run (W.take j) u).map wD)) (i := 4) rfl rfl (by walk_at "vis")) (ve_is (ve_lc (j := 7) (fun _ => true) (fun _ => wD v) rfl scLSteps.nd (vi_range1 rfl N.range (ve_ty (id := "int") (va_cons (ve_var (d := .str (tx [oc (.g n)])) (i := 6) rfl rfl (by walk_at "vis")) va_nil) rfl N.int boot_int (to_intS (int_digit a1 a2) (by rw [tx_len]; show 1 ≤ 640; decide))) (by omega)) (blkOk_by (N := ["orders", "side", "many", "look", "found", "turn", "word", "step"]) (sc := defScope s__law_steps) (by decide +kernel)) (by rw [rangeD_len]; omega) (fun _ _ _ _ _ => pg_name scLSteps.nd rfl (.inl rfl)) (fun d ow' _ _ s0 H0 C0 cl fp => vts_nil) ?he) ?eq) (bo_cat ?le)
              case he =>
                intro d ow' hd _ _ s0 H0 C0 cl fp
                exact ve_sub (ve_is ve_str (congrArg D.str (by decide +kernel : _ = nesw))) (ve_var (d := .int (v : Nat)) (i := 3) rfl rfl (by walk_at "vis")) (fun _ _ => rfl) (xo_str (by decide) (at_way v4))
              case eq =>
                rw [List.filter_eq_self.mpr (fun _ _ => rfl), List.map_replicate]
                congr 1
                have z : (rangeD 0 ((n : Nat) : Int).toNat).length = n := by rw [rangeD_len, Int.toNat_natCast]
                conv => rhs; rw [← z]
                exact List.map_const' ..
              case le =>
                rw [List.length_map, List.length_map, List.length_append, List.length_replicate]
                omega
            refine rn_go (rn_nextW ⟨rfl, some (.str (tx [oc (.g n)])), ?_⟩ (e4.trans e5))
            rw [run_app, fin_app, ← hv]
            show _ = [some (.str (tx (rowC W))), some (wD a), some (.int (m : Nat)), some (.int (v : Nat)), some (.lst ((G ++ (run (W.take j) u ++ (List.replicate n v ++ []))).map wD)), some (.int (0 + (i : Nat))), some (.str (tx [oc (.g n)])), none]
            rw [List.append_nil, ← List.append_assoc, List.map_append (l₁ := G ++ _)]
            rfl
end
end
section
open Wk TL
def lwk (x y : Int) (g : Nat → Nat) (n : Nat) : List D := (List.range n).map fun t => sq (x + px g t) (y + py g t)
theorem lwk_len {x y : Int} {g : Nat → Nat} {n : Nat} : (lwk x y g n).length = n := by unfold lwk; rw [List.length_map, List.length_range]
theorem lwk_succ {x y : Int} {g : Nat → Nat} {n : Nat} : lwk x y g (n + 1) = lwk x y g n ++ [sq (x + px g n) (y + py g n)] := by
  unfold lwk
  rw [List.range_succ, List.map_append]
  rfl
theorem lwk_at {x y : Int} {g : Nat → Nat} {n i : Nat} (h : i < n) : L2.atI (lwk x y g n) (i : Int) = some (sq (x + px g i) (y + py g i)) := L2.atI_nat (by unfold lwk; rw [List.getElem?_map, List.getElem?_range h]; rfl)
theorem scLPath : FnScope ["orders", "begin", "side", "many", "found", "step"] ["orders", "begin", "side", "many"] (defScope s__law_path) := ⟨rfl, rfl, rfl, by decide +kernel, rfl, by decide +kernel, by decide +kernel⟩
def RLPath (ds : List D) (d : D) : Prop := ∃ (l : List Od) (x y : Int) (a m : Nat), ds = [.str (tx (rowC l)), sq x y, wD a, .int (m : Nat)] ∧ Row l ∧ a < 4 ∧ m ≤ 1000 ∧ d = .lst (lwk x y (way l a) (m + 1))
section
variable {γ : Gds} {P : Program} {w : World} {K : PySem.W.Frag} {mg : Str → Option Value} {base : Heap} {f C : Addr} {fd : FuncData}
theorem ok_lpath (Fn : Fun K "_law_path" "_law_path" s__law_path f fd) (D1 : Df γ P w K mg base 1 "_law_steps" ["orders", "side", "many"] (spR K RLSteps)) (D2 : Df γ P w K mg base 1 "_law_on" ["spot", "side", "many"] (spR K RLOn)) : FnG γ P w K mg base CX0 2 f fd ["orders", "begin", "side", "many"] (spR K RLPath) := by
  refine okR Fn scLPath (fun ds d ⟨l, x, y, a, m, e, _⟩ => by rw [e]; rfl) fun cdv A outer s H B ow ds d Q E hgd hr hR kQ => ?_
  obtain ⟨l, x, y, a, m, rfl, rl, ha, hm, rfl⟩ := hR
  refine' rn_newL (j := 4) (ds := [sq x y]) scLPath.nd rfl (.inl rfl) (va_cons (ve_var (d := sq x y) (i := 1) rfl rfl (by walk_at "vis")) va_nil) (by show 1 ≤ 100000; decide) fun B1 q e1 hq => ?_
  refine' rn_for (ds := (List.range m).map fun t => wD (way l a t)) (g := gName 5) (f := fun d env => env.set 5 (some d)) (fun i env ow' => ou ow q (.lst (lwk x y (way l a) (i + 1))) = ow' ∧ i ≤ m ∧ ∃ z5 : Option D, env = [some (.str (tx (rowC l))), some (sq x y), some (wD a), some (.int (m : Nat)), some (.ob (.ref q)), z5])
    PassesOwn.never rfl ?hi (pg_name scLPath.nd rfl (.inl rfl)) (fun ow d _ => gd_name 5) ⟨?h0, Nat.zero_le _, none, rfl⟩ ?hs ?hd
  case hi => exact vi_list (ve_D D1 hgd hr rfl (va_cons (ve_var (d := .str (tx (rowC l))) (i := 0) rfl rfl (by walk_at "vis")) (va_cons (ve_var (d := wD a) (i := 2) rfl rfl (by walk_at "vis")) (va_cons (ve_var (d := .int (m : Nat)) (i := 3) rfl rfl (by walk_at "vis")) va_nil))) ⟨l, a, m, rfl, rl, ha, hm, rfl⟩)
  case h0 =>
    show ou ow q (.lst [sq (x + 0) (y + 0)]) = _
    rw [Int.add_zero, Int.add_zero]
  case hs =>
    rintro B2 i d env' ow' e2 hd ⟨rfl, him, z5, rfl⟩
    rw [List.getElem?_map] at hd
    have hi : i < m := by
      apply Classical.byContradiction
      intro h
      rw [List.getElem?_eq_none (by rw [List.length_range]; omega)] at hd
      cases hd
    rw [List.getElem?_range hi] at hd
    obtain rfl := Option.some.inj hd
    have w4 := way_lt rl.pos ha i
    refine' rn_app (q := q) (l := lwk x y (way l a) (i + 1)) (d := sq (x + px (way l a) (i + 1)) (y + py (way l a) (i + 1))) (ve_var (i := 4) rfl rfl (by walk_at "vis")) ou_same ?ad (by rw [lwk_len]; omega) fun B3 e3 => ?_
    case ad =>
      refine ve_D D2 hgd hr rfl (va_cons (ve_sub (ve_var (i := 4) rfl rfl (by walk_at "vis")) (ve_ng ve_int) (fun _ _ => rfl) (xo_own (l := lwk x y (way l a) (i + 1)) ou_same (by rw [lwk_succ]; exact L2.atI_last _ _))) (va_cons (ve_var (d := wD (way l a i)) (i := 5) rfl rfl (by walk_at "vis")) (va_cons ve_int va_nil))) ⟨_, _, _, rfl, w4, ?_⟩
      show sq _ _ = sq _ _
      rw [show px (way l a) (i + 1) = px (way l a) i + mx (way l a i) from rfl, show py (way l a) (i + 1) = py (way l a) i + my (way l a i) from rfl, Int.add_assoc, Int.add_assoc]
    rw [← lwk_succ (n := i + 1), ou_ou]
    exact rn_nextW ⟨rfl, by omega, _, rfl⟩ e3
  case hd =>
    rintro B2 env' ow' e2 ⟨rfl, him, z5, rfl⟩
    rw [List.length_map, List.length_range]
    refine' rn_freeze (j := 4) (q := q) (l := lwk x y (way l a) (m + 1)) rfl ou_same fun B3 e3 => ?_
    refine rn_retS (ow0 := ow) (ve_var (d := .lst (lwk x y (way l a) (m + 1))) (i := 4) rfl rfl (by walk_at "vis")) (fun b o h => ?_) (kQ.ex (e1.trans (e2.trans e3)))
    have nq : b ≠ q := fun z => by rw [z, hq] at h; cases h
    rw [oz_ne nq, ou_ne nq]
    exact h
theorem rc_sum {K : PySem.W.Frag} {ow : Ow} {ns : List Int} : RC K ow (rSum K) [.lst (ns.map D.int)] (.int ns.sum) := .mk fun F H xs Q w r k => by
  cases r with
  | cons r1 r2 =>
    cases r2
    cases r1 with
    | lst h1 s1 => exact ⟨_, ns, rfl, by rw [← s1.intsV]; exact SqL.of (w.ex _ _ h1), k.here w (.int _)⟩
theorem fo_sum {X : Cx} {ow : Ow} {ns : List Int} (hc : X.calm = true) : BiOk X ow "sum" [.lst (ns.map D.int)] (.int ns.sum) := ⟨_, cr_sum hc, rc_sum⟩
theorem scLFour : FnScope ["orders", "word"] ["orders"] (defScope s__law_four) := ⟨rfl, rfl, rfl, by decide +kernel, rfl, by decide +kernel, by decide +kernel⟩
def RLFour (ds : List D) (d : D) : Prop := ∃ (l : List Od), ds = [.str (tx (rowC l))] ∧ Row l ∧ d = .int ((4 * stp l : Nat) : Int)
/-- the steps of a datum that is an order's text -/
def stT : D → Int
  | .str z => (z.cps.toList.headD 0 : Nat) - 48
  | _ => 0
def goT : D → Bool
  | .str z => !decide (z.cps.toList.headD 0 ∈ rbl.cps.toList)
  | _ => false
theorem goT_d {o : Od} (h : o.ok) : goT (.str (tx [oc o])) = o.isGo := by
  show (!decide ((tx [oc o]).cps.toList.headD 0 ∈ rbl.cps.toList)) = _
  rw [tx_cps]
  show (!decide (oc o ∈ rbl.cps.toList)) = _
  rw [isR_oc h, Bool.not_not]
theorem stT_d (n : Nat) : stT (.str (tx [oc (.g n)])) = (n : Int) := by
  show (((tx [oc (.g n)]).cps.toList.headD 0 : Nat) : Int) - 48 = _
  rw [tx_cps]
  show ((48 + n : Nat) : Int) - 48 = _
  omega
theorem stp_sum : ∀ {l : List Od}, (∀ o ∈ l, o.ok) → (((wsD l).filter goT).map stT).sum = (stp l : Int)
  | [], _ => rfl
  | .t k :: l, h => by
    have ih := stp_sum (l := l) fun o ho => h o (List.mem_cons_of_mem _ ho)
    have g : goT (.str (tx [oc (.t k)])) = false := goT_d (h (.t k) (List.mem_cons_self ..))
    show (((D.str (tx [oc (.t k)]) :: wsD l).filter goT).map stT).sum = _
    rw [List.filter_cons_of_neg (by rw [g]; exact Bool.false_ne_true), ih]
    rfl
  | .g n :: l, h => by
    have ih := stp_sum (l := l) fun o ho => h o (List.mem_cons_of_mem _ ho)
    have g : goT (.str (tx [oc (.g n)])) = true := goT_d (h (.g n) (List.mem_cons_self ..))
    show (((D.str (tx [oc (.g n)]) :: wsD l).filter goT).map stT).sum = _
    rw [List.filter_cons_of_pos g, List.map_cons, List.sum_cons, ih, stT_d]
    show _ = ((n + stp l : Nat) : Int)
    omega
theorem co_notInC {X : Cx} {ow : Ow} {b : Expr} {c : Nat} {z : Str} (hm : behindInMarks .NotIn b = false) : CmpOk X ow .NotIn b (.str (tx [c])) (.str z) (.bl (!decide (c ∈ z.cps.toList))) := ⟨_, op_notIn_sign, hm, .mk fun F H v u Q w r1 r2 k => by
  cases r1
  cases r2
  exact ⟨c, z, rfl, rfl, k.here w (.bl _)⟩⟩
theorem ok_lfour (Fn : Fun K "_law_four" "_law_four" s__law_four f fd) (N : Free mg) (mS : mg "sum" = none) : FnG γ P w K mg base CX0 1 f fd ["orders"] (spR K RLFour) := by
  refine okR Fn scLFour (fun ds d ⟨l, e, _⟩ => by rw [e]; rfl) fun cdv A outer s H B ow ds d Q E hgd hr hR kQ => ?_
  obtain ⟨l, rfl, rl, rfl⟩ := hR
  have len : (wsD l).length = l.length := by unfold wsD; rw [List.length_map]
  have le := rl.le
  refine rn_ret (ve_is (ve_bin ve_int (ve_bi (va_cons (ve_is (ve_lc (j := 1) goT (fun d => .int (stT d)) rfl scLFour.nd (vi_list (ve_words rl (ve_var (d := .str (tx (rowC l))) (i := 0) rfl rfl (by walk_at "vis")) ve_str)) (blkOk_by (N := ["orders", "word"]) (sc := defScope s__law_four) (by decide +kernel)) (by omega) (fun _ _ _ _ _ => pg_name scLFour.nd rfl (.inl rfl)) ?ht ?he) ?eq) va_nil) rfl mS boot_sum (fo_sum (ns := ((wsD l).filter goT).map stT) rfl)) (bo_mulL (by decide))) ?q) kQ
  case ht =>
    intro d ow' hd _ s0 H0 C0 cl fp
    obtain ⟨o, ho, rfl⟩ := List.mem_map.mp hd
    exact vts_one (vt_is (vt_comp (ve_var (d := .str (tx [oc o])) (i := 1) rfl rfl (by walk_at "vis")) ve_str (co_notInC rfl)) (by rw [goT_d (rl.ok o ho)]; show (!decide (oc o ∈ rbl.cps.toList)) = _; rw [isR_oc (rl.ok o ho), Bool.not_not]))
  case he =>
    intro d ow' hd hk _ s0 H0 C0 cl fp
    obtain ⟨o, ho, rfl⟩ := List.mem_map.mp hd
    rw [goT_d (rl.ok o ho)] at hk
    cases o with
    | t k => cases hk
    | g n =>
      obtain ⟨a1, a2⟩ := (rl.ok (.g n) ho : 1 ≤ n ∧ n ≤ 9)
      rw [stT_d]
      exact ve_ty (id := "int") (va_cons (ve_var (d := .str (tx [oc (.g n)])) (i := 1) rfl rfl (by walk_at "vis")) va_nil) rfl N.int boot_int (to_intS (int_digit a1 a2) (by rw [tx_len]; show 1 ≤ 640; decide))
  case eq =>
    rw [List.map_map]
    rfl
  case q =>
    rw [stp_sum rl.ok]
    show D.int _ = D.int _
    congr 1
theorem scLSome : FnScope ["orders", "begin", "side"] ["orders", "begin", "side"] (defScope s__law_some) := ⟨rfl, rfl, rfl, by decide +kernel, rfl, by decide +kernel, by decide +kernel⟩
def RLSome (ds : List D) (d : D) : Prop := ∃ (l : List Od) (x y : Int) (a : Nat), ds = [.str (tx (rowC l)), sq x y, wD a] ∧ Row l ∧ a < 4 ∧ d = .lst (lwk x y (way l a) (4 * stp l + 1))
theorem ok_lsome (Fn : Fun K "_law_some" "_law_some" s__law_some f fd) (D1 : Df γ P w K mg base 2 "_law_path" ["orders", "begin", "side", "many"] (spR K RLPath)) (D2 : Df γ P w K mg base 1 "_law_four" ["orders"] (spR K RLFour)) : FnG γ P w K mg base CX0 3 f fd ["orders", "begin", "side"] (spR K RLSome) := by
  refine okR Fn scLSome (fun ds d ⟨l, x, y, a, e, _⟩ => by rw [e]; rfl) fun cdv A outer s H B ow ds d Q E hgd hr hR kQ => ?_
  obtain ⟨l, x, y, a, rfl, rl, ha, rfl⟩ := hR
  have z := rl.stp
  exact rn_ret (ve_D D1 hgd hr rfl (va_cons (ve_var (d := .str (tx (rowC l))) (i := 0) rfl rfl (by walk_at "vis")) (va_cons (ve_var (d := sq x y) (i := 1) rfl rfl (by walk_at "vis")) (va_cons (ve_var (d := wD a) (i := 2) rfl rfl (by walk_at "vis")) (va_cons (ve_D D2 hgd (hr.mono (by decide)) rfl (va_cons (ve_var (d := .str (tx (rowC l))) (i := 0) rfl rfl (by walk_at "vis")) va_nil) ⟨l, rfl, rl, rfl⟩) va_nil)))) ⟨l, x, y, a, 4 * stp l, rfl, rl, ha, by omega, rfl⟩) kQ
end
end
section
open Wk TL
def runW (ax ay x y : Int) : Int := if ax = 0 then y.fdiv ay else x.fdiv ax
def okW (ax ay x y : Int) : Bool := if ax = 0 ∧ ay = 0 then decide (x = 0 ∧ y = 0) else decide (0 ≤ runW ax ay x y) && (decide (runW ax ay x y * ax = x) && decide (runW ax ay x y * ay = y))
def valW (ax ay x y : Int) : Int := if ax = 0 ∧ ay = 0 then 0 else runW ax ay x y
def whenL (f : Nat → Nat) (n : Nat) (u v : Int) (m : Nat) : List Pt := ((List.range m).filter fun i => okW (px f n) (py f n) (u - px f i) (v - py f i)).map fun i : Nat => ((i : Int), valW (px f n) (py f n) (u - px f i) (v - py f i))
theorem whenL_succ (f : Nat → Nat) (n : Nat) (u v : Int) (m : Nat) : whenL f n u v (m + 1) = if okW (px f n) (py f n) (u - px f m) (v - py f m) = true then whenL f n u v m ++ [((m : Int), valW (px f n) (py f n) (u - px f m) (v - py f m))] else whenL f n u v m := by
  unfold whenL
  rw [List.range_succ, List.filter_append, List.map_append]
  by_cases h : okW (px f n) (py f n) (u - px f m) (v - py f m) = true <;> simp [h]
theorem whenL_len (f : Nat → Nat) (n : Nat) (u v : Int) (m : Nat) : (whenL f n u v m).length ≤ m := by
  unfold whenL
  rw [List.length_map]
  have z := List.length_filter_le (fun i => okW (px f n) (py f n) (u - px f i) (v - py f i)) (List.range m)
  rw [List.length_range] at z
  exact z
theorem okW_open {ax ay x y : Int} (h : ¬ (ax = 0 ∧ ay = 0)) : okW ax ay x y = true ↔ 0 ≤ runW ax ay x y ∧ runW ax ay x y * ax = x ∧ runW ax ay x y * ay = y := by
  unfold okW
  rw [if_neg h]
  simp only [Bool.and_eq_true, decide_eq_true_eq]
theorem runW_of {ax ay k : Int} (h : ¬ (ax = 0 ∧ ay = 0)) : runW ax ay (k * ax) (k * ay) = k := by
  unfold runW
  by_cases h1 : ax = 0
  · have h2 : ay ≠ 0 := fun z => h ⟨h1, z⟩
    rw [if_pos h1]
    exact Int.mul_fdiv_cancel k h2
  · rw [if_neg h1]
    exact Int.mul_fdiv_cancel k h1
theorem due_perm {f : Nat → Nat} {n : Nat} (n0 : 0 < n) (per : ∀ t, f (t + n) = f t) (h : ¬ (px f n = 0 ∧ py f n = 0)) {u v : Int} {ns : List Nat} (asc : Per.Asc ns) (hm : ∀ t, t ∈ ns ↔ px f t = u ∧ py f t = v) :
    (ns.map toI).Perm ((whenL f n u v n).map fun q => q.1 + q.2 * (n : Int)) := by
  have e : (whenL f n u v n).map (fun q => q.1 + q.2 * (n : Int)) = ((List.range n).filter fun i => okW (px f n) (py f n) (u - px f i) (v - py f i)).map fun i : Nat => (i : Int) + runW (px f n) (py f n) (u - px f i) (v - py f i) * (n : Int) := by
    unfold whenL
    rw [List.map_map]
    refine List.map_congr_left fun i _ => ?_
    show (i : Int) + valW _ _ _ _ * (n : Int) = _
    unfold valW
    rw [if_neg h]
  rw [e]
  refine (List.perm_ext_iff_of_nodup ?_ ?_).mpr fun z => ?_
  · exact List.Pairwise.map _ (fun a b q z => by
      have q2 : a < b := q
      have z2 : (a : Int) = (b : Int) := z
      omega) asc
  · refine List.Pairwise.map _ (fun a b q => q) ?_
    refine List.Pairwise.imp_of_mem ?_ (asc_range n _)
    intro a b ha hb q z
    have a1 := List.mem_range.mp (List.mem_filter.mp ha).1
    have b1 := List.mem_range.mp (List.mem_filter.mp hb).1
    have z2 : (a : Int) + runW (px f n) (py f n) (u - px f a) (v - py f a) * (n : Int) = (b : Int) + runW (px f n) (py f n) (u - px f b) (v - py f b) * (n : Int) := z
    have e1 : ((a : Int) + runW (px f n) (py f n) (u - px f a) (v - py f a) * (n : Int)) % (n : Int) = (a : Int) := by
      rw [Int.add_mul_emod_self_right]
      exact Int.emod_eq_of_lt (by omega) (by omega)
    have e2 : ((b : Int) + runW (px f n) (py f n) (u - px f b) (v - py f b) * (n : Int)) % (n : Int) = (b : Int) := by
      rw [Int.add_mul_emod_self_right]
      exact Int.emod_eq_of_lt (by omega) (by omega)
    rw [z2, e2] at e1
    have q2 : a < b := q
    omega
  · constructor
    · intro hz
      obtain ⟨t, ht, rfl⟩ := List.mem_map.mp hz
      obtain ⟨k1, k2⟩ := (hm t).mp ht
      have hx := px_div per t
      have hy := py_div per t
      have ex : u - px f (t % n) = ((t / n : Nat) : Int) * px f n := by omega
      have ey : v - py f (t % n) = ((t / n : Nat) : Int) * py f n := by omega
      have r : runW (px f n) (py f n) (u - px f (t % n)) (v - py f (t % n)) = ((t / n : Nat) : Int) := by
        rw [ex, ey]
        exact runW_of h
      refine List.mem_map.mpr ⟨t % n, List.mem_filter.mpr ⟨List.mem_range.mpr (Nat.mod_lt t n0), (okW_open h).mpr ?_⟩, ?_⟩
      · rw [r]
        exact ⟨Int.natCast_nonneg _, ex.symm, ey.symm⟩
      · show ((t % n : Nat) : Int) + runW _ _ _ _ * (n : Int) = (t : Int)
        rw [r]
        have d := Nat.div_add_mod t n
        have d2 : ((n * (t / n) + t % n : Nat) : Int) = (t : Int) := by rw [d]
        rw [← d2, Int.natCast_add, Int.natCast_mul, Int.mul_comm, Int.add_comm]
    · intro hz
      obtain ⟨i, hi, rfl⟩ := List.mem_map.mp hz
      obtain ⟨h1, h2⟩ := List.mem_filter.mp hi
      have il := List.mem_range.mp h1
      obtain ⟨c1, c2, c3⟩ := (okW_open h).mp h2
      obtain ⟨k, hk⟩ : ∃ k : Nat, runW (px f n) (py f n) (u - px f i) (v - py f i) = (k : Int) := ⟨(runW (px f n) (py f n) (u - px f i) (v - py f i)).toNat, by omega⟩
      rw [hk] at c2 c3
      refine List.mem_map.mpr ⟨i + n * k, (hm _).mpr ?_, ?_⟩
      · rw [px_mul per i k, py_mul per i k]
        omega
      · show ((i + n * k : Nat) : Int) = (i : Int) + runW _ _ _ _ * (n : Int)
        rw [hk, Int.natCast_add, Int.natCast_mul, Int.mul_comm]
theorem closed_due {f : Nat → Nat} {n : Nat} (h1 : px f n = 0) (h2 : py f n = 0) (u v : Int) : (whenL f n u v n).map (·.1) = ((List.range n).filter fun i => decide (px f i = u ∧ py f i = v)).map toI := by
  unfold whenL
  rw [List.map_map]
  have e : (fun i => okW (px f n) (py f n) (u - px f i) (v - py f i)) = fun i => decide (px f i = u ∧ py f i = v) := by
    funext i
    unfold okW
    rw [if_pos ⟨h1, h2⟩]
    exact decide_eq_decide.mpr (by constructor <;> (rintro ⟨a, b⟩; omega))
  rw [e]
  rfl
def fstD : D → D
  | .tup [a, _] => a
  | _ => .non
def dueD (n : Nat) : D → D
  | .tup [.int a, .int b] => .int (a + b * (n : Int))
  | _ => .non
section
variable {γ : Gds} {P : Program} {w : World} {K : PySem.W.Frag} {mg : Str → Option Value} {base : Heap} {f C : Addr} {fd : FuncData}
theorem scWhen : FnScope ["some", "spot", "ax", "ay", "found", "at", "x", "y", "runs"] ["some", "spot"] (defScope s__law_when) := ⟨rfl, rfl, rfl, by decide +kernel, rfl, by decide +kernel, by decide +kernel⟩
def RWhen (ds : List D) (d : D) : Prop := ∃ (x y : Int) (g : Nat → Nat) (n : Nat) (u v : Int), ds = [.lst (lwk x y g (n + 1)), sq u v] ∧ n ≤ 1000 ∧ d = .lst ((whenL g n (u - x) (v - y) n).map pT)
theorem ok_when (Fn : Fun K "_law_when" "_law_when" s__law_when f fd) (N : Free mg) : FnG γ P w K mg base CX0 1 f fd ["some", "spot"] (spR K RWhen) := by
  refine okR Fn scWhen (fun ds d ⟨x, y, g, n, u, v, e, _⟩ => by rw [e]; rfl) fun cdv A outer s H B ow ds d Q E hgd hr hR kQ => ?_
  obtain ⟨x0, y0, g, n, u, v, rfl, hn, rfl⟩ := hR
  obtain ⟨ax, hax⟩ : ∃ ax, ax = px g n := ⟨_, rfl⟩
  obtain ⟨ay, hay⟩ : ∃ ay, ay = py g n := ⟨_, rfl⟩
  have bx := px_le g n
  have by_ := py_le g n
  rw [← hax] at bx
  rw [← hay] at by_
  have last : L2.atI (lwk x0 y0 g (n + 1)) (-1) = some (sq (x0 + px g n) (y0 + py g n)) := by rw [lwk_succ]; exact L2.atI_last _ _
  have first : L2.atI (lwk x0 y0 g (n + 1)) 0 = some (sq (x0 + px g 0) (y0 + py g 0)) := lwk_at (Nat.succ_pos n)
  have sv : ∀ {env : List (Option D)} {pos : Pos} {ow6 : Ow}, env[0]? = some (some (.lst (lwk x0 y0 g (n + 1)))) → Ve (cxOf CX0 P w K mg base ["some", "spot", "ax", "ay", "found", "at", "x", "y", "runs"] "_law_when" (defScope s__law_when) f cdv A outer s H E).nox (.Name "some" pos) env ow6 (.lst (lwk x0 y0 g (n + 1))) := fun h => ve_var h rfl (by walk_at "vis")
  have pv : ∀ {env : List (Option D)} {pos : Pos} {ow6 : Ow}, env[1]? = some (some (sq u v)) → Ve (cxOf CX0 P w K mg base ["some", "spot", "ax", "ay", "found", "at", "x", "y", "runs"] "_law_when" (defScope s__law_when) f cdv A outer s H E).nox (.Name "spot" pos) env ow6 (sq u v) := fun h => ve_var h rfl (by walk_at "vis")
  refine' rn_par (i := 2) (j := 3) (d1 := .int ax) (d2 := .int ay) rfl scWhen.nd rfl rfl (by decide) rfl rfl ?p1 ?p2 ?k1 ?w1 rfl rfl ⟨_, ps_par rfl scWhen.nd rfl rfl (by decide) rfl rfl pa_can rfl, rfl⟩
  case w1 => rfl
  case p1 => exact ve_is (ve_bin (ve_sub (ve_sub (sv rfl) (ve_ng ve_int) (fun _ _ => rfl) (xo_lst last)) ve_int (fun _ _ => rfl) (xo_tup (d := .int (x0 + px g n)) rfl)) (ve_sub (ve_sub (sv rfl) ve_int (fun _ _ => rfl) (xo_lst first)) ve_int (fun _ _ => rfl) (xo_tup (d := .int (x0 + px g 0)) rfl)) bo_sub) (by rw [hax]; congr 1; show (x0 + px g n) - (x0 + 0) = _; omega)
  case p2 => exact ve_is (ve_bin (ve_sub (ve_sub (sv rfl) (ve_ng ve_int) (fun _ _ => rfl) (xo_lst last)) ve_int (fun _ _ => rfl) (xo_tup (d := .int (y0 + py g n)) rfl)) (ve_sub (ve_sub (sv rfl) ve_int (fun _ _ => rfl) (xo_lst first)) ve_int (fun _ _ => rfl) (xo_tup (d := .int (y0 + py g 0)) rfl)) bo_sub) (by rw [hay]; congr 1; show (y0 + py g n) - (y0 + 0) = _; omega)
  case k1 =>
  intro B1 e1
  refine' rn_newL (j := 4) (ds := []) scWhen.nd rfl (.inl rfl) va_nil (by show 0 ≤ 100000; decide) fun B2 q e2 hq => ?_
  refine' rn_for (ds := rangeD 0 n) (g := gName 5) (f := fun d env => env.set 5 (some d)) (fun i env ow' => ou ow q (.lst ((whenL g n (u - x0) (v - y0) i).map pT)) = ow' ∧ i ≤ n ∧ ∃ z5 z6 z7 z8 : Option D, env = [some (.lst (lwk x0 y0 g (n + 1))), some (sq u v), some (.int ax), some (.int ay), some (.ob (.ref q)), z5, z6, z7, z8])
    PassesOwn.never rfl ?hi (pg_name scWhen.nd rfl (.inl rfl)) (fun ow d _ => gd_name 5) ⟨rfl, Nat.zero_le _, none, none, none, none, rfl⟩ ?hs ?hd
  case hi => exact vi_range1 (n := (n : Int)) rfl N.range (ve_is (ve_bin (ve_bi (va_cons (sv rfl) va_nil) rfl N.len boot_len fo_lenL) ve_int bo_sub) (by rw [lwk_len]; congr 1; omega)) (by omega)
  case hs =>
    rintro B3 i d env' ow' e3 hd ⟨rfl, him, z5, z6, z7, z8, rfl⟩
    obtain ⟨hi, rfl⟩ := rangeD_get hd
    have e0 : (0 : Int) + ((i : Nat) : Int) = (i : Int) := by omega
    rw [e0]
    have wl := whenL_len g n (u - x0) (v - y0) i
    have at_ := lwk_at (x := x0) (y := y0) (g := g) (show i < n + 1 by omega)
    obtain ⟨X, hX⟩ : ∃ X, X = (u - x0) - px g i := ⟨_, rfl⟩
    obtain ⟨Y, hY⟩ : ∃ Y, Y = (v - y0) - py g i := ⟨_, rfl⟩
    refine' rn_par (i := 6) (j := 7) (d1 := .int X) (d2 := .int Y) rfl scWhen.nd rfl rfl (by decide) rfl rfl ?p3 ?p4 ?k2 ?w2 rfl rfl ⟨_, ps_par rfl scWhen.nd rfl rfl (by decide) rfl rfl pa_can rfl, rfl⟩
    case w2 => rfl
    case p3 => exact ve_is (ve_bin (ve_sub (pv rfl) ve_int (fun _ _ => rfl) (xo_tup (d := .int u) rfl)) (ve_sub (ve_sub (sv rfl) (ve_var (d := .int (i : Nat)) (i := 5) rfl rfl (by walk_at "vis")) (fun _ _ => rfl) (xo_lst at_)) ve_int (fun _ _ => rfl) (xo_tup (d := .int (x0 + px g i)) rfl)) bo_sub) (by rw [hX]; congr 1; omega)
    case p4 => exact ve_is (ve_bin (ve_sub (pv rfl) ve_int (fun _ _ => rfl) (xo_tup (d := .int v) rfl)) (ve_sub (ve_sub (sv rfl) (ve_var (d := .int (i : Nat)) (i := 5) rfl rfl (by walk_at "vis")) (fun _ _ => rfl) (xo_lst at_)) ve_int (fun _ _ => rfl) (xo_tup (d := .int (y0 + py g i)) rfl)) bo_sub) (by rw [hY]; congr 1; omega)
    case k2 =>
    intro B4 e4
    have ws := whenL_succ g n (u - x0) (v - y0) i
    rw [← hax, ← hay, ← hX, ← hY] at ws
    refine' rn_if (t := decide (ax = 0) && decide (ay = 0)) (vt_w (vw_and (vt_comp (ve_var (d := .int ax) (i := 2) rfl rfl (by walk_at "vis")) ve_int co_eqI) (fun _ => vw_and1 (vt_comp (ve_var (d := .int ay) (i := 3) rfl rfl (by walk_at "vis")) ve_int co_eqI)) (pw_all_and _ _))) ?c1 ?c2
    case c1 =>
      intro t B5 e5
      rw [Bool.and_eq_true, decide_eq_true_eq, decide_eq_true_eq] at t
      refine' rn_if (t := decide (X = 0) && decide (Y = 0)) (vt_w (vw_and (vt_comp (ve_var (d := .int X) (i := 6) rfl rfl (by walk_at "vis")) ve_int co_eqI) (fun _ => vw_and1 (vt_comp (ve_var (d := .int Y) (i := 7) rfl rfl (by walk_at "vis")) ve_int co_eqI)) (pw_all_and _ _))) ?d1 ?d2
      case d1 =>
        intro t2 B6 e6
        have ok : okW ax ay X Y = true := by
          unfold okW
          rw [if_pos t, ← t2, Bool.decide_and]
        rw [if_pos ok] at ws
        refine' rn_app (q := q) (d := pT ((i : Int), valW ax ay X Y)) (ve_var (i := 4) rfl rfl (by walk_at "vis")) ou_same ?ad (by rw [List.length_map]; omega) fun B7 e7 => ?_
        case ad => exact ve_is (ve_tup (va_cons (ve_var (d := .int (i : Nat)) (i := 5) rfl rfl (by walk_at "vis")) (va_cons ve_int va_nil)) (by show 2 ≤ 100000; decide)) (by unfold valW; rw [if_pos t]; rfl)
        refine rn_go (rn_go (rn_nextW ⟨?_, by omega, _, _, _, _, rfl⟩ (e4.trans (e5.trans (e6.trans e7)))))
        rw [ou_ou, ws, List.map_append]
        rfl
      case d2 =>
        intro t2 B6 e6
        have ok : ¬ okW ax ay X Y = true := by
          unfold okW
          rw [if_pos t, Bool.decide_and, t2]
          exact Bool.false_ne_true
        rw [if_neg ok] at ws
        refine rn_go (rn_go (rn_nextW ⟨?_, by omega, _, _, _, _, rfl⟩ (e4.trans (e5.trans e6))))
        rw [ws]
    case c2 =>
      intro t B5 e5
      have no : ¬ (ax = 0 ∧ ay = 0) := by
        rw [Bool.and_eq_false_iff, decide_eq_false_iff_not, decide_eq_false_iff_not] at t
        rintro ⟨a1, a2⟩
        rcases t with t | t
        · exact t a1
        · exact t a2
      refine' rn_set (i := 8) (d := .int (runW ax ay X Y)) scWhen.nd rfl (.inl rfl) ?s1 fun B6 e6 => ?_
      case s1 =>
        refine ve_is (ve_if (t := !decide (ax = 0)) (d := .int (runW ax ay X Y)) (vt_comp (ve_var (d := .int ax) (i := 2) rfl rfl (by walk_at "vis")) ve_int co_neI) (fun t3 => ?_) (fun t3 => ?_)) rfl
        · have ne : ax ≠ 0 := by simpa using t3
          exact ve_is (ve_bin (ve_var (d := .int X) (i := 6) rfl rfl (by walk_at "vis")) (ve_var (d := .int ax) (i := 2) rfl rfl (by walk_at "vis")) (bo_fdiv ne (by omega))) (by unfold runW; rw [if_neg ne])
        · have eq : ax = 0 := by simpa using t3
          have ne : ay ≠ 0 := fun z => no ⟨eq, z⟩
          exact ve_is (ve_bin (ve_var (d := .int Y) (i := 7) rfl rfl (by walk_at "vis")) (ve_var (d := .int ay) (i := 3) rfl rfl (by walk_at "vis")) (bo_fdiv ne (by omega))) (by unfold runW; rw [if_pos eq])
      obtain ⟨r, hr_⟩ : ∃ r, r = runW ax ay X Y := ⟨_, rfl⟩
      rw [← hr_]
      refine' rn_if (t := decide (0 ≤ r) && (decide (r * ax = X) && decide (r * ay = Y))) (vt_w (vw_and (vt_comp (ve_var (d := .int r) (i := 8) rfl rfl (by walk_at "vis")) ve_int co_ge) (fun _ => vw_and (vt_comp (ve_bin (ve_var (d := .int r) (i := 8) rfl rfl (by walk_at "vis")) (ve_var (d := .int ax) (i := 2) rfl rfl (by walk_at "vis")) (bo_mulR (by omega))) (ve_var (d := .int X) (i := 6) rfl rfl (by walk_at "vis")) co_eqI) (fun _ => vw_and1 (vt_comp (ve_bin (ve_var (d := .int r) (i := 8) rfl rfl (by walk_at "vis")) (ve_var (d := .int ay) (i := 3) rfl rfl (by walk_at "vis")) (bo_mulR (by omega))) (ve_var (d := .int Y) (i := 7) rfl rfl (by walk_at "vis")) co_eqI)) (pw_all_and _ _)) (pw_all_and _ _))) ?d3 ?d4
      case d3 =>
        intro t2 B7 e7
        have ok : okW ax ay X Y = true := by
          unfold okW
          rw [if_neg no, ← hr_]
          exact t2
        rw [if_pos ok] at ws
        refine' rn_app (q := q) (d := pT ((i : Int), valW ax ay X Y)) (ve_var (i := 4) rfl rfl (by walk_at "vis")) ou_same ?ad2 (by rw [List.length_map]; omega) fun B8 e8 => ?_
        case ad2 => exact ve_is (ve_tup (va_cons (ve_var (d := .int (i : Nat)) (i := 5) rfl rfl (by walk_at "vis")) (va_cons (ve_var (d := .int r) (i := 8) rfl rfl (by walk_at "vis")) va_nil)) (by show 2 ≤ 100000; decide)) (by unfold valW; rw [if_neg no, ← hr_]; rfl)
        refine rn_go (rn_go (rn_nextW ⟨?_, by omega, _, _, _, _, rfl⟩ (e4.trans (e5.trans (e6.trans (e7.trans e8))))))
        rw [ou_ou, ws, List.map_append]
        rfl
      case d4 =>
        intro t2 B7 e7
        have ok : ¬ okW ax ay X Y = true := by
          unfold okW
          rw [if_neg no, ← hr_, t2]
          exact Bool.false_ne_true
        rw [if_neg ok] at ws
        refine rn_go (rn_go (rn_nextW ⟨?_, by omega, _, _, _, _, rfl⟩ (e4.trans (e5.trans (e6.trans e7)))))
        rw [ws]
  case hd =>
    rintro B3 env' ow' e3 ⟨rfl, him, z5, z6, z7, z8, rfl⟩
    rw [rangeD_len]
    refine' rn_freeze (j := 4) (q := q) (l := (whenL g n (u - x0) (v - y0) n).map pT) rfl ou_same fun B4 e4 => ?_
    refine rn_retS (ow0 := ow) (ve_var (d := .lst ((whenL g n (u - x0) (v - y0) n).map pT)) (i := 4) rfl rfl (by walk_at "vis")) (fun b o h => ?_) (kQ.ex (e1.trans (e2.trans (e3.trans e4))))
    have nq : b ≠ q := fun z => by rw [z, hq] at h; cases h
    rw [oz_ne nq, ou_ne nq]
    exact h
end
end
section
open Wk TL
theorem scLStart : FnScope ["cup", "far"] ["cup"] (defScope s__law_start) := ⟨rfl, rfl, rfl, by decide +kernel, rfl, by decide +kernel, by decide +kernel⟩
def G00 (ds : List D) : Prop := ds = []
def RLStart (_ : List D) (d : D) : Prop := ∃ x y : Int, d = sq x y ∧ absI x ≤ GR ∧ absI y ≤ GR
theorem absI_le {x m : Int} (h1 : -m ≤ x) (h2 : x ≤ m) : absI x ≤ m := by
  unfold absI
  split <;> omega
def farL : List D := [.int 0, .int 0, .int 0, .int 1000000, .int 999999999999999999999999999991]
section
variable {γ : Gds} {P : Program} {w : World} {K : PySem.W.Frag} {mg : Str → Option Value} {base : Heap} {f C : Addr} {fd : FuncData}
theorem ok_lstart (Fn : Fun K "_law_start" "_law_start" s__law_start f fd) (S : Df γ P w K mg base 1 "_law_sip" ["cup", "many"] (spC K GSip RSip)) (T : Df γ P w K mg base 2 "_law_pick" ["cup", "things"] (spC K GPick RPick)) : FnG γ P w K mg base CX0 3 f fd ["cup"] (spC K G00 RLStart) := by
  refine okC Fn scLStart (fun ds e => by rw [e]; rfl) fun cdv A outer s H B ow c ds Q E hgd hr hG hc kQ => ?_
  obtain rfl : ds = [] := hG
  refine' rn_setM (i := 1) (P := fun d ow2 => SameO c ow ow2 ∧ CupO ow2 c ∧ ∃ m : Int, d = .int m ∧ 0 ≤ m ∧ m ≤ 999999999999999999999999999991) scLStart.nd rfl (.inl rfl) ?a1 ?a2
  case a1 =>
    refine Vm.imp (vm_DC T hgd (hr.mono (by decide)) rfl (va_cons (ve_var (i := 0) rfl rfl (by walk_at "vis")) (va_cons (ve_is (ve_lst (va_cons ve_int (va_cons ve_int (va_cons ve_int (va_cons (ve_bin ve_int ve_int (bo_pow (by decide) (by decide) (by decide))) (va_cons (ve_bin (ve_bin ve_int ve_int (bo_pow (by decide) (by decide) (by decide))) ve_int bo_sub) va_nil))))) (by show 5 ≤ 100000; decide)) (by rfl : _ = D.lst farL)) va_nil)) hc ⟨farL, rfl, by decide, by decide⟩) ?_
    rintro d ow2 ⟨s3, c3, l, e, hd⟩
    cases e
    refine ⟨s3, c3, ?_⟩
    unfold farL at hd
    simp only [List.mem_cons, List.not_mem_nil, or_false] at hd
    rcases hd with rfl | rfl | rfl | rfl | rfl
    · exact ⟨0, rfl, by decide, by decide⟩
    · exact ⟨0, rfl, by decide, by decide⟩
    · exact ⟨0, rfl, by decide, by decide⟩
    · exact ⟨_, rfl, by decide, by decide⟩
    · exact ⟨_, rfl, by decide, by decide⟩
  case a2 =>
  rintro B1 d ow1 e1 ⟨s1, c1, m, rfl, m0, m1⟩
  refine rn_retM (P := fun d ow2 => ∃ d1 d2, d = .tup [d1, d2] ∧ (∃ r : Int, d1 = .int (r - 4 + m) ∧ 0 ≤ r ∧ r < 9) ∧ SameO c ow ow2 ∧ CupO ow2 c ∧ ∃ r : Int, d2 = .int (r - 4 - m) ∧ 0 ≤ r ∧ r < 9) (vm_tup2 (P := fun d ow2 => (∃ r : Int, d = .int (r - 4 + m) ∧ 0 ≤ r ∧ r < 9) ∧ SameO c ow ow2 ∧ CupO ow2 c) (P2 := fun d1 d2 ow2 => (∃ r : Int, d1 = .int (r - 4 + m) ∧ 0 ≤ r ∧ r < 9) ∧ SameO c ow ow2 ∧ CupO ow2 c ∧ ∃ r : Int, d2 = .int (r - 4 - m) ∧ 0 ≤ r ∧ r < 9) ?h1 ?h2) ?h3
  case h1 =>
    refine vm_op1 op_add (vm_op1 op_sub (vm_DC S hgd (hr.mono (by decide)) rfl (va_cons (ve_var (i := 0) rfl rfl (by walk_at "vis")) (va_cons ve_int va_nil)) c1 ⟨9, rfl, by decide, by decide⟩) (P' := fun d ow2 => SameO c ow1 ow2 ∧ CupO ow2 c ∧ ∃ r : Int, d = .int (r - 4) ∧ 0 ≤ r ∧ r < 9) ?_) ?_
    · rintro d ow2 ⟨s2, c2, n, r, e, rfl, r0, r1⟩
      cases e
      exact ⟨_, _, ve_int, rd_sub, s2, c2, r, rfl, r0, r1⟩
    · rintro d ow2 ⟨s2, c2, r, rfl, r0, r1⟩
      exact ⟨.int m, _, ve_var (i := 1) rfl rfl (by walk_at "vis"), rd_add, ⟨r, rfl, r0, r1⟩, s1.trans s2, c2⟩
  case h2 =>
    rintro d1 ow2 ⟨hd, s2, c2⟩
    refine vm_op1 op_sub (vm_op1 op_sub (vm_DC S hgd (hr.mono (by decide)) rfl (va_cons (ve_var (i := 0) rfl rfl (by walk_at "vis")) (va_cons ve_int va_nil)) c2 ⟨9, rfl, by decide, by decide⟩) (P' := fun d ow3 => SameO c ow2 ow3 ∧ CupO ow3 c ∧ ∃ r : Int, d = .int (r - 4) ∧ 0 ≤ r ∧ r < 9) ?_) ?_
    · rintro d ow3 ⟨s3, c3, n, r, e, rfl, r0, r1⟩
      cases e
      exact ⟨_, _, ve_int, rd_sub, s3, c3, r, rfl, r0, r1⟩
    · rintro d ow3 ⟨s3, c3, r, rfl, r0, r1⟩
      exact ⟨.int m, _, ve_var (i := 1) rfl rfl (by walk_at "vis"), rd_sub, hd, s2.trans s3, c3, r, rfl, r0, r1⟩
  case h3 =>
    rintro d ow2 ⟨d1, d2, rfl, ⟨r, rfl, r0, r1⟩, s2, c2, r', rfl, r0', r1'⟩ F2 H2 v e2 w2 r2
    exact kQ F2 H2 ow2 v _ (e1.trans e2) w2 s2 c2 r2 ⟨_, _, rfl, absI_le (by unfold GR; omega) (by unfold GR; omega), absI_le (by unfold GR; omega) (by unfold GR; omega)⟩
end
end
section
open Wk TL
def dueOf (g : Nat → Nat) (n p : Nat) (u v : Int) (ns : List Nat) : D := if px g p = 0 ∧ py g p = 0 then .tup [natD n, .lst (((List.range n).filter fun i => decide (px g i = u ∧ py g i = v)).map natD), .lst []] else .tup [natD 1, .lst [], .lst (ns.map natD)]
theorem drift_mul {g : Nat → Nat} {p n : Nat} (hp : IsPer g p) (hd : p ∣ n) : ∃ k : Nat, n = p * k ∧ px g n = (k : Int) * px g p ∧ py g n = (k : Int) * py g p := by
  obtain ⟨k, rfl⟩ := hd
  refine ⟨k, rfl, ?_, ?_⟩
  · have z := px_mul hp.per 0 k
    rw [Nat.zero_add] at z
    rw [z]
    show (0 : Int) + _ = _
    omega
  · have z := py_mul hp.per 0 k
    rw [Nat.zero_add] at z
    rw [z]
    show (0 : Int) + _ = _
    omega
theorem drift_zero {g : Nat → Nat} {p n : Nat} (hp : IsPer g p) (hd : p ∣ n) (n0 : 0 < n) : (px g n = 0 ∧ py g n = 0) ↔ (px g p = 0 ∧ py g p = 0) := by
  obtain ⟨k, rfl, ex, ey⟩ := drift_mul hp hd
  have k0 : (k : Int) ≠ 0 := by
    have : 0 < k := Nat.pos_of_mul_pos_left n0
    omega
  rw [ex, ey, Int.mul_eq_zero, Int.mul_eq_zero]
  constructor
  · rintro ⟨a, b⟩
    exact ⟨a.resolve_left k0, b.resolve_left k0⟩
  · rintro ⟨a, b⟩
    exact ⟨.inr a, .inr b⟩
theorem per_dvd {g : Nat → Nat} {p n : Nat} (hp : IsPer g p) (hd : p ∣ n) : ∀ t, g (t + n) = g t := by
  obtain ⟨k, rfl⟩ := hd
  exact fun t => per_mul hp.per k t
theorem fst_map (S : List Pt) : ((S.map pT).filter fun _ => true).map fstD = (S.map (·.1)).map D.int := by
  rw [List.filter_eq_self.mpr (fun _ _ => rfl), List.map_map, List.map_map]
  rfl
theorem due_map (n : Nat) (S : List Pt) : ((S.map pT).filter fun _ => true).map (dueD n) = (S.map fun q => q.1 + q.2 * (n : Int)).map D.int := by
  rw [List.filter_eq_self.mpr (fun _ _ => rfl), List.map_map, List.map_map]
  rfl
section
variable {γ : Gds} {P : Program} {w : World} {K : PySem.W.Frag} {mg : Str → Option Value} {base : Heap} {f C : Addr} {fd : FuncData}
theorem scDue : FnScope ["some", "spot", "size", "found", "at", "runs"] ["some", "spot"] (defScope s__law_due) := ⟨rfl, rfl, rfl, by decide +kernel, rfl, by decide +kernel, by decide +kernel⟩
def RDue (ds : List D) (d : D) : Prop := ∃ (x y : Int) (g : Nat → Nat) (n p : Nat) (u v : Int) (ns : List Nat) (b : Nat) (A : List Nat), ds = [.lst (lwk x y g (n + 1)), sq u v] ∧ IsPer g p ∧ p ∣ n ∧ 0 < n ∧ n ≤ 1000 ∧ TSpec g p (u - x) (v - y) ns b A ∧ d = dueOf g n p (u - x) (v - y) ns
theorem ok_due (Fn : Fun K "_law_due" "_law_due" s__law_due f fd) (N : Free mg) (Wn : Df γ P w K mg base 1 "_law_when" ["some", "spot"] (spR K RWhen)) : FnG γ P w K mg base CX0 2 f fd ["some", "spot"] (spR K RDue) := by
  refine okR Fn scDue (fun ds d ⟨x, y, g, n, p, u, v, ns, b, A, e, _⟩ => by rw [e]; rfl) fun cdv A0 outer s H B ow ds d Q E hgd hr hR kQ => ?_
  obtain ⟨x0, y0, g, n, p, u, v, ns, b, A, rfl, hp, dv, n0, hn, ⟨asc, sp⟩, rfl⟩ := hR
  have hu64 : A0.units + 3 + 64 < cLine := by
    have z : A0.units + 3 + 16 * 1 + 200 < cLine := hr.un
    omega
  have z0 := drift_zero hp dv n0
  have last : L2.atI (lwk x0 y0 g (n + 1)) (-1) = some (sq (x0 + px g n) (y0 + py g n)) := by rw [lwk_succ]; exact L2.atI_last _ _
  have first : L2.atI (lwk x0 y0 g (n + 1)) 0 = some (sq (x0 + px g 0) (y0 + py g 0)) := lwk_at (Nat.succ_pos n)
  have sv : ∀ {env : List (Option D)} {pos : Pos} {ow6 : Ow}, env[0]? = some (some (.lst (lwk x0 y0 g (n + 1)))) → Ve (cxOf CX0 P w K mg base ["some", "spot", "size", "found", "at", "runs"] "_law_due" (defScope s__law_due) f cdv A0 outer s H E).nox (.Name "some" pos) env ow6 (.lst (lwk x0 y0 g (n + 1))) := fun h => ve_var h rfl (by walk_at "vis")
  obtain ⟨S, hS⟩ : ∃ S, S = whenL g n (u - x0) (v - y0) n := ⟨_, rfl⟩
  have Sl : S.length ≤ n := by rw [hS]; exact whenL_len _ _ _ _ _
  refine' rn_set (i := 2) (d := natD n) scDue.nd rfl (by first | exact .inl rfl | exact .inr rfl) ?s1 fun B1 e1 => ?_
  case s1 => exact ve_is (ve_bin (ve_bi (va_cons (sv rfl) va_nil) rfl N.len boot_len fo_lenL) ve_int bo_sub) (by rw [lwk_len]; show D.int _ = D.int _; congr 1; omega)
  refine' rn_set (i := 3) (d := .lst (S.map pT)) scDue.nd rfl (by first | exact .inl rfl | exact .inr rfl) ?s2 fun B2 e2 => ?_
  case s2 => exact ve_D Wn hgd (hr.mono (by decide)) rfl (va_cons (sv rfl) (va_cons (ve_var (d := sq u v) (i := 1) rfl rfl (by walk_at "vis")) va_nil)) ⟨x0, y0, g, n, u, v, rfl, hn, by rw [hS]⟩
  have hpT : ∀ d ∈ S.map pT, ∃ d1 d2, d = D.tup [d1, d2] := fun d hd => by
    obtain ⟨q, _, rfl⟩ := List.mem_map.mp hd
    exact ⟨_, _, rfl⟩
  have fv : ∀ {env : List (Option D)} {pos : Pos} {ow6 : Ow}, env[3]? = some (some (.lst (S.map pT))) → Ve (cxOf CX0 P w K mg base ["some", "spot", "size", "found", "at", "runs"] "_law_due" (defScope s__law_due) f cdv A0 outer s H E).nox (.Name "found" pos) env ow6 (.lst (S.map pT)) := fun h => ve_var h rfl (by walk_at "vis")
  refine' rn_if (t := decide (px g n = 0 ∧ py g n = 0)) ?t1 ?c1 ?c2
  case t1 =>
    refine vt_is (vt_comp (ve_sub (sv rfl) (ve_ng ve_int) (fun _ _ => rfl) (xo_lst last)) (ve_sub (sv rfl) ve_int (fun _ _ => rfl) (xo_lst first)) (co_eqD hu64 rfl rfl)) ?_
    refine (eqvAll_ints [x0 + px g n, y0 + py g n] [x0 + px g 0, y0 + py g 0]).trans (decide_eq_decide.mpr ?_)
    have a1 : px g 0 = 0 := rfl
    have a2 : py g 0 = 0 := rfl
    rw [a1, a2]
    simp
    constructor <;> (rintro ⟨a, b⟩; constructor <;> omega)
  case c1 =>
    intro t B3 e3
    have t2 := of_decide_eq_true t
    unfold dueOf at kQ
    rw [if_pos (z0.mp t2)] at kQ
    have mk := closed_due t2.1 t2.2 (u - x0) (v - y0)
    rw [← hS] at mk
    refine rn_ret (ve_tup (va_cons (ve_var (d := natD n) (i := 2) rfl rfl (by walk_at "vis")) (va_cons (ve_is (ve_lcP (j := 4) (j1 := 5) (ds := S.map pT) (fun _ => true) fstD rfl scDue.nd (vi_list (fv rfl)) (blkOk_by (N := ["some", "spot", "size", "found", "at", "runs"]) (sc := defScope s__law_due) (by decide +kernel)) (by rw [List.length_map]; omega) (by decide) hpT ?hg (fun d ow' _ _ s0 H0 C0 cl fp => vts_nil) ?he) (by rw [fst_map, mk, ← natD_ints])) (va_cons (ve_lst va_nil (by show 0 ≤ 100000; decide)) va_nil))) (by show 3 ≤ 100000; decide)) (kQ.ex (e1.trans (e2.trans e3)))
    case hg => exact fun _ _ _ _ _ => pg_tup rfl (pgs_cons (pg_name (i := 4) scDue.nd rfl (.inl rfl)) (pgs_cons (pg_name (i := 5) scDue.nd rfl (.inl rfl)) pgs_nil))
    case he =>
      intro d ow' hd _ _ s0 H0 C0 cl fp
      obtain ⟨q, _, rfl⟩ := List.mem_map.mp hd
      exact ve_var (d := .int q.1) (i := 4) rfl rfl (by walk_at "vis")
  case c2 =>
    intro t B3 e3
    have t2 := of_decide_eq_false t
    refine rn_go ?_
    unfold dueOf at kQ
    rw [if_neg (fun q => t2 (z0.mpr q))] at kQ
    rcases sp with ⟨a1, a2, _⟩ | ⟨_, _, _, hm⟩
    · exact absurd (z0.mpr ⟨a1, a2⟩) t2
    · have pm := due_perm n0 (per_dvd hp dv) t2 asc hm
      rw [← hS] at pm
      refine rn_ret (ve_tup (va_cons ve_int (va_cons (ve_lst va_nil (by show 0 ≤ 100000; decide)) (va_cons (ve_is (ve_bi (va_cons (ve_is (ve_lcP (j := 4) (j1 := 5) (ds := S.map pT) (fun _ => true) (dueD n) rfl scDue.nd (vi_list (fv rfl)) (blkOk_by (N := ["some", "spot", "size", "found", "at", "runs"]) (sc := defScope s__law_due) (by decide +kernel)) (by rw [List.length_map]; omega) (by decide) hpT ?hg (fun d ow' _ _ s0 H0 C0 cl fp => vts_nil) ?he) (congrArg D.lst (due_map n S))) va_nil) rfl N.sorted boot_sorted (fo_sorted (l := ns.map toI) ?hs pm)) (by rw [natD_ints])) va_nil))) (by show 3 ≤ 100000; decide)) (kQ.ex (e1.trans (e2.trans e3)))
      case hs =>
        refine List.Pairwise.map _ (fun c d q => ?_) asc
        have q2 : c < d := q
        show (c : Int) ≤ (d : Int)
        omega
      case hg => exact fun _ _ _ _ _ => pg_tup rfl (pgs_cons (pg_name (i := 4) scDue.nd rfl (.inl rfl)) (pgs_cons (pg_name (i := 5) scDue.nd rfl (.inl rfl)) pgs_nil))
      case he =>
        intro d ow' hd _ _ s0 H0 C0 cl fp
        obtain ⟨q, _, rfl⟩ := List.mem_map.mp hd
        exact ve_bin (ve_var (d := .int q.1) (i := 4) rfl rfl (by walk_at "vis")) (ve_bin (ve_var (d := .int q.2) (i := 5) rfl rfl (by walk_at "vis")) (ve_var (d := natD n) (i := 2) rfl rfl (by walk_at "vis")) (bo_mulR (by omega))) bo_add
theorem scSpot : FnScope ["cup", "some", "x", "y", "kind", "runs"] ["cup", "some"] (defScope s__law_spot) := ⟨rfl, rfl, rfl, by decide +kernel, rfl, by decide +kernel, by decide +kernel⟩
def GSpot (ds : List D) : Prop := ∃ (x y : Int) (g : Nat → Nat) (n : Nat), ds = [.lst (lwk x y g (n + 1))] ∧ n ≤ 1000 ∧ absI x ≤ GR ∧ absI y ≤ GR
def RSpot (_ : List D) (d : D) : Prop := ∃ u v : Int, d = sq u v ∧ absI u ≤ GR ∧ absI v ≤ GR
def rnL : List D := [.int 0, .int 0, .int 1, .int 2, .int 7, .int 1000000000, .int (-1)]
theorem rnL_in {d : D} (h : d ∈ rnL) : ∃ r : Int, d = .int r ∧ -1 ≤ r ∧ r ≤ 1000000000 := by
  unfold rnL at h
  simp only [List.mem_cons, List.not_mem_nil, or_false] at h
  rcases h with rfl | rfl | rfl | rfl | rfl | rfl | rfl <;> exact ⟨_, rfl, by decide, by decide⟩
theorem ok_spot (Fn : Fun K "_law_spot" "_law_spot" s__law_spot f fd) (N : Free mg) (mMx : mg "max" = none) (S : Df γ P w K mg base 1 "_law_sip" ["cup", "many"] (spC K GSip RSip)) (T : Df γ P w K mg base 2 "_law_pick" ["cup", "things"] (spC K GPick RPick)) : FnG γ P w K mg base CX0 3 f fd ["cup", "some"] (spC K GSpot RSpot) := by
  refine okC Fn scSpot (fun ds ⟨x, y, g, n, e, _⟩ => by rw [e]; rfl) fun cdv A0 outer s H B ow c ds Q E hgd hr hG hc kQ => ?_
  obtain ⟨x0, y0, g, n, rfl, hn, hx, hy⟩ := hG
  have last : L2.atI (lwk x0 y0 g (n + 1)) (-1) = some (sq (x0 + px g n) (y0 + py g n)) := by rw [lwk_succ]; exact L2.atI_last _ _
  have first : L2.atI (lwk x0 y0 g (n + 1)) 0 = some (sq x0 y0) := by
    have z := lwk_at (x := x0) (y := y0) (g := g) (Nat.succ_pos n)
    have z2 : sq (x0 + px g 0) (y0 + py g 0) = sq x0 y0 := by
      show sq (x0 + 0) (y0 + 0) = _
      rw [Int.add_zero, Int.add_zero]
    rw [z2] at z
    exact z
  have sv : ∀ {env : List (Option D)} {pos : Pos} {ow6 : Ow}, env[1]? = some (some (.lst (lwk x0 y0 g (n + 1)))) → Ve (cxOf CX0 P w K mg base ["cup", "some", "x", "y", "kind", "runs"] "_law_spot" (defScope s__law_spot) f cdv A0 outer s H E).nox (.Name "some" pos) env ow6 (.lst (lwk x0 y0 g (n + 1))) := fun h => ve_var h rfl (by walk_at "vis")
  refine' rn_asgM (P := fun d ow2 => SameO c ow ow2 ∧ CupO ow2 c ∧ ∃ a b : Int, d = .tup [.int a, .int b]) (pg_two (i := 2) (j := 3) rfl scSpot.nd rfl rfl (.inl rfl) (.inl rfl)) ?a1 ?a2
  case a1 =>
    refine Vm.imp (vm_DC T hgd (hr.mono (by decide)) rfl (va_cons (ve_var (i := 0) rfl rfl (by walk_at "vis")) (va_cons (sv rfl) va_nil)) hc ⟨_, rfl, by rw [lwk_len]; omega, by rw [lwk_len]; omega⟩) ?_
    rintro d ow2 ⟨s2, c2, L, e, hd⟩
    cases e
    obtain ⟨t, _, rfl⟩ := List.mem_map.mp hd
    exact ⟨s2, c2, _, _, rfl⟩
  case a2 =>
  rintro d ow1 ⟨s1, c1, x1, y1, rfl⟩
  refine ⟨_, gd_two 2 3, fun B1 e1 => ?_⟩
  refine' rn_parM (i := 4) (j := 5) (P1 := fun d ow2 => SameO c ow1 ow2 ∧ CupO ow2 c ∧ ∃ k : Int, d = .int k) (P2 := fun d1 d2 ow2 => (∃ k : Int, d1 = .int k) ∧ SameO c ow1 ow2 ∧ CupO ow2 c ∧ ∃ r : Int, d2 = .int r ∧ -1 ≤ r ∧ r ≤ 1000000000) rfl scSpot.nd rfl rfl (by decide) rfl rfl ?q1 ?q2 ?q3 ?q4
  case q4 => rfl
  case q1 =>
    refine Vm.imp (vm_DC S hgd (hr.mono (by decide)) rfl (va_cons (ve_var (i := 0) rfl rfl (by walk_at "vis")) (va_cons ve_int va_nil)) c1 ⟨4, rfl, by decide, by decide⟩) ?_
    rintro d ow2 ⟨s2, c2, m, r, e, rfl, _⟩
    exact ⟨s2, c2, _, rfl⟩
  case q2 =>
    rintro d1 ow2 ⟨s2, c2, h1⟩
    refine Vm.imp (vm_DC T hgd (hr.mono (by decide)) rfl (va_cons (ve_var (i := 0) rfl rfl (by walk_at "vis")) (va_cons (ve_is (ve_lst (va_cons ve_int (va_cons ve_int (va_cons ve_int (va_cons ve_int (va_cons ve_int (va_cons (ve_bin ve_int ve_int (bo_pow (by decide) (by decide) (by decide))) (va_cons (ve_ng ve_int) va_nil))))))) (by show 7 ≤ 100000; decide)) (by rfl : _ = D.lst rnL)) va_nil)) c2 ⟨rnL, rfl, by decide, by decide⟩) ?_
    rintro d ow3 ⟨s3, c3, L, e, hd⟩
    cases e
    exact ⟨h1, s2.trans s3, c3, rnL_in hd⟩
  case q3 =>
  rintro B2 d1 d2 ow2 e2 ⟨⟨k, rfl⟩, s2, c2, r, rfl, r0, r1⟩
  refine' rn_set (i := 2) (d := .int (x1 + r * ((x0 + px g n) - x0))) scSpot.nd rfl (.inl rfl) ?s1 fun B3 e3 => ?_
  case s1 => exact ve_bin (ve_var (d := .int x1) (i := 2) rfl rfl (by walk_at "vis")) (ve_bin (ve_var (d := .int r) (i := 5) rfl rfl (by walk_at "vis")) (ve_bin (ve_sub (ve_sub (sv rfl) (ve_ng ve_int) (fun _ _ => rfl) (xo_lst last)) ve_int (fun _ _ => rfl) (xo_tup (d := .int (x0 + px g n)) rfl)) (ve_sub (ve_sub (sv rfl) ve_int (fun _ _ => rfl) (xo_lst first)) ve_int (fun _ _ => rfl) (xo_tup (d := .int x0) rfl)) bo_sub) (bo_mulL (by omega))) bo_add
  refine' rn_set (i := 3) (d := .int (y1 + r * ((y0 + py g n) - y0))) scSpot.nd rfl (.inl rfl) ?s2 fun B4 e4 => ?_
  case s2 => exact ve_bin (ve_var (d := .int y1) (i := 3) rfl rfl (by walk_at "vis")) (ve_bin (ve_var (d := .int r) (i := 5) rfl rfl (by walk_at "vis")) (ve_bin (ve_sub (ve_sub (sv rfl) (ve_ng ve_int) (fun _ _ => rfl) (xo_lst last)) (ve_int (i := 1)) (fun _ _ => rfl) (xo_tup (d := .int (y0 + py g n)) rfl)) (ve_sub (ve_sub (sv rfl) ve_int (fun _ _ => rfl) (xo_lst first)) (ve_int (i := 1)) (fun _ _ => rfl) (xo_tup (d := .int y0) rfl)) bo_sub) (bo_mulL (by omega))) bo_add
  have e4' := e1.trans (e2.trans (e3.trans e4))
  have fin : ∀ (B5 : Hp) (ow3 : Ow) (X Y : Int), Ex B B5 → SameO c ow ow3 → CupO ow3 c → Rn (cxOf CX0 P w K mg base ["cup", "some", "x", "y", "kind", "runs"] "_law_spot" (defScope s__law_spot) f cdv A0 outer s H E).nox B5 ((defBody s__law_spot).drop 6) { nx := fun _ H' => Q .non H', rt := Q } [some (.ob (.ref c)), some (.lst (lwk x0 y0 g (n + 1))), some (.int X), some (.int Y), some (.int k), some (.int r)] ow3 := fun B5 ow3 X Y e5 s5 c5 => by
    refine rn_retC (d := if (if absI Y > absI X then absI Y else absI X) ≤ GR then sq X Y else sq x0 y0) (ve_if (t := decide ((if absI Y > absI X then absI Y else absI X) ≤ GR)) ?t (fun h => ?_) (fun h => ?_)) kQ e5 s5 c5 ?_
    case t => exact vt_is (vt_comp (ve_bi (va_cons (ve_bi (va_cons (ve_var (d := .int X) (i := 2) rfl rfl (by walk_at "vis")) va_nil) rfl N.abs boot_abs fo_abs) (va_cons (ve_bi (va_cons (ve_var (d := .int Y) (i := 3) rfl rfl (by walk_at "vis")) va_nil) rfl N.abs boot_abs fo_abs) va_nil)) rfl mMx boot_max (fo_max rfl)) (ve_bin ve_int ve_int (bo_pow (by decide) (by decide) (by decide))) co_le) rfl
    · rw [if_pos (of_decide_eq_true h)]
      exact ve_tup (va_cons (ve_var (d := .int X) (i := 2) rfl rfl (by walk_at "vis")) (va_cons (ve_var (d := .int Y) (i := 3) rfl rfl (by walk_at "vis")) va_nil)) (by show 2 ≤ 100000; decide)
    · rw [if_neg (of_decide_eq_false h)]
      exact ve_sub (sv rfl) ve_int (fun _ _ => rfl) (xo_lst first)
    · by_cases h : (if absI Y > absI X then absI Y else absI X) ≤ GR
      · rw [if_pos h]
        refine ⟨X, Y, rfl, ?_, ?_⟩ <;> (split at h <;> omega)
      · rw [if_neg h]
        exact ⟨x0, y0, rfl, hx, hy⟩
  have sip1 : ∀ {env : List (Option D)} {ow3 : Ow} {nm : Str} {pos p1 p2 p3 p4 p5 p6 p7 : Pos} {j1 j2 : Nat} {X : Int} (i : Nat), env[0]? = some (some (.ob (.ref c))) → CupO ow3 c → Ve (cxOf CX0 P w K mg base ["cup", "some", "x", "y", "kind", "runs"] "_law_spot" (defScope s__law_spot) f cdv A0 outer s H E).nox (.Name nm p1) env ow3 (.int X) → Vm (cxOf CX0 P w K mg base ["cup", "some", "x", "y", "kind", "runs"] "_law_spot" (defScope s__law_spot) f cdv A0 outer s H E).nox (.BinOp (.BinOp (.Name nm p1) .Add (.Call (.Name "_law_sip" p2) [.Name "cup" p3, .Constant (.int 3) j1 p4] [] p5) p6) .Sub (.Constant (.int 1) j2 p7) pos) env ow3 (fun d ow4 => SameO c ow3 ow4 ∧ CupO ow4 c ∧ ∃ X2 : Int, d = .int X2) := fun {env ow3 nm pos p1 p2 p3 p4 p5 p6 p7 j1 j2 X} i h0 c3 hv => by
    refine vm_op1 op_sub (vm_op2 (P' := fun d ow4 => SameO c ow3 ow4 ∧ CupO ow4 c ∧ ∃ X2 : Int, d = .int X2) op_add hv (vm_DC S hgd (hr.mono (by decide)) rfl (va_cons (ve_var h0 rfl (by walk_at "vis")) (va_cons ve_int va_nil)) c3 ⟨3, rfl, by decide, by decide⟩) ?_) ?_
    · rintro d ow4 ⟨s4, c4, m, r2, e, rfl, _⟩
      exact ⟨_, rd_add, s4, c4, _, rfl⟩
    · rintro d ow4 ⟨s4, c4, X2, rfl⟩
      exact ⟨.int 1, _, ve_int, rd_sub, s4, c4, _, rfl⟩
  have rest : ∀ (B5 : Hp) (ow3 : Ow) (X Y : Int), Ex B B5 → SameO c ow ow3 → CupO ow3 c → Rn (cxOf CX0 P w K mg base ["cup", "some", "x", "y", "kind", "runs"] "_law_spot" (defScope s__law_spot) f cdv A0 outer s H E).nox B5 ((defBody s__law_spot).drop 5) { nx := fun _ H' => Q .non H', rt := Q } [some (.ob (.ref c)), some (.lst (lwk x0 y0 g (n + 1))), some (.int X), some (.int Y), some (.int k), some (.int r)] ow3 := fun B5 ow3 X Y e5 s5 c5 => by
    refine' rn_if (t := decide (k = 1)) (vt_comp (ve_var (d := .int k) (i := 4) rfl rfl (by walk_at "vis")) ve_int co_eqI) (fun _ B6 e6 => ?_) (fun _ B6 e6 => rn_go (fin _ _ _ _ (e5.trans e6) s5 c5))
    refine' rn_setM (i := 3) scSpot.nd rfl (.inl rfl) (sip1 (X := Y) 3 rfl c5 (ve_var (d := .int Y) (i := 3) rfl rfl (by walk_at "vis"))) ?_
    rintro B7 d ow4 e7 ⟨s4, c4, X2, rfl⟩
    exact rn_go (fin _ _ _ _ (e5.trans (e6.trans e7)) (s5.trans s4) c4)
  refine' rn_if (t := decide (k = 0)) (vt_comp (ve_var (d := .int k) (i := 4) rfl rfl (by walk_at "vis")) ve_int co_eqI) (fun _ B6 e6 => ?_) (fun _ B6 e6 => rn_go (rest _ _ _ _ (e4'.trans e6) (s1.trans s2) c2))
  refine' rn_setM (i := 2) scSpot.nd rfl (.inl rfl) (sip1 (X := x1 + r * ((x0 + px g n) - x0)) 2 rfl c2 (ve_var (d := .int (x1 + r * ((x0 + px g n) - x0))) (i := 2) rfl rfl (by walk_at "vis"))) ?_
  rintro B7 d ow4 e7 ⟨s4, c4, X2, rfl⟩
  exact rn_go (rest _ _ _ _ (e4'.trans (e6.trans e7)) (s1.trans (s2.trans s4)) c4)
end
end
section
open Wk TL
theorem ldvd {n a : Nat} {M A : List Nat} (p : Per.Pat n M) (h : Per.Lst n M a A) : a ∣ n := by
  have pa : Per.P (Per.fn n M) a := by rw [← h.eq]; exact Per.fn_P
  have g := pa.gcd (Per.fn_P (n := n) (M := M))
  have gp : 0 < Nat.gcd a n := Nat.gcd_pos_of_pos_left _ h.pat.pos
  have z := h.min _ gp g
  have y := Nat.le_of_dvd h.pat.pos (Nat.gcd_dvd_left a n)
  have e : Nat.gcd a n = a := by omega
  rw [← e]
  exact Nat.gcd_dvd_right a n
theorem nt_ex (ns : List Nat) (a : Nat) (A : List Nat) (low : Nat) : ∃ o, NextT ns a A low o := by
  by_cases h : ∃ y, low ≤ y ∧ inT ns a A y = true
  · obtain ⟨y, hy⟩ := h
    have key : ∀ d : Nat, (∃ z, low ≤ z ∧ z ≤ d ∧ inT ns a A z = true) → ∃ o, NextT ns a A low o := by
      intro d
      induction d with
      | zero =>
        rintro ⟨z, z1, z2, z3⟩
        exact ⟨some z, z1, z3, fun y _ _ => by omega⟩
      | succ d ih =>
        rintro ⟨z, z1, z2, z3⟩
        by_cases q : ∃ z, low ≤ z ∧ z ≤ d ∧ inT ns a A z = true
        · exact ih q
        · exact ⟨some z, z1, z3, fun y y1 y2 => by
            by_cases r : y ≤ d
            · exact absurd ⟨y, y1, r, y2⟩ q
            · omega⟩
    exact key y ⟨y, hy.1, Nat.le_refl _, hy.2⟩
  · exact ⟨none, fun y hy => by
      cases hq : inT ns a A y with
      | false => rfl
      | true => exact absurd ⟨y, hy, hq⟩ h⟩
/-- the closed walk's marks at so many steps as the period goes into -/
theorem on_mod {g : Nat → Nat} {n : Nat} (per : ∀ t, g (t + n) = g t) (zx : px g n = 0) (zy : py g n = 0) (t : Nat) : px g (t % n) = px g t ∧ py g (t % n) = py g t := by
  have a1 := px_div per t
  have a2 := py_div per t
  rw [zx, Int.mul_zero, Int.add_zero] at a1
  rw [zy, Int.mul_zero, Int.add_zero] at a2
  exact ⟨a1.symm, a2.symm⟩
theorem due_facts {g : Nat → Nat} {p n : Nat} (hp : IsPer g p) (dv : p ∣ n) (n0 : 0 < n) {u v : Int} {ns : List Nat} {b : Nat} {A : List Nat} (T : TSpec g p u v ns b A) :
    ∃ sz Mh, dueOf g n p u v ns = .tup [natD sz, .lst (Mh.map natD), .lst (ns.map natD)] ∧ 1 ≤ sz ∧ sz ≤ n ∧ (A = [] ↔ Mh = []) ∧ (Mh ≠ [] → ns = [] ∧ b ∣ sz ∧ ∀ t, inT ns b A t = decide (t % sz ∈ Mh)) ∧ (∀ t, inT ns b A t = decide (px g t = u ∧ py g t = v)) ∧ Per.Asc ns ∧ Per.Pat b A ∧ b ≤ n ∧ ns.length ≤ n ∧ Mh.length ≤ n := by
  obtain ⟨asc, sp⟩ := T
  have pn := Nat.le_of_dvd n0 dv
  have p0 := hp.pos
  rcases sp with ⟨zx, zy, rfl, L⟩ | ⟨no, rfl, rfl, hm⟩
  · obtain ⟨zx2, zy2⟩ := (drift_zero hp dv n0).mpr ⟨zx, zy⟩
    have pat := pat_on p0 u v (f := g)
    have bp := ldvd pat L
    have bl := Nat.le_of_dvd p0 bp
    have on : ∀ t, inT [] b A t = decide (px g t = u ∧ py g t = v) := fun t => by
      unfold inT
      rw [show decide (t ∈ ([] : List Nat)) = false from decide_eq_false (fun z => nomatch z), congrFun L.eq t]
      obtain ⟨o1, o2⟩ := on_mod hp.per zx zy t
      unfold Per.fn
      rw [Bool.bne_false]
      refine decide_eq_decide.mpr ?_
      rw [List.mem_filter, List.mem_range, o1, o2, decide_eq_true_eq]
      exact ⟨fun q => q.2, fun q => ⟨Nat.mod_lt _ p0, q⟩⟩
    have mh : ∀ t, inT [] b A t = decide (t % n ∈ (List.range n).filter fun i => decide (px g i = u ∧ py g i = v)) := fun t => by
      rw [on t]
      obtain ⟨o1, o2⟩ := on_mod (per_dvd hp dv) zx2 zy2 t
      refine decide_eq_decide.mpr ?_
      rw [List.mem_filter, List.mem_range, o1, o2, decide_eq_true_eq]
      exact ⟨fun q => ⟨Nat.mod_lt _ n0, q⟩, fun q => q.2⟩
    refine ⟨n, (List.range n).filter fun i => decide (px g i = u ∧ py g i = v), by unfold dueOf; rw [if_pos ⟨zx, zy⟩]; rfl, n0, Nat.le_refl _, ?_, fun _ => ⟨rfl, Nat.dvd_trans bp dv, mh⟩, on, asc, L.pat, by omega, Nat.zero_le _, by have z := List.length_filter_le (fun i => decide (px g i = u ∧ py g i = v)) (List.range n); rw [List.length_range] at z; exact z⟩
    constructor
    · intro e
      refine List.eq_nil_iff_forall_not_mem.mpr fun x hx => ?_
      have z := mh x
      have xn := List.mem_range.mp (List.mem_filter.mp hx).1
      rw [Nat.mod_eq_of_lt xn, decide_eq_true hx, e] at z
      cases z
    · intro e
      refine List.eq_nil_iff_forall_not_mem.mpr fun x hx => ?_
      have z := mh x
      rw [e, show decide (x % n ∈ ([] : List Nat)) = false from decide_eq_false (fun z => nomatch z)] at z
      unfold inT at z
      rw [show decide (x ∈ ([] : List Nat)) = false from decide_eq_false (fun z => nomatch z), Bool.bne_false] at z
      have y : Per.fn b A x = true := Per.fn_mem.mpr (by rw [Nat.mod_eq_of_lt (L.pat.lt x hx)]; exact hx)
      rw [y] at z
      cases z
  · refine ⟨1, [], by unfold dueOf; rw [if_neg no]; rfl, Nat.le_refl _, n0, Iff.rfl, fun z => absurd rfl z, fun t => ?_, asc, ⟨by decide, List.Pairwise.nil, fun x hx => nomatch hx⟩, n0, ?_, Nat.zero_le _⟩
    rotate_left
    · have q := (due_perm n0 (per_dvd hp dv) (fun z => no ((drift_zero hp dv n0).mp z)) asc hm).length_eq
      rw [List.length_map, List.length_map] at q
      rw [q]
      exact whenL_len g n u v n
    unfold inT Per.fn
    rw [show decide (t % 1 ∈ ([] : List Nat)) = false from decide_eq_false (fun z => nomatch z), Bool.false_bne]
    exact decide_eq_decide.mpr (hm t)
theorem first_some {ns : List Nat} {b : Nat} {A : List Nat} (pat : Per.Pat b A) (hn : A ≠ [] → ns = []) (t : (!A.isEmpty || !ns.isEmpty) = true) {o : Option Nat} (h : NextT ns b A 0 o) : ∃ y, o = some y ∧ inT ns b A y = true := by
  match o, h with
  | some y, h => exact ⟨y, rfl, h.2.1⟩
  | none, h =>
    exfalso
    have h2 : ∀ y, inT ns b A y = false := fun y => h y (Nat.zero_le _)
    match A, ns, hn, t with
    | a :: A', ns, hn, _ =>
      obtain rfl := hn (by simp)
      have z := h2 a
      unfold inT at z
      rw [show decide (a ∈ ([] : List Nat)) = false from decide_eq_false (fun z => nomatch z), Bool.bne_false] at z
      have y : Per.fn b (a :: A') a = true := Per.fn_mem.mpr (by rw [Nat.mod_eq_of_lt (pat.lt a (List.mem_cons_self ..))]; exact List.mem_cons_self ..)
      rw [y] at z
      cases z
    | [], m :: ns', _, _ =>
      have z := h2 m
      unfold inT Per.fn at z
      rw [show decide (m % b ∈ ([] : List Nat)) = false from decide_eq_false (fun z => nomatch z), Bool.false_bne, decide_eq_true (List.mem_cons_self ..)] at z
      cases z
    | [], [], _, t => cases t
end
section
theorem toI_tup (a : Nat) (A : List Nat) : (D.tup [natD a, .tup (A.map natD)]).eqOk = true := by
  unfold D.eqOk SeqAt.shaped
  rw [natD_ints]
  have z := depth_ints (A.map toI)
  have y := lay_ints (A.map toI)
  simp only [D.plain, plainL, plainL_ints, D.py, pyL, pyL_ints, PyData.canLay0, PyData.canLayAll0, y, PyData.depth, PyData.depthAll, Bool.true_and, Bool.and_true, decide_eq_true_eq]
  omega
theorem eqv_tup (a b : Nat) (A B : List Nat) : PyData.eqv (D.tup [natD a, .tup (A.map natD)]).py (D.tup [natD b, .tup (B.map natD)]).py = (decide (a = b) && decide (A = B)) := by
  rw [natD_ints, natD_ints]
  simp only [D.py, pyL, pyL_ints, PyData.eqv, PyData.eqvAll, eqvAll_ints, Bool.and_true]
  have e1 : ((a : Int) == (b : Int)) = decide (a = b) := by
    by_cases h : a = b
    · simp [h]
    · have : ¬ (a : Int) = (b : Int) := by omega
      simp [h, this]
  rw [e1, decide_eq_decide.mpr ints_inj]
abbrev sEq : Stmt := s_Times___eq__
theorem scEq : FnScope ["self", "other"] ["self", "other"] (defScope sEq) := ⟨rfl, rfl, rfl, by decide +kernel, rfl, by decide +kernel, by decide +kernel⟩
def REq (C : Addr) (ds : List D) (d : D) : Prop := ∃ (ns : List Nat) (a : Nat) (A : List Nat), (∃ v, ds = [.ins C (tmD ns a A), v] ∧ v.kind.isSome = true ∧ d = .bl false) ∨ (∃ (ms : List Nat) (b : Nat) (B : List Nat), ds = [.ins C (tmD ns a A), .ins C (tmD ms b B)] ∧ d = .bl (decide (a = b ∧ A = B ∧ ns = ms)))
/-- what isinstance says of the class -/
structure IsC (K : PySem.W.Frag) (C : Addr) : Prop where
  own : PySem.W.kitOne K (.ref C) (.ref C) = some true
  no : ∀ t ∈ ["NoneType", "bool", "int", "str", "list", "tuple", "dict"], PySem.W.kitOne K (.type t) (.ref C) = some false
theorem kind_mem : ∀ {v : D} {t : String}, v.kind = some t → t ∈ ["NoneType", "bool", "int", "str", "list", "tuple", "dict"] := by
  intro v t h
  cases v <;> simp [D.kind] at h <;> subst h <;> decide
section
variable {γ : Gds} {P : Program} {w : World} {K : PySem.W.Frag} {mg : Str → Option Value} {base : Heap}
theorem ok_eq {f C : Addr} {fd : FuncData} (Fn : Fun K "__eq__" "Times.__eq__" sEq f fd) (c : ClsK K C) (n1 : NoAttr K C "_numbers") (n2 : NoAttr K C "_pattern") (T : IsC K C) (gl : mg "Times" = some (.ref C)) (mI : mg "isinstance" = none) : FnG γ P w K mg base CX0 1 f fd ["self", "other"] (spR K (REq C)) := by
  refine okR Fn scEq (fun ds d ⟨ns, a, A, h⟩ => by rcases h with ⟨v, e, _⟩ | ⟨ms, b, B, e, _⟩ <;> rw [e] <;> rfl) fun cdv A0 outer s H B ow ds d Q E hgd hrm hR kQ => ?_
  obtain ⟨ns, a, A, h⟩ := hR
  have hu64 : A0.units + 3 + 64 < cLine := by
    have z : A0.units + 3 + 16 * 0 + 200 < cLine := hrm.un
    omega
  rcases h with ⟨v, rfl, hk, rfl⟩ | ⟨ms, b, B2, rfl, rfl⟩
  · obtain ⟨t, ht⟩ := Option.isSome_iff_exists.mp hk
    refine rn_ret (ve_is (ve_and (t := false) (u := false) (ve_bi (va_cons (ve_var (d := v) (i := 1) rfl rfl (by walk_at "vis")) (va_cons (ve_gobj rfl gl) va_nil)) rfl mI boot_isinstance (fo_isC (.kind ht) (T.no t (kind_mem ht)))) (fun z => nomatch z)) (by rfl)) kQ
  · have e : decide (a = b ∧ A = B2 ∧ ns = ms) = (true && ((decide (a = b) && decide (A = B2)) && decide (ns.map toI = ms.map toI))) := by
      have e3 : decide (ns.map toI = ms.map toI) = decide (ns = ms) := decide_eq_decide.mpr ints_inj
      rw [e3]
      by_cases h1 : a = b <;> by_cases h2 : A = B2 <;> by_cases h3 : ns = ms <;> simp [h1, h2, h3]
    rw [e] at kQ
    refine rn_ret (ve_and (ve_bi (va_cons (ve_var (d := .ins C (tmD ms b B2)) (i := 1) rfl rfl (by walk_at "vis")) (va_cons (ve_gobj rfl gl) va_nil)) rfl mI boot_isinstance (fo_isC (.ins c) T.own)) (fun _ => ve_and ?h1 (fun _ => ve_and1 ?h2))) kQ
    case h1 => exact ve_comp (ve_pat c.cl n2 (ve_var (i := 0) rfl rfl (by walk_at "vis"))) (ve_pat c.cl n2 (ve_var (i := 1) rfl rfl (by walk_at "vis"))) (co_to (co_eqD hu64 (toI_tup _ _) (toI_tup _ _)) (by rw [eqv_tup]))
    case h2 => exact ve_comp (ve_is (ve_num c.cl n1 (ve_var (i := 0) rfl rfl (by walk_at "vis"))) (by rw [natD_ints])) (ve_is (ve_num c.cl n1 (ve_var (i := 1) rfl rfl (by walk_at "vis"))) (by rw [natD_ints])) (co_eqIT hu64)
abbrev sBoo : Stmt := s_Times___bool__
theorem scBoo : FnScope ["self"] ["self"] (defScope sBoo) := ⟨rfl, rfl, rfl, by decide +kernel, rfl, by decide +kernel, by decide +kernel⟩
def RBoo (C : Addr) (ds : List D) (d : D) : Prop := ∃ (ns : List Nat) (a : Nat) (A : List Nat), ds = [.ins C (tmD ns a A)] ∧ d = .bl (!A.isEmpty || !ns.isEmpty)
theorem ok_bool {f C : Addr} {fd : FuncData} (Fn : Fun K "__bool__" "Times.__bool__" sBoo f fd) (c : Cls K C) (n1 : NoAttr K C "_numbers") (n2 : NoAttr K C "_pattern") (mB : mg "bool" = none) : FnG γ P w K mg base CX0 1 f fd ["self"] (spR K (RBoo C)) := by
  refine okR Fn scBoo (fun ds d ⟨ns, a, A, e, _⟩ => by rw [e]; rfl) fun cdv A0 outer s H B ow ds d Q E hgd hrm hR kQ => ?_
  obtain ⟨ns, a, A, rfl, rfl⟩ := hR
  have e1 : (A.map natD).isEmpty = A.isEmpty := by cases A <;> rfl
  have e2 : (ns.map natD).isEmpty = ns.isEmpty := by cases ns <;> rfl
  rw [← e1, ← e2] at kQ
  refine rn_ret (ve_or (ve_ty (id := "bool") (va_cons (ve_sub (ve_pat c n2 (ve_var (i := 0) rfl rfl (by walk_at "vis"))) ve_int (fun _ _ => rfl) (xo_tup (d := .tup (A.map natD)) rfl)) va_nil) rfl mB boot_bool to_boolT) (fun _ => ve_or1 (ve_ty (id := "bool") (va_cons (ve_num c n1 (ve_var (i := 0) rfl rfl (by walk_at "vis"))) va_nil) rfl mB boot_bool to_boolT))) kQ
end
end
section
open Wk TL
theorem any_int' (i : Int) : ∀ l : List Int, ((l.map V.int).any fun y => L2.eqV y (.int i)) = decide (i ∈ l)
  | [] => rfl
  | j :: l => by
    rw [List.map_cons, List.any_cons, any_int' i l]
    show ((j == i) || decide (i ∈ l)) = decide (i ∈ j :: l)
    by_cases h : j = i
    · subst h
      simp
    · have h2 : ¬ i = j := fun z => h z.symm
      simp [h, h2]
theorem flat_int' : ∀ l : List Int, (l.map V.int).all L2.flatV = true
  | [] => rfl
  | j :: l => by
    rw [List.map_cons, List.all_cons, flat_int' l]
    rfl
theorem co_inL' {X : Cx} {ow : Ow} {b : Expr} {i : Int} {l : List Int} (hm : behindInMarks .In b = false) : CmpOk X ow .In b (.int i) (.lst (l.map D.int)) (.bl (decide (i ∈ l))) := ⟨_, op_in_seq, hm, .mk fun F H x y Q w r1 r2 k => by
  cases r1
  cases r2 with
  | lst g s1 =>
    have e := Rps.intsV s1
    subst e
    refine ⟨_, _, rfl, .inl (SqL.of (w.ex _ _ g)), rfl, flat_int' l, ?_⟩
    have z : L2.inV (.int i) (l.map V.int) = decide (i ∈ l) := any_int' i l
    show Q (.bl (if false = true then !L2.inV (.int i) (l.map V.int) else L2.inV (.int i) (l.map V.int))) H
    rw [if_neg Bool.false_ne_true, z]
    exact k.here w (.bl _)⟩
theorem co_neIT' {X : Cx} {ow : Ow} {b : Expr} {l m : List Int} (hu : X.A.units + 64 < cLine) : CmpOk X ow .NotEq b (.tup (l.map D.int)) (.tup (m.map D.int)) (.bl (!decide (l = m))) := co_to (co_neD hu (eqOk_intsT l) (eqOk_intsT m)) (by
  simp only [D.py, pyL_ints, PyData.eqv, eqvAll_ints])
theorem co_neIL' {X : Cx} {ow : Ow} {b : Expr} {l m : List Int} (hu : X.A.units + 64 < cLine) : CmpOk X ow .NotEq b (.lst (l.map D.int)) (.lst (m.map D.int)) (.bl (!decide (l = m))) := co_to (co_neD hu (eqOk_ints l) (eqOk_ints m)) (by
  simp only [D.py, pyL_ints, PyData.eqv, eqvAll_ints])
theorem nil_toI {M : List Nat} : decide (M.map toI = []) = decide (M = []) := decide_eq_decide.mpr List.map_eq_nil_iff
def tstD (p : Nat → Bool) : D → Bool
  | .int i => p i.toNat
  | _ => false
theorem rng_nil {p : Nat → Bool} (h : ∀ t, p t = false) (n : Nat) : ((rangeD 0 n).filter (tstD p)).map (fun d => d) = [] := by
  rw [List.map_id', List.filter_eq_nil_iff]
  intro d hd
  obtain ⟨i, hi⟩ := List.getElem?_of_mem hd
  obtain ⟨_, rfl⟩ := rangeD_get hi
  show ¬ p _ = true
  rw [h]
  exact Bool.false_ne_true
theorem rng_mem {n : Nat} {d : D} (h : d ∈ rangeD 0 n) : ∃ t : Nat, t < n ∧ d = .int (t : Nat) := by
  obtain ⟨j, hj⟩ := List.getElem?_of_mem h
  obtain ⟨h1, h2⟩ := rangeD_get hj
  exact ⟨j, by omega, by rw [h2]; congr 1; omega⟩
theorem ne_bl (a b : Bool) : (!PyData.eqv (D.bl a).py (D.bl b).py) = (a != b) := by cases a <;> cases b <;> rfl
theorem vw_and' {X : Cx} {env : List (Option D)} {ow : Ow} {a b : Expr} {es : List Expr} {pos : Pos} {t u r : Bool} (h : Vt X a env ow t) (h2 : t = true → Vw X (.BoolOp .And (b :: es) pos) env ow u) (pw : ∃ tt, PW X (.BoolOp .And (b :: es) pos) tt) (e : (t && u) = r) : Vw X (.BoolOp .And (a :: b :: es) pos) env ow r := e ▸ vw_and h h2 pw
theorem scRt14 : FnScope ["cup", "turn", "orders", "begin", "side", "mine", "some", "again", "spot", "size", "marks_here", "due", "seen", "wrong", "at"] ["cup"] (defScope s__law_right) := ⟨rfl, rfl, rfl, by decide +kernel, rfl, by decide +kernel, by decide +kernel⟩
/-- what the law's turn asks of the text -/
structure Q14 (P : Program) (w : World) (K : PySem.W.Frag) (mg : Str → Option Value) (base : Heap) (C Ct : Addr) : Prop where
  cl : Cls K C
  ct : Cls K Ct
  ctk : ClsK K Ct
  gl : mg "Walker" = some (.ref C)
  row : Df gd0 P w K mg base 2 "_law_row" ["cup", "most", "longest"] (spC K GLRow RLRow)
  start : Df gd0 P w K mg base 3 "_law_start" ["cup"] (spC K G00 RLStart)
  pick : Df gd0 P w K mg base 2 "_law_pick" ["cup", "things"] (spC K GPick RPick)
  some_ : Df gd0 P w K mg base 3 "_law_some" ["orders", "begin", "side"] (spR K RLSome)
  spot : Df gd0 P w K mg base 3 "_law_spot" ["cup", "some"] (spC K GSpot RSpot)
  due : Df gd0 P w K mg base 2 "_law_due" ["some", "spot"] (spR K RDue)
  mk3 : ∃ f, Mk K C f ∧ InS gd0 P w K mg base 4 f [] (spI K C fun ds kd fl => ds.length = 3 ∧ RWIni ds fl)
  times : Mk1 gd0 P w K mg base C 7 "times" "square" (RTimes C Ct)
  at_ : Mk1 gd0 P w K mg base C 5 "at" "time" (RAt C)
  period : Pf gd0 P w K mg base Ct 1 "period" (RSelf Ct fun ns a A => natD a)
  numbers : Pf gd0 P w K mg base Ct 1 "numbers" (RSelf Ct fun ns a A => .tup (ns.map natD))
  endless : Pf gd0 P w K mg base Ct 1 "endless" (RSelf Ct fun ns a A => .bl (decide (A ≠ [])))
  many : Pf gd0 P w K mg base Ct 1 "many" (RSelf Ct fun ns a A => if A = [] then natD ns.length else .non)
  first : Pf gd0 P w K mg base Ct 4 "first" (RFst Ct)
  con : ∃ f fd, FnG gd0 P w K mg base CX0 3 f fd ["self", "number"] (spR K (RCon Ct)) ∧ Binds K fd ["self", "number"] [] ∧ PySem.W.findIn K (.ref Ct) "__contains__" = some (some (.ref f)) ∧ PySem.W.isFn K (.ref f) = true
  boo : ∃ f fd, FnG gd0 P w K mg base CX0 1 f fd ["self"] (spR K (RBoo Ct)) ∧ Binds K fd ["self"] [] ∧ PySem.W.findIn K (.ref Ct) "__bool__" = some (some (.ref f)) ∧ PySem.W.isFn K (.ref f) = true
  eq : ∃ f fd, FnG gd0 P w K mg base CX0 1 f fd ["self", "other"] (spR K (REq Ct)) ∧ Binds K fd ["self", "other"] [] ∧ NeOf K Ct f
  ins : PySem.W.notFirst K Ct (.ref Ct) = true
  fr : Free mg
  repr : mg "repr" = none
def RTr14 (_ : List D) (d : D) : Prop := d = .bl true
def wayL4 : List D := [wD 0, wD 1, wD 2, wD 3]
theorem wayL4_in {d : D} (h : d ∈ wayL4) : ∃ a, a < 4 ∧ d = wD a := by
  unfold wayL4 at h
  simp only [List.mem_cons, List.not_mem_nil, or_false] at h
  rcases h with rfl | rfl | rfl | rfl
  · exact ⟨0, by decide, rfl⟩
  · exact ⟨1, by decide, rfl⟩
  · exact ⟨2, by decide, rfl⟩
  · exact ⟨3, by decide, rfl⟩
theorem bools_ok (a b : Bool) : (D.lst [.bl a, .bl b]).textOk = true := by cases a <;> cases b <;> decide
section
variable {P : Program} {w : World} {K : PySem.W.Frag} {mg : Str → Option Value} {base : Heap} {f C Ct : Addr} {fd : FuncData}
theorem co_neSU {X : Cx} {ow : Ow} {b : Expr} {i : Str} : CmpOk X ow .NotEq b (.str i) (.str i) (.bl false) := co_to co_neS (by simp)
theorem ok_right14 (Fn : Fun K "_law_right" "_law_right" s__law_right f fd) (T : Q14 P w K mg base C Ct) : FnG gd0 P w K mg base CX0 8 f fd ["cup"] (spC K G00 RTr14) := by
  refine okC Fn scRt14 (fun ds e => by rw [e]; rfl) fun cdv A0 outer s H B ow c ds Q E hgd hr9 hG hc kQ => ?_
  obtain rfl : ds = [] := hG
  have hr : ∀ k, k ≤ 7 → Room k (A0.deeper (envOfC "_law_right" (defScope s__law_right) s.heap.objs.size f cdv)) := fun k hk => hr9.mono hk
  have hu66 : A0.units + 3 + 66 < cLine := by
    have z : A0.units + 3 + 16 * 7 + 200 < cLine := hr9.un
    omega
  have hu64 : A0.units + 3 + 64 < cLine := by omega
  obtain ⟨fI, MkI, InI⟩ := T.mk3
  obtain ⟨fC, fdC, FC, bC, sC, iC⟩ := T.con
  obtain ⟨fB, fdB, FB, bB, sB, iB⟩ := T.boo
  obtain ⟨fE, fdE, FE, bE, NE⟩ := T.eq
  refine' rn_forRM (g := gName 1) (f := fun d env => env.set 1 (some d)) (P := fun d ow2 => d = .int 4 ∧ ow2 = ow)
    (fun n i env' ow' => n = 4 ∧ SameO c ow ow' ∧ CupO ow' c ∧ ∃ z1 z2 z3 z4 z5 z6 z7 z8 z9 z10 z11 z12 z13 z14 : Option D, env' = [some (.ob (.ref c)), z1, z2, z3, z4, z5, z6, z7, z8, z9, z10, z11, z12, z13, z14])
    PassesOwn.never rfl ?hgR T.fr.range ?hi ?hP ?hgt (fun ow d => gd_name 1) ?hs ?hd ?hst
  case hgR => rfl
  case hgt => exact pg_name (i := 1) scRt14.nd rfl (.inl rfl)
  case hst => rfl
  case hi => exact vm_of ve_int ⟨rfl, rfl⟩
  case hP =>
    rintro d ow2 ⟨rfl, rfl⟩
    exact ⟨4, rfl, by decide, rfl, .refl, hc, _, _, _, _, _, _, _, _, _, _, _, _, _, _, rfl⟩
  case hd =>
    rintro n B2 env' ow' e2 ⟨rfl, sub, c2, _⟩
    exact rn_retC (d := .bl true) ve_bl kQ e2 sub c2 rfl
  case hs =>
    rintro n B2 i env' ow' e2 hin ⟨rfl, sub, c2, z1, z2, z3, z4, z5, z6, z7, z8, z9, z10, z11, z12, z13, z14, rfl⟩
    refine' rn_par3M (i := 2) (j := 3) (l := 4) (P1 := fun d ow2 => SameO c ow' ow2 ∧ CupO ow2 c ∧ RLRow [] d) (P2 := fun d1 d2 ow2 => RLRow [] d1 ∧ SameO c ow' ow2 ∧ CupO ow2 c ∧ RLStart [] d2) (P3 := fun d1 d2 d3 ow2 => RLRow [] d1 ∧ RLStart [] d2 ∧ SameO c ow' ow2 ∧ CupO ow2 c ∧ ∃ a, a < 4 ∧ d3 = wD a) rfl scRt14.nd rfl rfl rfl (by decide) (by decide) (by decide) rfl rfl rfl ?a1 ?a2 ?a3 ?a4 ?a5
    case a5 => rfl
    case a1 => exact Vm.imp (vm_DC T.row hgd (hr 2 (by decide)) rfl (va_cons (ve_var (i := 0) rfl rfl (by walk_at "vis")) (va_cons ve_int (va_cons ve_int va_nil))) c2 ⟨6, 5, rfl, by decide, by decide, by decide, by decide⟩) fun d ow4 ⟨s4, c4, h4⟩ => ⟨s4, c4, h4⟩
    case a2 =>
      rintro d1 ow2 ⟨s2, c3, h1⟩
      exact Vm.imp (vm_DC T.start hgd (hr 3 (by decide)) rfl (va_cons (ve_var (i := 0) rfl rfl (by walk_at "vis")) va_nil) c3 rfl) fun d ow4 ⟨s4, c4, h4⟩ => ⟨h1, s2.trans s4, c4, h4⟩
    case a3 =>
      rintro d1 d2 ow2 ⟨h1, s2, c3, h2⟩
      refine Vm.imp (vm_DC T.pick hgd (hr 2 (by decide)) rfl (va_cons (ve_var (i := 0) rfl rfl (by walk_at "vis")) (va_cons (ve_is (ve_lst (va_cons ve_str (va_cons ve_str (va_cons ve_str (va_cons ve_str va_nil)))) (by show 4 ≤ 100000; decide)) (by rfl : _ = D.lst wayL4)) va_nil)) c3 ⟨wayL4, rfl, by decide, by decide⟩) ?_
      rintro d ow4 ⟨s4, c4, L, e, hd⟩
      cases e
      exact ⟨h1, h2, s2.trans s4, c4, wayL4_in hd⟩
    case a4 =>
    rintro B3 d1 d2 d3 ow3 e3 ⟨⟨l, rfl, rl⟩, ⟨x, y, rfl, hx, hy⟩, s3, c3, a, ha, rfl⟩
    obtain ⟨p, hp, ple⟩ := rl.per ha
    have ok : WkOk l a p := ⟨rl, ha, hp⟩
    obtain ⟨n, hn⟩ : ∃ n, n = 4 * stp l := ⟨_, rfl⟩
    have n0 : 0 < n := by have := rl.pos; omega
    have n288 : n ≤ 288 := by have := rl.stp; omega
    have per : ∀ t, way l a (t + n) = way l a t := by rw [hn]; exact way_per rl.pos (fins_four l ha)
    have dv : p ∣ n := hp.dvd per
    refine' rn_set (i := 5) (d := .ins C (wkD l x y a p)) scRt14.nd rfl (.inl rfl) ?b1 fun B4 e4 => ?_
    case b1 => exact ve_mk MkI InI hgd (hr 5 (by decide)) rfl T.gl (va_cons (ve_var (d := .str (tx (rowC l))) (i := 2) rfl rfl (by walk_at "vis")) (va_cons (ve_var (d := sq x y) (i := 3) rfl rfl (by walk_at "vis")) (va_cons (ve_var (d := wD a) (i := 4) rfl rfl (by walk_at "vis")) va_nil))) vk_nil rfl (by show 3 ≤ 100000; decide) ⟨rfl, l, x, y, a, p, rfl, ok, hx, hy, rfl⟩
    refine' rn_set (i := 6) (d := .lst (lwk x y (way l a) (n + 1))) scRt14.nd rfl (.inr rfl) ?b2 fun B5 e5 => ?_
    case b2 => exact ve_D T.some_ hgd (hr 3 (by decide)) rfl (va_cons (ve_var (d := .str (tx (rowC l))) (i := 2) rfl rfl (by walk_at "vis")) (va_cons (ve_var (d := sq x y) (i := 3) rfl rfl (by walk_at "vis")) (va_cons (ve_var (d := wD a) (i := 4) rfl rfl (by walk_at "vis")) va_nil))) ⟨l, x, y, a, rfl, rl, ha, by rw [hn]⟩
    refine' rn_forRM (g := gName 7) (f := fun d env => env.set 7 (some d)) (P := fun d ow2 => d = .int 6 ∧ ow2 = ow3)
      (fun n2 i2 env2 ow2 => n2 = 6 ∧ SameO c ow ow2 ∧ CupO ow2 c ∧ ∃ y7 y8 y9 y10 y11 y12 y13 y14 : Option D, env2 = [some (.ob (.ref c)), some (.int (i : Nat)), some (.str (tx (rowC l))), some (sq x y), some (wD a), some (.ins C (wkD l x y a p)), some (.lst (lwk x y (way l a) (n + 1))), y7, y8, y9, y10, y11, y12, y13, y14])
      PassesOwn.never rfl ?ggR T.fr.range ?gi ?gP ?ggt (fun ow d => gd_name 7) ?gs ?gd ?gst
    case ggR => rfl
    case ggt => exact pg_name (i := 7) scRt14.nd rfl (.inl rfl)
    case gst => rfl
    case gi => exact vm_of ve_int ⟨rfl, rfl⟩
    case gP =>
      rintro d ow2 ⟨rfl, rfl⟩
      exact ⟨6, rfl, by decide, rfl, sub.trans s3, c3, _, _, _, _, _, _, _, _, rfl⟩
    case gd =>
      rintro n2 B9 env2 ow2 e9 ⟨rfl, s5, c5, y7, y8, y9, y10, y11, y12, y13, y14, rfl⟩
      exact rn_nextW ⟨rfl, s5, c5, _, _, _, _, _, _, _, _, _, _, _, _, _, _, rfl⟩ (e3.trans (e4.trans (e5.trans e9)))
    case gs =>
      rintro n2 B9 i2 env2 ow2 e9 hin2 ⟨rfl, s5, c5, y7, y8, y9, y10, y11, y12, y13, y14, rfl⟩
      refine' rn_setM (i := 8) (P := fun d ow6 => SameO c ow2 ow6 ∧ CupO ow6 c ∧ RSpot [] d) scRt14.nd rfl (.inr rfl) ?h1 ?h2
      case h1 => exact Vm.imp (vm_DC T.spot hgd (hr 3 (by decide)) rfl (va_cons (ve_var (i := 0) rfl rfl (by walk_at "vis")) (va_cons (ve_var (d := .lst (lwk x y (way l a) (n + 1))) (i := 6) rfl rfl (by walk_at "vis")) va_nil)) c5 ⟨x, y, way l a, n, rfl, by omega, hx, hy⟩) fun d ow6 ⟨s6, c6, h6⟩ => ⟨s6, c6, h6⟩
      case h2 =>
      rintro B10 d ow6 e10 ⟨s6, c6, u, v, rfl, hu, hv⟩
      obtain ⟨ns, b, A, TS⟩ := tspec_ex hp (u - x) (v - y)
      obtain ⟨sz, Mh, eD, sz1, szn, amp, clo, onn, asc, pat, bn, nln, mln⟩ := due_facts hp dv n0 TS
      refine' rn_asg (g := gTup K 3 (gCons (gName 9) (gCons (gName 10) (gCons (gName 11) gNil)))) (d := .tup [natD sz, .lst (Mh.map natD), .lst (ns.map natD)]) ?pg ?pv (gd_three 9 10 11) fun B11 e11 => ?_
      case pg => exact pg_tup rfl (pgs_cons (pg_name (i := 9) scRt14.nd rfl (.inr rfl)) (pgs_cons (pg_name (i := 10) scRt14.nd rfl (.inr rfl)) (pgs_cons (pg_name (i := 11) scRt14.nd rfl (.inl rfl)) pgs_nil)))
      case pv => exact ve_D T.due hgd (hr 2 (by decide)) rfl (va_cons (ve_var (d := .lst (lwk x y (way l a) (n + 1))) (i := 6) rfl rfl (by walk_at "vis")) (va_cons (ve_var (d := sq u v) (i := 8) rfl rfl (by walk_at "vis")) va_nil)) ⟨x, y, way l a, n, p, u, v, ns, b, A, rfl, hp, dv, n0, by omega, TS, eD.symm⟩
      refine' rn_set (i := 12) (d := .ins Ct (tmD ns b A)) scRt14.nd rfl (.inr rfl) ?sv fun B12 e12 => ?_
      case sv => exact ve_M1 T.cl T.times hgd (hr 7 (by decide)) (ve_var (d := .ins C (wkD l x y a p)) (i := 5) rfl rfl (by walk_at "vis")) rfl (va_cons (ve_var (d := sq u v) (i := 8) rfl rfl (by walk_at "vis")) va_nil) ⟨l, x, y, a, p, u, v, ns, b, A, rfl, ok, hu, hv, TS, rfl⟩
      have Al : A.length ≤ 100000 := by
        have := asc_len pat
        omega
      have nl : ns.length ≤ 100000 := by omega
      have sv : ∀ {pos : Pos} {env : List (Option D)} {ow7 : Ow}, env[12]? = some (some (.ins Ct (tmD ns b A))) → Ve (cxOf CX0 P w K mg base ["cup", "turn", "orders", "begin", "side", "mine", "some", "again", "spot", "size", "marks_here", "due", "seen", "wrong", "at"] "_law_right" (defScope s__law_right) f cdv A0 outer s H E).nox (.Name "seen" pos) env ow7 (.ins Ct (tmD ns b A)) := fun h => ve_var h rfl (by walk_at "vis")
      have mv : ∀ {pos : Pos} {env : List (Option D)} {ow7 : Ow}, env[10]? = some (some (.lst (Mh.map natD))) → Ve (cxOf CX0 P w K mg base ["cup", "turn", "orders", "begin", "side", "mine", "some", "again", "spot", "size", "marks_here", "due", "seen", "wrong", "at"] "_law_right" (defScope s__law_right) f cdv A0 outer s H E).nox (.Name "marks_here" pos) env ow7 (.lst ((Mh.map toI).map D.int)) := fun h => ve_is (ve_var h rfl (by walk_at "vis")) (by rw [natD_ints])
      have dvv : ∀ {pos : Pos} {env : List (Option D)} {ow7 : Ow}, env[11]? = some (some (.lst (ns.map natD))) → Ve (cxOf CX0 P w K mg base ["cup", "turn", "orders", "begin", "side", "mine", "some", "again", "spot", "size", "marks_here", "due", "seen", "wrong", "at"] "_law_right" (defScope s__law_right) f cdv A0 outer s H E).nox (.Name "due" pos) env ow7 (.lst ((ns.map toI).map D.int)) := fun h => ve_is (ve_var h rfl (by walk_at "vis")) (by rw [natD_ints])
      obtain ⟨bA, hbA⟩ : ∃ bA, bA = decide (A ≠ []) := ⟨_, rfl⟩
      obtain ⟨bN, hbN⟩ : ∃ bN, bN = (!A.isEmpty || !ns.isEmpty) := ⟨_, rfl⟩
      have tN : D.bl (!decide (Mh.map toI = [])) = .bl bA := by
        rw [nil_toI, hbA]
        congr 1
        rw [← decide_not]
        exact decide_eq_decide.mpr (not_congr amp.symm)
      have tM : D.bl (!decide (Mh.map toI ++ ns.map toI = [])) = .bl bN := by
        rw [hbN]
        congr 1
        by_cases hA : A = []
        · rw [amp.mp hA, hA]
          cases ns <;> simp
        · have hM : Mh ≠ [] := fun z => hA (amp.mpr z)
          cases hA2 : A with
          | nil => exact absurd hA2 hA
          | cons a1 A1 =>
            cases hM2 : Mh with
            | nil => exact absurd hM2 hM
            | cons m1 M1 => simp
      have hcat : ((Mh.map toI).map D.int).length + ((ns.map toI).map D.int).length ≤ 100000 := by
        rw [List.length_map, List.length_map, List.length_map, List.length_map]
        omega
      -- endless, and whether there are any
      refine' rn_if (t := false) ?c1 (fun z => nomatch z) fun _ B13 e13 => rn_go ?_
      case c1 => exact vt_comp (ve_bi (va_cons (ve_lst (va_cons (ve_is (ve_P T.ct T.endless hgd (hr 2 (by decide)) (sv rfl) ⟨ns, b, A, rfl, Al, nl, rfl⟩) (by rw [hbA] : _ = D.bl bA)) (va_cons (ve_is (ve_ty (id := "bool") (va_cons (sv rfl) va_nil) rfl T.fr.bool boot_bool (to_boolOwn FB hgd (hr 3 (by decide)) bB sB iB ⟨ns, b, A, rfl, rfl⟩)) (by rw [hbN] : _ = D.bl bN)) va_nil)) (by show 2 ≤ 100000; decide)) va_nil) rfl T.repr boot_repr (fo_repr hgd hu66 (bools_ok bA bN))) (ve_bi (va_cons (ve_lst (va_cons (ve_is (ve_comp (mv rfl) (ve_is (ve_lst va_nil (by show 0 ≤ 100000; decide)) (by rfl : _ = D.lst (([] : List Int).map D.int))) (co_neIL' hu64)) tN) (va_cons (ve_is (ve_comp (ve_is (ve_bin (mv rfl) (dvv rfl) (bo_cat hcat)) (by rw [← List.map_append] : _ = D.lst ((Mh.map toI ++ ns.map toI).map D.int))) (ve_is (ve_lst va_nil (by show 0 ≤ 100000; decide)) (by rfl : _ = D.lst (([] : List Int).map D.int))) (co_neIL' hu64)) tM) va_nil)) (by show 2 ≤ 100000; decide)) va_nil) rfl T.repr boot_repr (fo_repr hgd hu66 (bools_ok bA bN))) co_neSU
      -- an open walk's numbers
      refine' rn_if (t := false) ?d1 (fun z => nomatch z) fun _ B14 e14 => rn_go ?_
      case d1 =>
        refine vt_is (vt_w (vw_and (t := decide (Mh.map toI = [])) (u := false) (vt_comp (mv rfl) (ve_is (ve_lst va_nil (by show 0 ≤ 100000; decide)) (by rfl : _ = D.lst (([] : List Int).map D.int))) (co_eqIL hu64)) (fun h => vw_and1 ?in1) (pw_all_and _ _))) (Bool.and_false _)
        case in1 =>
          rw [nil_toI, decide_eq_true_eq] at h
          have A0_ := amp.mpr h
          refine vt_is (vt_w (vw_or (t := false) (u := false) (vt_is (vt_comp (ve_is (ve_P T.ct T.numbers hgd (hr 2 (by decide)) (sv rfl) ⟨ns, b, A, rfl, Al, nl, rfl⟩) (by show D.tup (ns.map natD) = _; rw [natD_ints] : _ = D.tup ((ns.map toI).map D.int))) (ve_ty (id := "tuple") (va_cons (dvv rfl) va_nil) rfl T.fr.tuple boot_tuple to_tupL) (co_neIT' hu64)) (by simp)) (fun _ => vw_or1 (vt_is (vt_comp (ve_is (ve_P T.ct T.many hgd (hr 2 (by decide)) (sv rfl) ⟨ns, b, A, rfl, Al, nl, rfl⟩) (by show (if A = [] then natD ns.length else D.non) = _; rw [if_pos A0_] : _ = natD ns.length)) (ve_bi (va_cons (dvv rfl) va_nil) rfl T.fr.len boot_len fo_lenL) co_neI) (by simp [toI]))) (pw_all_or _ _))) rfl
      -- a closed walk's remainders
      refine' rn_setLc (i := 13) (j := 14) (ds := rangeD 0 (2 * sz)) (tstD fun t => inT ns b A t != decide (t % sz ∈ Mh)) (fun d => d) rfl scRt14.nd rfl rfl (sw_true rfl rfl rfl (by decide +kernel)) ?vi1 (blkOk_by (N := ["cup", "turn", "orders", "begin", "side", "mine", "some", "again", "spot", "size", "marks_here", "due", "seen", "wrong", "at"]) (sc := defScope s__law_right) (by decide +kernel)) (by rw [rangeD_len]; omega) (fun _ _ _ _ _ => pg_name (i := 14) scRt14.nd rfl (.inl rfl)) ?ht1 (fun d ow7 _ _ _ s0 H0 C0 cl fp => ve_var (i := 14) rfl rfl (by walk_at "vis")) fun B15 e15 => ?_
      case vi1 => exact vi_range1 (n := ((2 * sz : Nat) : Int)) rfl T.fr.range (ve_is (ve_bin ve_int (ve_var (d := natD sz) (i := 9) rfl rfl (by walk_at "vis")) (bo_mulL (by decide))) (by show D.int (2 * (sz : Int)) = _; congr 1)) (by omega)
      case ht1 =>
        intro d ow7 hd _ s0 H0 C0 cl fp
        obtain ⟨t, tn, rfl⟩ := rng_mem hd
        refine vts_one (vt_is (vt_comp (ve_comp (ve_var (d := .int (t : Nat)) (i := 14) rfl rfl (by walk_at "vis")) (ve_var (d := .ins Ct (tmD ns b A)) (i := 12) rfl rfl (by walk_at "vis")) (co_inOwn rfl FC hgd (hr 3 (by decide)) bC sC iC ⟨ns, b, A, .int (t : Nat), rfl, rfl, asc, pat, rfl⟩)) (ve_comp (ve_bin (ve_var (d := .int (t : Nat)) (i := 14) rfl rfl (by walk_at "vis")) (ve_var (d := natD sz) (i := 9) rfl rfl (by walk_at "vis")) (bo_mod (by omega))) (ve_is (ve_var (d := .lst (Mh.map natD)) (i := 10) rfl rfl (by walk_at "vis")) (by rw [natD_ints] : _ = D.lst ((Mh.map toI).map D.int))) (co_inL' rfl)) (co_neD hu64 rfl rfl)) ?_)
        rw [ne_bl]
        show ((decide (0 ≤ (t : Int)) && inT ns b A (t : Int).toNat) != decide ((t : Int) % (sz : Int) ∈ Mh.map toI)) = (inT ns b A (t : Int).toNat != decide ((t : Int).toNat % sz ∈ Mh))
        rw [Int.toNat_natCast, decide_eq_true (Int.natCast_nonneg t), Bool.true_and, ← Int.natCast_emod, decide_eq_decide.mpr mem_toI]
      have wrong1 : Mh ≠ [] → ((rangeD 0 (2 * sz)).filter (tstD fun t => inT ns b A t != decide (t % sz ∈ Mh))).map (fun d => d) = [] := fun h => rng_nil (fun t => by rw [(clo h).2.2 t]; simp) _
      refine' rn_if (t := false) ?f1 (fun z => nomatch z) fun _ B16 e16 => rn_go ?_
      case f1 =>
        refine vt_is (vt_w (vw_and (t := !decide (Mh.map toI = [])) (u := false) (vt_comp (mv rfl) (ve_is (ve_lst va_nil (by show 0 ≤ 100000; decide)) (by rfl : _ = D.lst (([] : List Int).map D.int))) (co_neIL' hu64)) (fun h => vw_and1 ?in2) (pw_all_and _ _))) (Bool.and_false _)
        case in2 =>
          rw [nil_toI, ← decide_not, decide_eq_true_eq] at h
          refine vt_is (vt_comp (ve_is (ve_var (i := 13) rfl rfl (by walk_at "vis")) (by rw [wrong1 h]; rfl : _ = D.lst (([] : List Int).map D.int))) (ve_is (ve_lst va_nil (by show 0 ≤ 100000; decide)) (by rfl : _ = D.lst (([] : List Int).map D.int))) (co_neIL' hu64)) (by simp)
      refine' rn_if (t := false) ?h3 (fun z => nomatch z) fun _ B17 e17 => rn_go ?_
      case h3 =>
        refine vt_is (vt_w (vw_and (t := !decide (Mh.map toI = [])) (u := false) (vt_comp (mv rfl) (ve_is (ve_lst va_nil (by show 0 ≤ 100000; decide)) (by rfl : _ = D.lst (([] : List Int).map D.int))) (co_neIL' hu64)) (fun h => vw_and1 ?in3) (pw_all_and _ _))) (Bool.and_false _)
        case in3 =>
          rw [nil_toI, ← decide_not, decide_eq_true_eq] at h
          obtain ⟨nn, bs, _⟩ := clo h
          have dz : (sz : Int) % (b : Int) = 0 := by
            rw [← Int.natCast_emod, Nat.mod_eq_zero_of_dvd bs]
            rfl
          have b0 := pat.pos
          refine vt_is (vt_w (vw_or (t := false) (u := false) (vt_is (vt_comp (ve_is (ve_P T.ct T.numbers hgd (hr 2 (by decide)) (sv rfl) ⟨ns, b, A, rfl, Al, nl, rfl⟩) (by show D.tup (ns.map natD) = _; rw [nn]; rfl : _ = D.tup (([] : List Int).map D.int))) (ve_is (ve_tup va_nil (by show 0 ≤ 100000; decide)) (by rfl : _ = D.tup (([] : List Int).map D.int))) (co_neIT' hu64)) (by simp)) (fun _ => vw_or1 (vt_is (vt_comp (ve_bin (ve_ty (id := "int") (va_cons (ve_var (d := natD sz) (i := 9) rfl rfl (by walk_at "vis")) va_nil) rfl T.fr.int boot_int to_int) (ve_P (d := natD b) T.ct T.period hgd (hr 2 (by decide)) (sv rfl) ⟨ns, b, A, rfl, Al, nl, rfl⟩) (bo_mod (by omega))) ve_int co_neI) (by rw [dz]; rfl))) (pw_all_or _ _))) rfl
      -- the times of four runs
      refine' rn_setLc (i := 13) (j := 14) (ds := rangeD 0 (n + 1)) (tstD fun _ => false) (fun d => d) rfl scRt14.nd rfl rfl (sw_true rfl rfl rfl (by decide +kernel)) ?vi2 (blkOk_by (N := ["cup", "turn", "orders", "begin", "side", "mine", "some", "again", "spot", "size", "marks_here", "due", "seen", "wrong", "at"]) (sc := defScope s__law_right) (by decide +kernel)) (by rw [rangeD_len]; omega) (fun _ _ _ _ _ => pg_name (i := 14) scRt14.nd rfl (.inl rfl)) ?ht2 (fun d ow7 _ _ _ s0 H0 C0 cl fp => ve_var (i := 14) rfl rfl (by walk_at "vis")) fun B18 e18 => ?_
      case vi2 => exact vi_range1 (n := ((n + 1 : Nat) : Int)) rfl T.fr.range (ve_is (ve_bi (va_cons (ve_var (d := .lst (lwk x y (way l a) (n + 1))) (i := 6) rfl rfl (by walk_at "vis")) va_nil) rfl T.fr.len boot_len fo_lenL) (by rw [lwk_len])) (by omega)
      case ht2 =>
        intro d ow7 hd _ s0 H0 C0 cl fp
        obtain ⟨t, tn, rfl⟩ := rng_mem hd
        refine vts_one (vt_is (vt_comp (ve_comp (ve_var (d := .int (t : Nat)) (i := 14) rfl rfl (by walk_at "vis")) (ve_var (d := .ins Ct (tmD ns b A)) (i := 12) rfl rfl (by walk_at "vis")) (co_inOwn rfl FC hgd (hr 3 (by decide)) bC sC iC ⟨ns, b, A, .int (t : Nat), rfl, rfl, asc, pat, rfl⟩)) (ve_comp (ve_sub (ve_var (d := .lst (lwk x y (way l a) (n + 1))) (i := 6) rfl rfl (by walk_at "vis")) (ve_var (d := .int (t : Nat)) (i := 14) rfl rfl (by walk_at "vis")) (fun _ _ => rfl) (xo_lst (lwk_at tn))) (ve_var (d := sq u v) (i := 8) rfl rfl (by walk_at "vis")) (co_eqIT (l := [x + px (way l a) t, y + py (way l a) t]) (m := [u, v]) hu64)) (co_neD hu64 rfl rfl)) ?_)
        rw [ne_bl]
        show ((decide (0 ≤ (t : Int)) && inT ns b A (t : Int).toNat) != decide (([x + px (way l a) t, y + py (way l a) t] : List Int) = [u, v])) = false
        rw [Int.toNat_natCast, decide_eq_true (Int.natCast_nonneg t), Bool.true_and, onn t]
        have q0 : (px (way l a) t = u - x ∧ py (way l a) t = v - y) ↔ ([x + px (way l a) t, y + py (way l a) t] : List Int) = [u, v] := by
          constructor
          · rintro ⟨q1, q2⟩
            rw [q1, q2, show x + (u - x) = u by omega, show y + (v - y) = v by omega]
          · intro q
            injection q with q1 q2
            injection q2 with q2 _
            omega
        rw [show decide (px (way l a) t = u - x ∧ py (way l a) t = v - y) = decide (([x + px (way l a) t, y + py (way l a) t] : List Int) = [u, v]) from decide_eq_decide.mpr q0]
        exact bne_self_eq_false _
      refine' rn_if (t := false) ?g3 (fun z => nomatch z) fun _ B19 e19 => rn_go ?_
      case g3 =>
        refine vt_w (vw_or (t := false) (u := false) (vt_is (vt_comp (ve_M1K (d := .ins Ct (tmD ns b A)) T.cl T.times hgd (hr 7 (by decide)) (ve_var (d := .ins C (wkD l x y a p)) (i := 5) rfl rfl (by walk_at "vis")) rfl (ve_var (d := sq u v) (i := 8) rfl rfl (by walk_at "vis")) ⟨l, x, y, a, p, u, v, ns, b, A, rfl, ok, hu, hv, TS, rfl⟩) (sv rfl) (co_neOwn FE hgd (hr 2 (by decide)) bE NE (.ins T.ctk) T.ins ⟨_, _, _, .inr ⟨_, _, _, rfl, rfl⟩⟩)) (by simp)) (fun _ => vw_or1 (vt_is (vt_comp (ve_is (ve_var (i := 13) rfl rfl (by walk_at "vis")) (by rw [rng_nil (fun _ => rfl)]; rfl : _ = D.lst (([] : List Int).map D.int))) (ve_is (ve_lst va_nil (by show 0 ≤ 100000; decide)) (by rfl : _ = D.lst (([] : List Int).map D.int))) (co_neIL' hu64)) (by simp))) (pw_all_or _ _))
      obtain ⟨o, ho⟩ := nt_ex ns b A 0
      refine' rn_if (t := false) ?i3 (fun z => nomatch z) fun _ B20 e20 => rn_go ?_
      case i3 =>
        refine vt_is (vt_w (vw_and (t := !A.isEmpty || !ns.isEmpty) (u := false) (vt_own FB hgd (hr 1 (by decide)) bB sB iB (sv rfl) ⟨ns, b, A, rfl, rfl⟩) (fun h => ?in4) (pw_all_and _ _))) (Bool.and_false _)
        case in4 =>
          obtain ⟨y1, rfl, yin⟩ := first_some pat (fun z => (clo (fun q => z (amp.mpr q))).1) h ho
          have fv : ∀ {pos p2 : Pos} {env : List (Option D)} {ow7 : Ow}, env[12]? = some (some (.ins Ct (tmD ns b A))) → Ve (cxOf CX0 P w K mg base ["cup", "turn", "orders", "begin", "side", "mine", "some", "again", "spot", "size", "marks_here", "due", "seen", "wrong", "at"] "_law_right" (defScope s__law_right) f cdv A0 outer s H E).nox (.Attribute (.Name "seen" pos) "first" p2) env ow7 (.int (y1 : Nat)) := fun hh => ve_P T.ct T.first hgd (hr 5 (by decide)) (sv hh) ⟨ns, b, A, some y1, rfl, asc, pat, by omega, ho, rfl⟩
          refine vw_and' (t := decide ((y1 : Int) ≤ 10 ^ 30)) (u := false) (vt_comp (fv rfl) (ve_bin ve_int ve_int (bo_pow (by decide) (by decide) (by decide))) co_le) (fun h2 => vw_and1 ?in5) (pw_all_and _ _) (Bool.and_false _)
          case in5 =>
            have yg : (y1 : Int) ≤ GR := by
              have z := of_decide_eq_true h2
              unfold GR
              omega
            have on1 := of_decide_eq_true ((onn y1).symm.trans yin)
            exact vt_comp (ve_is (ve_M1 T.cl T.at_ hgd (hr 5 (by decide)) (ve_var (d := .ins C (wkD l x y a p)) (i := 5) rfl rfl (by walk_at "vis")) rfl (va_cons (fv rfl) va_nil) ⟨l, x, y, a, p, y1, rfl, ok, yg, rfl⟩) (by rw [on1.1, on1.2, show x + (u - x) = u by omega, show y + (v - y) = v by omega] : _ = sq u v)) (ve_var (d := sq u v) (i := 8) rfl rfl (by walk_at "vis")) (co_neR hu64 rfl)
      exact rn_nextW ⟨rfl, s5.trans s6, c6, _, _, _, _, _, _, _, _, rfl⟩ (e10.trans (e11.trans (e12.trans (e13.trans (e14.trans (e15.trans (e16.trans (e17.trans (e18.trans (e19.trans e20))))))))))
end
end
section
open Wk TL
def gA {α : Type} (us _ _ : List α) : List α := us
def gB {α : Type} (us its _ : List α) : List α := us ++ its
def gC {α : Type} (us its ws : List α) : List α := us ++ (its.take 1 ++ ws)
def dflD : List D := [sq 0 0, wD 0]
def okO : Od → Bool
  | .t k => decide (1 ≤ k) && decide (k ≤ 3)
  | .g n => decide (1 ≤ n) && decide (n ≤ 9)
theorem rowOf {l : List Od} (h : l.all okO = true) (g : l.any Od.isGo = true) (n : l.length ≤ 8) : Row l := ⟨fun o ho => by
  have z := List.all_eq_true.mp h o ho
  cases o with
  | t k => simpa [okO, Od.ok] using z
  | g n => simpa [okO, Od.ok] using z, g, n⟩
/-- whether p is the least period, by trying all -/
def chkW (l : List Od) (a n p : Nat) : Bool := decide (0 < p) && ((List.range n).all (fun t => way l a (t + p) == way l a t) && (List.range p).all (fun q => q == 0 || (List.range n).any (fun t => way l a (t + q) != way l a t)))
theorem perW {l : List Od} {a n p : Nat} (r : Row l) (ha : a < 4) (hn : 4 * stp l = n) (h : chkW l a n p = true) : IsPer (way l a) p := by
  unfold chkW at h
  rw [Bool.and_eq_true, Bool.and_eq_true] at h
  obtain ⟨h0, h1, h2⟩ := h
  have n0 : 0 < n := by have := r.pos; omega
  have per : ∀ t, way l a (t + n) = way l a t := by rw [← hn]; exact way_per r.pos (fins_four l ha)
  refine ⟨of_decide_eq_true h0, fun t => ?_, fun m m0 hm => ?_⟩
  · have z := List.all_eq_true.mp h1 (t % n) (List.mem_range.mpr (Nat.mod_lt _ n0))
    have z2 : way l a (t % n + p) = way l a (t % n) := eq_of_beq z
    rw [per_mod per t, ← z2, per_mod per (t + p), per_mod per (t % n + p), Nat.mod_add_mod]
  · apply Classical.byContradiction
    intro hh
    have z := List.all_eq_true.mp h2 m (List.mem_range.mpr (by omega))
    rw [Bool.or_eq_true] at z
    rcases z with z | z
    · have := eq_of_beq z
      omega
    · obtain ⟨t, _, ht⟩ := List.any_eq_true.mp z
      rw [hm t] at ht
      simp at ht
theorem lst1 : Per.Lst 1 [] 1 [] := ⟨⟨by decide, List.Pairwise.nil, fun x hx => by cases hx⟩, rfl, fun m m0 _ => m0⟩
end
section
open Wk TL
theorem scL14 : FnScope ["script", "ring", "comb", "spot"] ["script"] (defScope s_law) := ⟨rfl, rfl, rfl, by decide +kernel, rfl, by decide +kernel, by decide +kernel⟩
def lRing : List Od := [.g 2, .t 1]
def lComb : List Od := [.g 4, .t 3, .g 2, .t 3, .g 2, .t 3, .g 2, .t 3]
theorem ring_ok : WkOk lRing 0 8 := ⟨rowOf (by decide) rfl (by decide), by decide, perW (n := 8) (rowOf (by decide) rfl (by decide)) (by decide) (by decide) (by decide +kernel)⟩
theorem comb_ok : WkOk lComb 1 10 := ⟨rowOf (by decide) rfl (by decide), by decide, perW (n := 40) (rowOf (by decide) rfl (by decide)) (by decide) (by decide) (by decide +kernel)⟩
theorem lst8 : Per.Lst 8 [1] 8 [1] := ⟨⟨by decide, List.pairwise_singleton _ _, fun x hx => by rw [List.mem_singleton.mp hx]; decide⟩, rfl, fun m m0 h => by
  have z := h 1
  have e : Per.fn 8 [1] 1 = true := by decide
  rw [e] at z
  have y := List.mem_singleton.mp (Per.fn_mem.mp z)
  omega⟩
theorem ring_spec : TSpec (way lRing 0) 8 0 1 [] 8 [1] := ⟨List.Pairwise.nil, .inl ⟨by decide +kernel, by decide +kernel, rfl, by
  have e : ((List.range 8).filter fun i => decide (px (way lRing 0) i = 0 ∧ py (way lRing 0) i = 1)) = [1] := by decide +kernel
  rw [e]
  exact lst8⟩⟩
def cX (i : Nat) : Int := ([0, 1, 2, 3, 4, 4, 4, 3, 2, 2] : List Int).getD i 0
def cY (i : Nat) : Int := ([0, 0, 0, 0, 0, 1, 2, 2, 2, 1] : List Int).getD i 0
theorem comb_at (t : Nat) : px (way lComb 1) t = cX (t % 10) + 2 * ((t / 10 : Nat) : Int) ∧ py (way lComb 1) t = cY (t % 10) := by
  have a1 := px_div comb_ok.per.per t
  have a2 := py_div comb_ok.per.per t
  have b1 : px (way lComb 1) 10 = 2 := by decide +kernel
  have b2 : py (way lComb 1) 10 = 0 := by decide +kernel
  rw [b1] at a1
  rw [b2] at a2
  have c : ∀ i, i < 10 → px (way lComb 1) i = cX i ∧ py (way lComb 1) i = cY i := by decide +kernel
  obtain ⟨c1, c2⟩ := c (t % 10) (Nat.mod_lt _ (by decide))
  rw [c1] at a1
  rw [c2] at a2
  constructor <;> omega
theorem ten : ∀ i, i < 10 → (i = 0 ∧ cX i = 0 ∧ cY i = 0) ∨ (i = 1 ∧ cX i = 1 ∧ cY i = 0) ∨ (i = 2 ∧ cX i = 2 ∧ cY i = 0) ∨ (i = 3 ∧ cX i = 3 ∧ cY i = 0) ∨ (i = 4 ∧ cX i = 4 ∧ cY i = 0) ∨ (i = 5 ∧ cX i = 4 ∧ cY i = 1) ∨ (i = 6 ∧ cX i = 4 ∧ cY i = 2) ∨ (i = 7 ∧ cX i = 3 ∧ cY i = 2) ∨ (i = 8 ∧ cX i = 2 ∧ cY i = 2) ∨ (i = 9 ∧ cX i = 2 ∧ cY i = 1) := by decide
theorem comb_open : ¬ (px (way lComb 1) 10 = 0 ∧ py (way lComb 1) 10 = 0) := by
  rintro ⟨a, _⟩
  rw [show px (way lComb 1) 10 = 2 by decide +kernel] at a
  cases a
theorem comb_s1 : TSpec (way lComb 1) 10 4 0 [4, 12, 20] 1 [] := ⟨by unfold Per.Asc; decide, .inr ⟨comb_open, rfl, rfl, fun t => by
  obtain ⟨a, b⟩ := comb_at t
  rw [a, b]
  simp only [List.mem_cons, List.not_mem_nil, or_false]
  have d := Nat.div_add_mod t 10
  have l := Nat.mod_lt t (show 10 > 0 by decide)
  rcases ten _ l with ⟨e, ex, ey⟩ | ⟨e, ex, ey⟩ | ⟨e, ex, ey⟩ | ⟨e, ex, ey⟩ | ⟨e, ex, ey⟩ | ⟨e, ex, ey⟩ | ⟨e, ex, ey⟩ | ⟨e, ex, ey⟩ | ⟨e, ex, ey⟩ | ⟨e, ex, ey⟩ <;> rw [ex, ey] <;> rw [e] at d <;> constructor <;> intro h <;> first | omega | (refine ⟨?_, ?_⟩ <;> omega) | cases h⟩⟩
theorem comb_s2 : TSpec (way lComb 1) 10 3 1 [] 1 [] := ⟨List.Pairwise.nil, .inr ⟨comb_open, rfl, rfl, fun t => by
  obtain ⟨a, b⟩ := comb_at t
  rw [a, b]
  simp only [List.not_mem_nil]
  have d := Nat.div_add_mod t 10
  have l := Nat.mod_lt t (show 10 > 0 by decide)
  rcases ten _ l with ⟨e, ex, ey⟩ | ⟨e, ex, ey⟩ | ⟨e, ex, ey⟩ | ⟨e, ex, ey⟩ | ⟨e, ex, ey⟩ | ⟨e, ex, ey⟩ | ⟨e, ex, ey⟩ | ⟨e, ex, ey⟩ | ⟨e, ex, ey⟩ | ⟨e, ex, ey⟩ <;> rw [ex, ey] <;> rw [e] at d <;> constructor <;> intro h <;> first | omega | (refine ⟨?_, ?_⟩ <;> omega) | cases h⟩⟩
section
variable {P : Program} {w : World} {K : PySem.W.Frag} {mg : Str → Option Value} {base : Heap}
theorem ok_law14 {f C Ct : Addr} {fd : FuncData} (Fn : Fun K "law" "law" s_law f fd) (FU : ∃ fU fdU, FnG gd0 P w K mg base CX0 1 fU fdU ["script", "spot"] (spCup K) ∧ mg "_law_cup" = some (.ref fU) ∧ PySem.W.keepIn K (.ref fU) = true ∧ Binds K fdU ["script", "spot"] [])
    (FR : ∃ fR fdR, FnG gd0 P w K mg base CX0 8 fR fdR ["cup"] (spC K G00 RTr14) ∧ mg "_law_right" = some (.ref fR) ∧ PySem.W.keepIn K (.ref fR) = true ∧ Binds K fdR ["cup"] [])
    (T : Q14 P w K mg base C Ct) (mk : ∃ f, Mk K C f ∧ InS gd0 P w K mg base 4 f [] (spI K C fun ds kd fl => ds.length = 1 ∧ RWIni (gB ds dflD kd) fl) ∧ InS gd0 P w K mg base 4 f ["way"] (spI K C fun ds kd fl => ds.length = 1 ∧ RWIni (gC ds dflD kd) fl))
    (mkT : ∃ f, Mk K Ct f ∧ InS gd0 P w K mg base 4 f [] (spI K Ct (RIni fun kd => g0 kd [natD 1, .tup []])) ∧ InS gd0 P w K mg base 4 f ["period", "marks"] (spI K Ct (RIni fun kd => gPM kd []))) (glT : mg "Times" = some (.ref Ct))
    (mMx : mg "max" = none) (mMn : mg "min" = none) : FnG gd0 P w K mg base CX0 9 f fd ["script"] (spLaw K) := by
  refine okG Fn scL14 (fun vs H Q E ⟨F, a, ns, e, _⟩ => by rw [e]; rfl) fun cdv A0 outer s H vs Q E hgd hr10 ⟨F, a, ns, e, wo, hS, hn, kQ⟩ => ?_
  subst e
  refine ⟨F, fun _ => none, [.rol (ns.map D.int)], wo, .cons (.rol hS (Rps.ints ns)) .nil, ?_⟩
  have hr : ∀ k, k ≤ 8 → Room k (A0.deeper (envOfC "law" (defScope s_law) s.heap.objs.size f cdv)) := fun k hk => hr10.mono hk
  obtain ⟨fU, fdU, FU, mU, kU, bU⟩ := FU
  obtain ⟨fR, fdR, FR, mR, kR, bR⟩ := FR
  obtain ⟨g, mk0, iB, iC⟩ := mk
  obtain ⟨gt, mkT0, i00, iPM⟩ := mkT
  obtain ⟨fB, fdB, FB, bB, sB, iBo⟩ := T.boo
  obtain ⟨fE, fdE, FE, bE, NE⟩ := T.eq
  have nil0 : ∀ x ∈ ([] : List Nat), x ≤ 1000000000000000000000000000000 := fun x hx => by cases hx
  have j8 : IniOk [] 8 [1] 8 [1] := ⟨List.Pairwise.nil, nil0, lst8.pat, by decide, lst8⟩
  have jN : IniOk [4, 12, 20] 1 [] 1 [] := ⟨comb_s1.1, by decide, lst1.pat, by decide, lst1⟩
  have gz : absI 0 ≤ GR := by decide
  have vR : ∀ {env : List (Option D)} {pos : Pos} {ow6 : Ow}, env[1]? = some (some (.ins C (wkD lRing 0 0 0 8))) → Ve (cxOf CX0 P w K mg base ["script", "ring", "comb", "spot"] "law" (defScope s_law) f cdv A0 outer s H E).nox (.Name "ring" pos) env ow6 (.ins C (wkD lRing 0 0 0 8)) := fun h => ve_var h rfl (by walk_at "vis")
  have vC : ∀ {env : List (Option D)} {pos : Pos} {ow6 : Ow}, env[2]? = some (some (.ins C (wkD lComb 0 0 1 10))) → Ve (cxOf CX0 P w K mg base ["script", "ring", "comb", "spot"] "law" (defScope s_law) f cdv A0 outer s H E).nox (.Name "comb" pos) env ow6 (.ins C (wkD lComb 0 0 1 10)) := fun h => ve_var h rfl (by walk_at "vis")
  refine' rn_par (i := 1) (j := 2) (d1 := .ins C (wkD lRing 0 0 0 8)) (d2 := .ins C (wkD lComb 0 0 1 10)) rfl scL14.nd rfl rfl (by decide) rfl rfl ?p1 ?p2 ?p3 ?p4 rfl rfl ⟨_, ps_par rfl scL14.nd rfl rfl (by decide) rfl rfl pa_can rfl, rfl⟩
  case p4 => rfl
  case p1 => exact ve_mk mk0 iB hgd (hr 5 (by decide)) rfl T.gl (va_cons (ve_is ve_str (by kernel_rfl : _ = D.str (tx (rowC lRing)))) va_nil) vk_nil rfl (by show 1 ≤ 100000; decide) ⟨rfl, lRing, 0, 0, 0, 8, rfl, ring_ok, gz, gz, rfl⟩
  case p2 => exact ve_mk mk0 iC hgd (hr 5 (by decide)) rfl T.gl (va_cons (ve_is ve_str (by kernel_rfl : _ = D.str (tx (rowC lComb)))) va_nil) (vk_cons (ve_is ve_str (by kernel_rfl : _ = wD 1)) vk_nil) rfl (by show 1 ≤ 100000; decide) ⟨rfl, lComb, 0, 0, 1, 10, rfl, comb_ok, gz, gz, rfl⟩
  case p3 =>
  intro B1 e1
  refine' rn_if (t := false) ?t1 (fun z => nomatch z) fun _ B2 e2 => rn_go ?_
  case t1 =>
    refine vt_w (vw_or (t := false) (u := false) (vt_is (vt_comp (ve_M1 (d := .ins Ct (tmD [] 8 [1])) T.cl T.times hgd (hr 7 (by decide)) (vR rfl) rfl (va_cons (ve_is (ve_tup (va_cons ve_int (va_cons ve_int va_nil)) (by show 2 ≤ 100000; decide)) (by rfl : _ = sq 0 1)) va_nil) ⟨lRing, 0, 0, 0, 8, 0, 1, [], 8, [1], rfl, ring_ok, gz, by decide, ring_spec, rfl⟩) (ve_mk0 mkT0 iPM hgd (hr 5 (by decide)) rfl glT (vk_cons ve_int (vk_cons (ve_tup (va_cons ve_int va_nil) (by decide)) vk_nil)) rfl ⟨[], 8, [1], 8, [1], rfl, by decide, rfl, j8, rfl⟩) (co_neOwn FE hgd (hr 2 (by decide)) bE NE (.ins T.ctk) T.ins ⟨_, _, _, .inr ⟨_, _, _, rfl, rfl⟩⟩)) (by simp)) (fun _ => vw_or1 (vt_is (vt_comp (ve_M1 (d := .ins Ct (tmD [4, 12, 20] 1 [])) T.cl T.times hgd (hr 7 (by decide)) (vC rfl) rfl (va_cons (ve_is (ve_tup (va_cons ve_int (va_cons ve_int va_nil)) (by show 2 ≤ 100000; decide)) (by rfl : _ = sq 4 0)) va_nil) ⟨lComb, 0, 0, 1, 10, 4, 0, [4, 12, 20], 1, [], rfl, comb_ok, by decide, gz, comb_s1, rfl⟩) (ve_mk mkT0 i00 hgd (hr 5 (by decide)) rfl glT (va_cons ve_int (va_cons ve_int (va_cons ve_int va_nil))) vk_nil rfl (by decide) ⟨[4, 12, 20], 1, [], 1, [], rfl, by decide, rfl, jN, rfl⟩) (co_neOwn FE hgd (hr 2 (by decide)) bE NE (.ins T.ctk) T.ins ⟨_, _, _, .inr ⟨_, _, _, rfl, rfl⟩⟩)) (by simp))) (pw_all_or _ _))
  refine' rn_if (t := false) ?t2 (fun z => nomatch z) fun _ B3 e3 => rn_go ?_
  case t2 => exact vt_is (vt_own FB hgd (hr 1 (by decide)) bB sB iBo (ve_M1 (d := .ins Ct (tmD [] 1 [])) T.cl T.times hgd (hr 7 (by decide)) (vC rfl) rfl (va_cons (ve_is (ve_tup (va_cons ve_int (va_cons ve_int va_nil)) (by show 2 ≤ 100000; decide)) (by rfl : _ = sq 3 1)) va_nil) ⟨lComb, 0, 0, 1, 10, 3, 1, [], 1, [], rfl, comb_ok, by decide, by decide, comb_s2, rfl⟩) ⟨[], 1, [], rfl, rfl⟩) rfl
  have hlen : ((ns.map D.int).length : Int) = ns.length := by rw [List.length_map]
  obtain ⟨M0, hM0⟩ : ∃ M0 : Int, M0 = if (6 : Int) < (((ns.map D.int).length : Nat) : Int) then (6 : Int) else (((ns.map D.int).length : Nat) : Int) := ⟨_, rfl⟩
  obtain ⟨M, hM⟩ : ∃ M : Int, M = if M0 > 2 then M0 else 2 := ⟨_, rfl⟩
  have hM1 : 2 ≤ M ∧ M ≤ 6 := by
    rw [hlen] at hM0
    split at hM0 <;> split at hM <;> omega
  refine' rn_ret (d := .bl true) ?h (fun F2 H2 v x2 w2 r2 => by cases r2; exact kQ H2)
  case h =>
    refine' ve_is (ve_bi (va_cons ?ha va_nil) rfl T.fr.all boot_all (fo_all (bs := List.replicate M.toNat true) rfl)) ?hq
    case ha =>
      refine' ve_lcZ (j := 3) (ds := rangeD 0 M.toNat) ((List.replicate M.toNat true).map D.bl) ?ul rfl scL14.nd ?ui (blkOk_by (N := ["script", "ring", "comb", "spot"]) (sc := defScope s_law) (by decide +kernel)) ?um ?ug ?ue
      case ul => rw [List.length_map, List.length_replicate, rangeD_len]
      case ui =>
        refine' vi_range1 rfl T.fr.range ?va (by omega)
        case va =>
          rw [hM]
          refine' ve_bi (va_cons ve_int (va_cons ?vb va_nil)) rfl mMx boot_max (fo_max rfl)
          case vb =>
            rw [hM0]
            refine' ve_bi (va_cons ?vc (va_cons ve_int va_nil)) rfl mMn boot_min (fo_min rfl)
            case vc => exact ve_bi (va_cons (ve_var (i := 0) rfl rfl (by walk_at "vis")) va_nil) rfl T.fr.len boot_len fo_lenR
      case um => rw [rangeD_len]; omega
      case ug => exact fun _ _ _ _ _ => pg_name scL14.nd rfl (.inl rfl)
      case ue =>
        intro n d r ow' hd hr' sub s0 H0 C0 cl fp
        obtain ⟨hn8, rfl⟩ := rangeD_get hd
        have e0 : (0 : Int) + ((n : Nat) : Int) = (n : Int) := by omega
        rw [e0]
        obtain rfl : r = .bl true := by
          rw [List.getElem?_map] at hr'
          have y : (List.replicate M.toNat true)[n]? = some true := by simp [hn8]
          rw [y] at hr'
          exact (Option.some.inj hr').symm
        exact ve_right FR FU hgd (hr 1 (by decide)) (hr 8 (by decide)) rfl rfl mU mR kU kR bU bR (ve_var (i := 0) rfl rfl (by walk_at "vis")) (ve_var (i := 3) rfl rfl (by walk_at "vis")) rfl (fun d' h => h)
    case hq => simp
end
end
section
open Wk TL
section
variable {γ : Gds} {P : Program} {w : World} {K : PySem.W.Frag} {mg : Str → Option Value} {base : Heap} {f C : Addr} {fd : FuncData}
theorem scClosed : FnScope ["self"] ["self"] (defScope s_Walker_closed) := ⟨rfl, rfl, rfl, by decide +kernel, rfl, by decide +kernel, by decide +kernel⟩
theorem ok_wClosed (Fn : Fun K "closed" "Walker.closed" s_Walker_closed f fd) (W : WkC K C) : FnG γ P w K mg base CX0 1 f fd ["self"] (spR K (RW C fun l x y a p => .bl (decide (px (way l a) p = 0 ∧ py (way l a) p = 0)))) := by
  refine okR Fn scClosed (fun ds d ⟨l, x, y, a, p, e, _⟩ => by rw [e]; rfl) fun cdv A outer s H B ow ds d Q E hgd hr hR kQ => ?_
  obtain ⟨l, x, y, a, p, rfl, ok, rfl⟩ := hR
  have hu64 : A.units + 3 + 64 < cLine := by
    have z : A.units + 3 + 16 * 0 + 200 < cLine := hr.un
    omega
  refine rn_ret (ve_is (ve_comp (ve_at W.cl W.drift (ve_var (d := .ins C (wkD l x y a p)) (i := 0) rfl rfl (by walk_at "vis")) (d := sq (px (way l a) p) (py (way l a) p)) rfl) (ve_tup (va_cons ve_int (va_cons ve_int va_nil)) (by show 2 ≤ 100000; decide)) (co_eqD hu64 rfl rfl)) ?_) kQ
  congr 1
  have z := eqvAll_ints [px (way l a) p, py (way l a) p] [0, 0]
  refine z.trans ?_
  simp
end
end
section
open Wk TL
theorem all_mk14 {P : Program} {w : World} {K : PySem.W.Frag} {h : Heap} {mg : Str → Option Value} {fa C Ct T0 Z0 fi T1 D0 ft qT qM u0 u1 u2 u3 fI fW fPa fSq fTi fOd fRo fWy fTu fOn fGo fOf fLa fSi fLt fFs fTs fSa fFu fPl fHo fPr fRe fSh fMa fUn fLU fLS fLP fLr fLb fLw fLo fLp fLf fLm fLv fLd fLq fLR fLL pa qa pb qb pc qc pd qd xi xj pta qta ptc qtc ptd qtd pte qte ptf qtf xth xti xtj xtk : Addr} {odI anI odW anW odPa anPa odSq anSq odTi anTi odOd anOd odRo anRo odWy anWy odTu anTu odOn anOn odGo anGo odOf anOf odLa anLa odSi anSi odLt anLt odFs anFs odTs anTs odSa anSa odFu anFu odPl anPl odHo anHo odPr anPr odRe anRe odSh anSh odMa anMa odUn anUn odLU anLU odLS anLS odLP anLP odLr anLr odLb anLb odLw anLw odLo anLo odLp anLp odLf anLf odLm anLm odLv anLv odLd anLd odLq anLq odLR anLR odLL anLL odi0 ani0 odT0 odZ0 odpa anpa odpb anpb odpc anpc odpd anpd odmi anmi odmj anmj odt0 ant0 odT1 odpta anpta odptc anptc odptd anptd odpte anpte odptf anptf odmth anmth odmti anmti odmtj anmtj odmtk anmtk odu0 odu1 odu2 odu3 : Option Addr} {slI slW slPa slSq slTi slOd slRo slWy slTu slOn slGo slOf slLa slSi slLt slFs slTs slSa slFu slPl slHo slPr slRe slSh slMa slUn slLU slLS slLP slLr slLb slLw slLo slLp slLf slLm slLv slLd slLq slLR slLL sli0 slT0 slZ0 slpa slpb slpc slpd slmi slmj slt0 slT1 slpta slptc slptd slpte slptf slmth slmti slmtj slmtk slu0 slu1 slu2 slu3 : Array (Option Value)} {kVI ocI dcI pmI cdI ctI kVW ocW dcW pmW cdW ctW kVPa ocPa dcPa pmPa cdPa ctPa kVSq ocSq dcSq pmSq cdSq ctSq kVTi ocTi dcTi pmTi cdTi ctTi kVOd ocOd dcOd pmOd cdOd ctOd kVRo ocRo dcRo pmRo cdRo ctRo kVWy ocWy dcWy pmWy cdWy ctWy kVTu ocTu dcTu pmTu cdTu ctTu kVOn ocOn dcOn pmOn cdOn ctOn kVGo ocGo dcGo pmGo cdGo ctGo kVOf ocOf dcOf pmOf cdOf ctOf kVLa ocLa dcLa pmLa cdLa ctLa kVSi ocSi dcSi pmSi cdSi ctSi kVLt ocLt dcLt pmLt cdLt ctLt kVFs ocFs dcFs pmFs cdFs ctFs kVTs ocTs dcTs pmTs cdTs ctTs kVSa ocSa dcSa pmSa cdSa ctSa kVFu ocFu dcFu pmFu cdFu ctFu kVPl ocPl dcPl pmPl cdPl ctPl kVHo ocHo dcHo pmHo cdHo ctHo kVPr ocPr dcPr pmPr cdPr ctPr kVRe ocRe dcRe pmRe cdRe ctRe kVSh ocSh dcSh pmSh cdSh ctSh kVMa ocMa dcMa pmMa cdMa ctMa kVUn ocUn dcUn pmUn cdUn ctUn kVLU ocLU dcLU pmLU cdLU ctLU kVLS ocLS dcLS pmLS cdLS ctLS kVLP ocLP dcLP pmLP cdLP ctLP kVLr ocLr dcLr pmLr cdLr ctLr kVLb ocLb dcLb pmLb cdLb ctLb kVLw ocLw dcLw pmLw cdLw ctLw kVLo ocLo dcLo pmLo cdLo ctLo kVLp ocLp dcLp pmLp cdLp ctLp kVLf ocLf dcLf pmLf cdLf ctLf kVLm ocLm dcLm pmLm cdLm ctLm kVLv ocLv dcLv pmLv cdLv ctLv kVLd ocLd dcLd pmLd cdLd ctLd kVLq ocLq dcLq pmLq cdLq ctLq kVLR ocLR dcLR pmLR cdLR ctLR kVLL ocLL dcLL pmLL cdLL ctLL kVi0 oci0 dci0 pmi0 cdi0 cti0 kVpa ocpa dcpa pmpa cdpa ctpa kVpb ocpb dcpb pmpb cdpb ctpb kVpc ocpc dcpc pmpc cdpc ctpc kVpd ocpd dcpd pmpd cdpd ctpd kVmi ocmi dcmi pmmi cdmi ctmi kVmj ocmj dcmj pmmj cdmj ctmj oct0 dct0 pmt0 cdt0 ctt0 kVpta ocpta dcpta pmpta cdpta ctpta kVptc ocptc dcptc pmptc cdptc ctptc kVptd ocptd dcptd pmptd cdptd ctptd kVpte ocpte dcpte pmpte cdpte ctpte kVptf ocptf dcptf pmptf cdptf ctptf kVmth ocmth dcmth pmmth cdmth ctmth kVmti ocmti dcmti pmmti cdmti ctmti kVmtj ocmtj dcmtj pmmtj cdmtj ctmtj kVmtk ocmtk dcmtk pmmtk cdmtk ctmtk : Value} {rea reb rec red reta retc retd rete retf : List Value} {esT esM : Array DictEntry} {tp t4_ tN tz1 tz2 tt1 tt2 tt3 tW t1_ t2_ t3_ tx0 ty0 tx1 ty1 tx2 ty2 tx3 ty3 : Tok} {nT0 nT1 nZ0 nT nM nu0 nu1 nu2 nu3 : Nat} (X : K.In h) (G : h.Ns mainGlobals mg) (hfa : mg "law" = some (.ref fa))
    (aI : PySem.W.nsIn K mainGlobals "is_integer" = some (some (.ref fI)))
    (lI : K.lookup fI = some ⟨ocI, odI, .func (PySem.W.fnOf "is_integer" "is_integer" (defArgs s_is_integer) (defBody s_is_integer) (defScope s_is_integer) .none kVI dcI pmI anI cdI ctI), slI⟩)
    (cI : PySem.W.codeIn K cdI "is_integer" = true)
    (kI : PySem.W.keepIn K (.ref fI) = true)
    (aW : PySem.W.nsIn K mainGlobals "is_within" = some (some (.ref fW)))
    (lW : K.lookup fW = some ⟨ocW, odW, .func (PySem.W.fnOf "is_within" "is_within" (defArgs s_is_within) (defBody s_is_within) (defScope s_is_within) .none kVW dcW pmW anW cdW ctW), slW⟩)
    (cW : PySem.W.codeIn K cdW "is_within" = true)
    (kW : PySem.W.keepIn K (.ref fW) = true)
    (aPa : PySem.W.nsIn K mainGlobals "is_pair" = some (some (.ref fPa)))
    (lPa : K.lookup fPa = some ⟨ocPa, odPa, .func (PySem.W.fnOf "is_pair" "is_pair" (defArgs s_is_pair) (defBody s_is_pair) (defScope s_is_pair) .none kVPa dcPa pmPa anPa cdPa ctPa), slPa⟩)
    (cPa : PySem.W.codeIn K cdPa "is_pair" = true)
    (kPa : PySem.W.keepIn K (.ref fPa) = true)
    (aSq : PySem.W.nsIn K mainGlobals "is_square" = some (some (.ref fSq)))
    (lSq : K.lookup fSq = some ⟨ocSq, odSq, .func (PySem.W.fnOf "is_square" "is_square" (defArgs s_is_square) (defBody s_is_square) (defScope s_is_square) .none kVSq dcSq pmSq anSq cdSq ctSq), slSq⟩)
    (cSq : PySem.W.codeIn K cdSq "is_square" = true)
    (kSq : PySem.W.keepIn K (.ref fSq) = true)
    (aTi : PySem.W.nsIn K mainGlobals "is_time" = some (some (.ref fTi)))
    (lTi : K.lookup fTi = some ⟨ocTi, odTi, .func (PySem.W.fnOf "is_time" "is_time" (defArgs s_is_time) (defBody s_is_time) (defScope s_is_time) .none kVTi dcTi pmTi anTi cdTi ctTi), slTi⟩)
    (cTi : PySem.W.codeIn K cdTi "is_time" = true)
    (kTi : PySem.W.keepIn K (.ref fTi) = true)
    (aOd : PySem.W.nsIn K mainGlobals "is_order" = some (some (.ref fOd)))
    (lOd : K.lookup fOd = some ⟨ocOd, odOd, .func (PySem.W.fnOf "is_order" "is_order" (defArgs s_is_order) (defBody s_is_order) (defScope s_is_order) .none kVOd dcOd pmOd anOd cdOd ctOd), slOd⟩)
    (cOd : PySem.W.codeIn K cdOd "is_order" = true)
    (kOd : PySem.W.keepIn K (.ref fOd) = true)
    (aRo : PySem.W.nsIn K mainGlobals "is_row" = some (some (.ref fRo)))
    (lRo : K.lookup fRo = some ⟨ocRo, odRo, .func (PySem.W.fnOf "is_row" "is_row" (defArgs s_is_row) (defBody s_is_row) (defScope s_is_row) .none kVRo dcRo pmRo anRo cdRo ctRo), slRo⟩)
    (cRo : PySem.W.codeIn K cdRo "is_row" = true)
    (kRo : PySem.W.keepIn K (.ref fRo) = true)
    (aWy : PySem.W.nsIn K mainGlobals "is_way" = some (some (.ref fWy)))
    (lWy : K.lookup fWy = some ⟨ocWy, odWy, .func (PySem.W.fnOf "is_way" "is_way" (defArgs s_is_way) (defBody s_is_way) (defScope s_is_way) .none kVWy dcWy pmWy anWy cdWy ctWy), slWy⟩)
    (cWy : PySem.W.codeIn K cdWy "is_way" = true)
    (kWy : PySem.W.keepIn K (.ref fWy) = true)
    (aTu : PySem.W.nsIn K mainGlobals "turned_way" = some (some (.ref fTu)))
    (lTu : K.lookup fTu = some ⟨ocTu, odTu, .func (PySem.W.fnOf "turned_way" "turned_way" (defArgs s_turned_way) (defBody s_turned_way) (defScope s_turned_way) .none kVTu dcTu pmTu anTu cdTu ctTu), slTu⟩)
    (cTu : PySem.W.codeIn K cdTu "turned_way" = true)
    (kTu : PySem.W.keepIn K (.ref fTu) = true)
    (aOn : PySem.W.nsIn K mainGlobals "one_run" = some (some (.ref fOn)))
    (lOn : K.lookup fOn = some ⟨ocOn, odOn, .func (PySem.W.fnOf "one_run" "one_run" (defArgs s_one_run) (defBody s_one_run) (defScope s_one_run) .none kVOn dcOn pmOn anOn cdOn ctOn), slOn⟩)
    (cOn : PySem.W.codeIn K cdOn "one_run" = true)
    (kOn : PySem.W.keepIn K (.ref fOn) = true)
    (aGo : PySem.W.nsIn K mainGlobals "ways_gone" = some (some (.ref fGo)))
    (lGo : K.lookup fGo = some ⟨ocGo, odGo, .func (PySem.W.fnOf "ways_gone" "ways_gone" (defArgs s_ways_gone) (defBody s_ways_gone) (defScope s_ways_gone) .none kVGo dcGo pmGo anGo cdGo ctGo), slGo⟩)
    (cGo : PySem.W.codeIn K cdGo "ways_gone" = true)
    (kGo : PySem.W.keepIn K (.ref fGo) = true)
    (aOf : PySem.W.nsIn K mainGlobals "offsets_along" = some (some (.ref fOf)))
    (lOf : K.lookup fOf = some ⟨ocOf, odOf, .func (PySem.W.fnOf "offsets_along" "offsets_along" (defArgs s_offsets_along) (defBody s_offsets_along) (defScope s_offsets_along) .none kVOf dcOf pmOf anOf cdOf ctOf), slOf⟩)
    (cOf : PySem.W.codeIn K cdOf "offsets_along" = true)
    (kOf : PySem.W.keepIn K (.ref fOf) = true)
    (aLa : PySem.W.nsIn K mainGlobals "lane_of" = some (some (.ref fLa)))
    (lLa : K.lookup fLa = some ⟨ocLa, odLa, .func (PySem.W.fnOf "lane_of" "lane_of" (defArgs s_lane_of) (defBody s_lane_of) (defScope s_lane_of) .none kVLa dcLa pmLa anLa cdLa ctLa), slLa⟩)
    (cLa : PySem.W.codeIn K cdLa "lane_of" = true)
    (kLa : PySem.W.keepIn K (.ref fLa) = true)
    (aSi : PySem.W.nsIn K mainGlobals "square_in" = some (some (.ref fSi)))
    (lSi : K.lookup fSi = some ⟨ocSi, odSi, .func (PySem.W.fnOf "square_in" "square_in" (defArgs s_square_in) (defBody s_square_in) (defScope s_square_in) .none kVSi dcSi pmSi anSi cdSi ctSi), slSi⟩)
    (cSi : PySem.W.codeIn K cdSi "square_in" = true)
    (kSi : PySem.W.keepIn K (.ref fSi) = true)
    (aLt : PySem.W.nsIn K mainGlobals "lanes_trodden" = some (some (.ref fLt)))
    (lLt : K.lookup fLt = some ⟨ocLt, odLt, .func (PySem.W.fnOf "lanes_trodden" "lanes_trodden" (defArgs s_lanes_trodden) (defBody s_lanes_trodden) (defScope s_lanes_trodden) .none kVLt dcLt pmLt anLt cdLt ctLt), slLt⟩)
    (cLt : PySem.W.codeIn K cdLt "lanes_trodden" = true)
    (kLt : PySem.W.keepIn K (.ref fLt) = true)
    (aFs : PySem.W.nsIn K mainGlobals "from_start" = some (some (.ref fFs)))
    (lFs : K.lookup fFs = some ⟨ocFs, odFs, .func (PySem.W.fnOf "from_start" "from_start" (defArgs s_from_start) (defBody s_from_start) (defScope s_from_start) .none kVFs dcFs pmFs anFs cdFs ctFs), slFs⟩)
    (cFs : PySem.W.codeIn K cdFs "from_start" = true)
    (kFs : PySem.W.keepIn K (.ref fFs) = true)
    (aTs : PySem.W.nsIn K mainGlobals "to_start" = some (some (.ref fTs)))
    (lTs : K.lookup fTs = some ⟨ocTs, odTs, .func (PySem.W.fnOf "to_start" "to_start" (defArgs s_to_start) (defBody s_to_start) (defScope s_to_start) .none kVTs dcTs pmTs anTs cdTs ctTs), slTs⟩)
    (cTs : PySem.W.codeIn K cdTs "to_start" = true)
    (kTs : PySem.W.keepIn K (.ref fTs) = true)
    (aSa : PySem.W.nsIn K mainGlobals "square_at" = some (some (.ref fSa)))
    (lSa : K.lookup fSa = some ⟨ocSa, odSa, .func (PySem.W.fnOf "square_at" "square_at" (defArgs s_square_at) (defBody s_square_at) (defScope s_square_at) .none kVSa dcSa pmSa anSa cdSa ctSa), slSa⟩)
    (cSa : PySem.W.codeIn K cdSa "square_at" = true)
    (kSa : PySem.W.keepIn K (.ref fSa) = true)
    (aFu : PySem.W.nsIn K mainGlobals "first_unfit" = some (some (.ref fFu)))
    (lFu : K.lookup fFu = some ⟨ocFu, odFu, .func (PySem.W.fnOf "first_unfit" "first_unfit" (defArgs s_first_unfit) (defBody s_first_unfit) (defScope s_first_unfit) .none kVFu dcFu pmFu anFu cdFu ctFu), slFu⟩)
    (cFu : PySem.W.codeIn K cdFu "first_unfit" = true)
    (kFu : PySem.W.keepIn K (.ref fFu) = true)
    (aPl : PySem.W.nsIn K mainGlobals "place" = some (some (.ref fPl)))
    (lPl : K.lookup fPl = some ⟨ocPl, odPl, .func (PySem.W.fnOf "place" "place" (defArgs s_place) (defBody s_place) (defScope s_place) .none kVPl dcPl pmPl anPl cdPl ctPl), slPl⟩)
    (cPl : PySem.W.codeIn K cdPl "place" = true)
    (kPl : PySem.W.keepIn K (.ref fPl) = true)
    (aHo : PySem.W.nsIn K mainGlobals "holds_rows" = some (some (.ref fHo)))
    (lHo : K.lookup fHo = some ⟨ocHo, odHo, .func (PySem.W.fnOf "holds" "holds" (defArgs s_holds) (defBody s_holds) (defScope s_holds) .none kVHo dcHo pmHo anHo cdHo ctHo), slHo⟩)
    (cHo : PySem.W.codeIn K cdHo "holds" = true)
    (kHo : PySem.W.keepIn K (.ref fHo) = true)
    (aPr : PySem.W.nsIn K mainGlobals "primes_of" = some (some (.ref fPr)))
    (lPr : K.lookup fPr = some ⟨ocPr, odPr, .func (PySem.W.fnOf "primes_of" "primes_of" (defArgs s_primes_of) (defBody s_primes_of) (defScope s_primes_of) .none kVPr dcPr pmPr anPr cdPr ctPr), slPr⟩)
    (cPr : PySem.W.codeIn K cdPr "primes_of" = true)
    (kPr : PySem.W.keepIn K (.ref fPr) = true)
    (aRe : PySem.W.nsIn K mainGlobals "repeats" = some (some (.ref fRe)))
    (lRe : K.lookup fRe = some ⟨ocRe, odRe, .func (PySem.W.fnOf "repeats" "repeats" (defArgs s_repeats) (defBody s_repeats) (defScope s_repeats) .none kVRe dcRe pmRe anRe cdRe ctRe), slRe⟩)
    (cRe : PySem.W.codeIn K cdRe "repeats" = true)
    (kRe : PySem.W.keepIn K (.ref fRe) = true)
    (aSh : PySem.W.nsIn K mainGlobals "shortest" = some (some (.ref fSh)))
    (lSh : K.lookup fSh = some ⟨ocSh, odSh, .func (PySem.W.fnOf "shortest" "shortest" (defArgs s_shortest) (defBody s_shortest) (defScope s_shortest) .none kVSh dcSh pmSh anSh cdSh ctSh), slSh⟩)
    (cSh : PySem.W.codeIn K cdSh "shortest" = true)
    (kSh : PySem.W.keepIn K (.ref fSh) = true)
    (aMa : PySem.W.nsIn K mainGlobals "marked_from" = some (some (.ref fMa)))
    (lMa : K.lookup fMa = some ⟨ocMa, odMa, .func (PySem.W.fnOf "marked_from" "marked_from" (defArgs s_marked_from) (defBody s_marked_from) (defScope s_marked_from) .none kVMa dcMa pmMa anMa cdMa ctMa), slMa⟩)
    (cMa : PySem.W.codeIn K cdMa "marked_from" = true)
    (kMa : PySem.W.keepIn K (.ref fMa) = true)
    (aUn : PySem.W.nsIn K mainGlobals "unchecked" = some (some (.ref fUn)))
    (lUn : K.lookup fUn = some ⟨ocUn, odUn, .func (PySem.W.fnOf "unchecked" "unchecked" (defArgs s_unchecked) (defBody s_unchecked) (defScope s_unchecked) .none kVUn dcUn pmUn anUn cdUn ctUn), slUn⟩)
    (cUn : PySem.W.codeIn K cdUn "unchecked" = true)
    (kUn : PySem.W.keepIn K (.ref fUn) = true)
    (aLU : PySem.W.nsIn K mainGlobals "_law_cup" = some (some (.ref fLU)))
    (lLU : K.lookup fLU = some ⟨ocLU, odLU, .func (PySem.W.fnOf "_law_cup" "_law_cup" (defArgs s__law_cup) (defBody s__law_cup) (defScope s__law_cup) .none kVLU dcLU pmLU anLU cdLU ctLU), slLU⟩)
    (cLU : PySem.W.codeIn K cdLU "_law_cup" = true)
    (kLU : PySem.W.keepIn K (.ref fLU) = true)
    (aLS : PySem.W.nsIn K mainGlobals "_law_sip" = some (some (.ref fLS)))
    (lLS : K.lookup fLS = some ⟨ocLS, odLS, .func (PySem.W.fnOf "_law_sip" "_law_sip" (defArgs s__law_sip) (defBody s__law_sip) (defScope s__law_sip) .none kVLS dcLS pmLS anLS cdLS ctLS), slLS⟩)
    (cLS : PySem.W.codeIn K cdLS "_law_sip" = true)
    (kLS : PySem.W.keepIn K (.ref fLS) = true)
    (aLP : PySem.W.nsIn K mainGlobals "_law_pick" = some (some (.ref fLP)))
    (lLP : K.lookup fLP = some ⟨ocLP, odLP, .func (PySem.W.fnOf "_law_pick" "_law_pick" (defArgs s__law_pick) (defBody s__law_pick) (defScope s__law_pick) .none kVLP dcLP pmLP anLP cdLP ctLP), slLP⟩)
    (cLP : PySem.W.codeIn K cdLP "_law_pick" = true)
    (kLP : PySem.W.keepIn K (.ref fLP) = true)
    (aLr : PySem.W.nsIn K mainGlobals "_law_row" = some (some (.ref fLr)))
    (lLr : K.lookup fLr = some ⟨ocLr, odLr, .func (PySem.W.fnOf "_law_row" "_law_row" (defArgs s__law_row) (defBody s__law_row) (defScope s__law_row) .none kVLr dcLr pmLr anLr cdLr ctLr), slLr⟩)
    (cLr : PySem.W.codeIn K cdLr "_law_row" = true)
    (kLr : PySem.W.keepIn K (.ref fLr) = true)
    (aLb : PySem.W.nsIn K mainGlobals "_law_start" = some (some (.ref fLb)))
    (lLb : K.lookup fLb = some ⟨ocLb, odLb, .func (PySem.W.fnOf "_law_start" "_law_start" (defArgs s__law_start) (defBody s__law_start) (defScope s__law_start) .none kVLb dcLb pmLb anLb cdLb ctLb), slLb⟩)
    (cLb : PySem.W.codeIn K cdLb "_law_start" = true)
    (kLb : PySem.W.keepIn K (.ref fLb) = true)
    (aLw : PySem.W.nsIn K mainGlobals "_law_steps" = some (some (.ref fLw)))
    (lLw : K.lookup fLw = some ⟨ocLw, odLw, .func (PySem.W.fnOf "_law_steps" "_law_steps" (defArgs s__law_steps) (defBody s__law_steps) (defScope s__law_steps) .none kVLw dcLw pmLw anLw cdLw ctLw), slLw⟩)
    (cLw : PySem.W.codeIn K cdLw "_law_steps" = true)
    (kLw : PySem.W.keepIn K (.ref fLw) = true)
    (aLo : PySem.W.nsIn K mainGlobals "_law_on" = some (some (.ref fLo)))
    (lLo : K.lookup fLo = some ⟨ocLo, odLo, .func (PySem.W.fnOf "_law_on" "_law_on" (defArgs s__law_on) (defBody s__law_on) (defScope s__law_on) .none kVLo dcLo pmLo anLo cdLo ctLo), slLo⟩)
    (cLo : PySem.W.codeIn K cdLo "_law_on" = true)
    (kLo : PySem.W.keepIn K (.ref fLo) = true)
    (aLp : PySem.W.nsIn K mainGlobals "_law_path" = some (some (.ref fLp)))
    (lLp : K.lookup fLp = some ⟨ocLp, odLp, .func (PySem.W.fnOf "_law_path" "_law_path" (defArgs s__law_path) (defBody s__law_path) (defScope s__law_path) .none kVLp dcLp pmLp anLp cdLp ctLp), slLp⟩)
    (cLp : PySem.W.codeIn K cdLp "_law_path" = true)
    (kLp : PySem.W.keepIn K (.ref fLp) = true)
    (aLf : PySem.W.nsIn K mainGlobals "_law_four" = some (some (.ref fLf)))
    (lLf : K.lookup fLf = some ⟨ocLf, odLf, .func (PySem.W.fnOf "_law_four" "_law_four" (defArgs s__law_four) (defBody s__law_four) (defScope s__law_four) .none kVLf dcLf pmLf anLf cdLf ctLf), slLf⟩)
    (cLf : PySem.W.codeIn K cdLf "_law_four" = true)
    (kLf : PySem.W.keepIn K (.ref fLf) = true)
    (aLm : PySem.W.nsIn K mainGlobals "_law_some" = some (some (.ref fLm)))
    (lLm : K.lookup fLm = some ⟨ocLm, odLm, .func (PySem.W.fnOf "_law_some" "_law_some" (defArgs s__law_some) (defBody s__law_some) (defScope s__law_some) .none kVLm dcLm pmLm anLm cdLm ctLm), slLm⟩)
    (cLm : PySem.W.codeIn K cdLm "_law_some" = true)
    (kLm : PySem.W.keepIn K (.ref fLm) = true)
    (aLv : PySem.W.nsIn K mainGlobals "_law_when" = some (some (.ref fLv)))
    (lLv : K.lookup fLv = some ⟨ocLv, odLv, .func (PySem.W.fnOf "_law_when" "_law_when" (defArgs s__law_when) (defBody s__law_when) (defScope s__law_when) .none kVLv dcLv pmLv anLv cdLv ctLv), slLv⟩)
    (cLv : PySem.W.codeIn K cdLv "_law_when" = true)
    (kLv : PySem.W.keepIn K (.ref fLv) = true)
    (aLd : PySem.W.nsIn K mainGlobals "_law_due" = some (some (.ref fLd)))
    (lLd : K.lookup fLd = some ⟨ocLd, odLd, .func (PySem.W.fnOf "_law_due" "_law_due" (defArgs s__law_due) (defBody s__law_due) (defScope s__law_due) .none kVLd dcLd pmLd anLd cdLd ctLd), slLd⟩)
    (cLd : PySem.W.codeIn K cdLd "_law_due" = true)
    (kLd : PySem.W.keepIn K (.ref fLd) = true)
    (aLq : PySem.W.nsIn K mainGlobals "_law_spot" = some (some (.ref fLq)))
    (lLq : K.lookup fLq = some ⟨ocLq, odLq, .func (PySem.W.fnOf "_law_spot" "_law_spot" (defArgs s__law_spot) (defBody s__law_spot) (defScope s__law_spot) .none kVLq dcLq pmLq anLq cdLq ctLq), slLq⟩)
    (cLq : PySem.W.codeIn K cdLq "_law_spot" = true)
    (kLq : PySem.W.keepIn K (.ref fLq) = true)
    (aLR : PySem.W.nsIn K mainGlobals "_law_right" = some (some (.ref fLR)))
    (lLR : K.lookup fLR = some ⟨ocLR, odLR, .func (PySem.W.fnOf "_law_right" "_law_right" (defArgs s__law_right) (defBody s__law_right) (defScope s__law_right) .none kVLR dcLR pmLR anLR cdLR ctLR), slLR⟩)
    (cLR : PySem.W.codeIn K cdLR "_law_right" = true)
    (kLR : PySem.W.keepIn K (.ref fLR) = true)
    (aLL : PySem.W.nsIn K mainGlobals "law" = some (some (.ref fLL)))
    (lLL : K.lookup fLL = some ⟨ocLL, odLL, .func (PySem.W.fnOf "law" "law" (defArgs s_law) (defBody s_law) (defScope s_law) .none kVLL dcLL pmLL anLL cdLL ctLL), slLL⟩)
    (cLL : PySem.W.codeIn K cdLL "law" = true)
    (kLL : PySem.W.keepIn K (.ref fLL) = true)
    (aC : PySem.W.nsIn K mainGlobals "Walker" = some (some (.ref C)))
    (cpg : PySem.W.plainGet K C Str.empty = true)
    (chd : PySem.W.hasDictIn K C = true)
    (cpo : PySem.W.plainOver K C = true)
    (csa : PySem.W.findIn K (.ref C) "__setattr__" = some (some (.builtin "object.__setattr__")))
    (n_row : PySem.W.findIn K (.ref C) "_row" = some none)
    (n_start : PySem.W.findIn K (.ref C) "_start" = some none)
    (n_way : PySem.W.findIn K (.ref C) "_way" = some none)
    (n_ways : PySem.W.findIn K (.ref C) "_ways" = some none)
    (n_offsets : PySem.W.findIn K (.ref C) "_offsets" = some none)
    (n_drift : PySem.W.findIn K (.ref C) "_drift" = some none)
    (n_lanes : PySem.W.findIn K (.ref C) "_lanes" = some none)
    (mmk : PySem.W.makesIn K C = true)
    (mkp : PySem.W.keepIn K (.ref C) = true)
    (ai : PySem.W.findIn K (.ref C) "__init__" = some (some (.ref fi)))
    (li0 : K.lookup fi = some ⟨oci0, odi0, .func (PySem.W.fnOf "__init__" "Walker.__init__" (defArgs s_Walker___init__) (defBody s_Walker___init__) (defScope s_Walker___init__) (.ref T0) kVi0 dci0 pmi0 ani0 cdi0 cti0), sli0⟩)
    (ci0 : PySem.W.codeIn K cdi0 "Walker.__init__" = true)
    (fnI0 : PySem.W.isFn K (.ref fi) = true)
    (kpI0 : PySem.W.keepIn K (.ref fi) = true)
    (lT0 : K.lookup T0 = some ⟨.type "tuple", odT0, .seq #[.ref Z0, .str "N" tN] nT0, slT0⟩)
    (lZ0 : K.lookup Z0 = some ⟨.type "tuple", odZ0, .seq #[.int 0 tz1, .int 0 tz2] nZ0, slZ0⟩)
    (ata : PySem.W.findIn K (.ref C) "start" = some (some (.ref pa)))
    (gta : PySem.W.specialIn K (.ref pa) "__get__" = some (some (.builtin "property.__get__")))
    (tka : PySem.W.takesIn K (.ref pa) = some true)
    (rca : PySem.W.recIn K pa "property" = some (.ref qa :: rea))
    (lpa : K.lookup qa = some ⟨ocpa, odpa, .func (PySem.W.fnOf "start" "Walker.start" (defArgs s_Walker_start) (defBody s_Walker_start) (defScope s_Walker_start) .none kVpa dcpa pmpa anpa cdpa ctpa), slpa⟩)
    (cpa : PySem.W.codeIn K cdpa "Walker.start" = true)
    (kpa : PySem.W.keepIn K (.ref qa) = true)
    (atb : PySem.W.findIn K (.ref C) "period" = some (some (.ref pb)))
    (gtb : PySem.W.specialIn K (.ref pb) "__get__" = some (some (.builtin "property.__get__")))
    (tkb : PySem.W.takesIn K (.ref pb) = some true)
    (rcb : PySem.W.recIn K pb "property" = some (.ref qb :: reb))
    (lpb : K.lookup qb = some ⟨ocpb, odpb, .func (PySem.W.fnOf "period" "Walker.period" (defArgs s_Walker_period) (defBody s_Walker_period) (defScope s_Walker_period) .none kVpb dcpb pmpb anpb cdpb ctpb), slpb⟩)
    (cpb : PySem.W.codeIn K cdpb "Walker.period" = true)
    (kpb : PySem.W.keepIn K (.ref qb) = true)
    (atc : PySem.W.findIn K (.ref C) "drift" = some (some (.ref pc)))
    (gtc : PySem.W.specialIn K (.ref pc) "__get__" = some (some (.builtin "property.__get__")))
    (tkc : PySem.W.takesIn K (.ref pc) = some true)
    (rcc : PySem.W.recIn K pc "property" = some (.ref qc :: rec))
    (lpc : K.lookup qc = some ⟨ocpc, odpc, .func (PySem.W.fnOf "drift" "Walker.drift" (defArgs s_Walker_drift) (defBody s_Walker_drift) (defScope s_Walker_drift) .none kVpc dcpc pmpc anpc cdpc ctpc), slpc⟩)
    (cpc : PySem.W.codeIn K cdpc "Walker.drift" = true)
    (kpc : PySem.W.keepIn K (.ref qc) = true)
    (atd : PySem.W.findIn K (.ref C) "closed" = some (some (.ref pd)))
    (gtd : PySem.W.specialIn K (.ref pd) "__get__" = some (some (.builtin "property.__get__")))
    (tkd : PySem.W.takesIn K (.ref pd) = some true)
    (rcd : PySem.W.recIn K pd "property" = some (.ref qd :: red))
    (lpd : K.lookup qd = some ⟨ocpd, odpd, .func (PySem.W.fnOf "closed" "Walker.closed" (defArgs s_Walker_closed) (defBody s_Walker_closed) (defScope s_Walker_closed) .none kVpd dcpd pmpd anpd cdpd ctpd), slpd⟩)
    (cpd : PySem.W.codeIn K cdpd "Walker.closed" = true)
    (kpd : PySem.W.keepIn K (.ref qd) = true)
    (ati : PySem.W.findIn K (.ref C) "at" = some (some (.ref xi)))
    (fni : PySem.W.isFn K (.ref xi) = true)
    (lmi : K.lookup xi = some ⟨ocmi, odmi, .func (PySem.W.fnOf "at" "Walker.at" (defArgs s_Walker_at) (defBody s_Walker_at) (defScope s_Walker_at) .none kVmi dcmi pmmi anmi cdmi ctmi), slmi⟩)
    (cmi : PySem.W.codeIn K cdmi "Walker.at" = true)
    (kmi : PySem.W.keepIn K (.ref xi) = true)
    (atj : PySem.W.findIn K (.ref C) "times" = some (some (.ref xj)))
    (fnj : PySem.W.isFn K (.ref xj) = true)
    (lmj : K.lookup xj = some ⟨ocmj, odmj, .func (PySem.W.fnOf "times" "Walker.times" (defArgs s_Walker_times) (defBody s_Walker_times) (defScope s_Walker_times) .none kVmj dcmj pmmj anmj cdmj ctmj), slmj⟩)
    (cmj : PySem.W.codeIn K cdmj "Walker.times" = true)
    (kmj : PySem.W.keepIn K (.ref xj) = true)
    (aT : PySem.W.nsIn K mainGlobals "Times" = some (some (.ref Ct)))
    (tpg : PySem.W.plainGet K Ct Str.empty = true)
    (thd : PySem.W.hasDictIn K Ct = true)
    (tpo : PySem.W.plainOver K Ct = true)
    (tsa : PySem.W.findIn K (.ref Ct) "__setattr__" = some (some (.builtin "object.__setattr__")))
    (tha : PySem.W.findIn K (.ref Ct) "__class__" = some (some (.builtin "object.__class__")))
    (thn : PySem.W.specialIn K (.builtin "object.__class__") "__get__" = some (some (.builtin "getset_descriptor.__get__")))
    (ttk : PySem.W.takesIn K (.builtin "object.__class__") = some true)
    (tmo : PySem.W.mroIn K Ct (.type "object") = some true)
    (tn1 : PySem.W.findIn K (.ref Ct) "_numbers" = some none)
    (tn2 : PySem.W.findIn K (.ref Ct) "_pattern" = some none)
    (tiso : PySem.W.kitOne K (.ref Ct) (.ref Ct) = some true)
    (tisn : ((["NoneType", "bool", "int", "str", "list", "tuple", "dict"] : List String).all fun t => PySem.W.kitOne K (.type t) (.ref Ct) == some false) = true)
    (tnfc : PySem.W.notFirst K Ct (.ref Ct) = true)
    (tine : PySem.W.findIn K (.ref Ct) "__ne__" = some (some (.builtin "object.__ne__")))
    (tisu : PySem.W.subIn K (.ref Ct) (.type "object") = some true)
    (tmmk : PySem.W.makesIn K Ct = true)
    (tmkp : PySem.W.keepIn K (.ref Ct) = true)
    (tai : PySem.W.findIn K (.ref Ct) "__init__" = some (some (.ref ft)))
    (lt0 : K.lookup ft = some ⟨oct0, odt0, .func (PySem.W.fnOf "__init__" "Times.__init__" (defArgs s_Times___init__) (defBody s_Times___init__) (defScope s_Times___init__) .none (.ref D0) dct0 pmt0 ant0 cdt0 ctt0), slt0⟩)
    (ct0 : PySem.W.codeIn K cdt0 "Times.__init__" = true)
    (fnT0 : PySem.W.isFn K (.ref ft) = true)
    (dp : PySem.W.nsIn K D0 "period" = some (some (.int 1 tp)))
    (dm : PySem.W.nsIn K D0 "marks" = some (some (.ref T1)))
    (lT1 : K.lookup T1 = some ⟨.type "tuple", odT1, .seq #[] nT1, slT1⟩)
    (atta : PySem.W.findIn K (.ref Ct) "period" = some (some (.ref pta)))
    (gtta : PySem.W.specialIn K (.ref pta) "__get__" = some (some (.builtin "property.__get__")))
    (tkta : PySem.W.takesIn K (.ref pta) = some true)
    (rcta : PySem.W.recIn K pta "property" = some (.ref qta :: reta))
    (lpta : K.lookup qta = some ⟨ocpta, odpta, .func (PySem.W.fnOf "period" "Times.period" (defArgs s_Times_period) (defBody s_Times_period) (defScope s_Times_period) .none kVpta dcpta pmpta anpta cdpta ctpta), slpta⟩)
    (cpta : PySem.W.codeIn K cdpta "Times.period" = true)
    (kpta : PySem.W.keepIn K (.ref qta) = true)
    (attc : PySem.W.findIn K (.ref Ct) "numbers" = some (some (.ref ptc)))
    (gttc : PySem.W.specialIn K (.ref ptc) "__get__" = some (some (.builtin "property.__get__")))
    (tktc : PySem.W.takesIn K (.ref ptc) = some true)
    (rctc : PySem.W.recIn K ptc "property" = some (.ref qtc :: retc))
    (lptc : K.lookup qtc = some ⟨ocptc, odptc, .func (PySem.W.fnOf "numbers" "Times.numbers" (defArgs s_Times_numbers) (defBody s_Times_numbers) (defScope s_Times_numbers) .none kVptc dcptc pmptc anptc cdptc ctptc), slptc⟩)
    (cptc : PySem.W.codeIn K cdptc "Times.numbers" = true)
    (kptc : PySem.W.keepIn K (.ref qtc) = true)
    (attd : PySem.W.findIn K (.ref Ct) "first" = some (some (.ref ptd)))
    (gttd : PySem.W.specialIn K (.ref ptd) "__get__" = some (some (.builtin "property.__get__")))
    (tktd : PySem.W.takesIn K (.ref ptd) = some true)
    (rctd : PySem.W.recIn K ptd "property" = some (.ref qtd :: retd))
    (lptd : K.lookup qtd = some ⟨ocptd, odptd, .func (PySem.W.fnOf "first" "Times.first" (defArgs s_Times_first) (defBody s_Times_first) (defScope s_Times_first) .none kVptd dcptd pmptd anptd cdptd ctptd), slptd⟩)
    (cptd : PySem.W.codeIn K cdptd "Times.first" = true)
    (kptd : PySem.W.keepIn K (.ref qtd) = true)
    (atte : PySem.W.findIn K (.ref Ct) "endless" = some (some (.ref pte)))
    (gtte : PySem.W.specialIn K (.ref pte) "__get__" = some (some (.builtin "property.__get__")))
    (tkte : PySem.W.takesIn K (.ref pte) = some true)
    (rcte : PySem.W.recIn K pte "property" = some (.ref qte :: rete))
    (lpte : K.lookup qte = some ⟨ocpte, odpte, .func (PySem.W.fnOf "endless" "Times.endless" (defArgs s_Times_endless) (defBody s_Times_endless) (defScope s_Times_endless) .none kVpte dcpte pmpte anpte cdpte ctpte), slpte⟩)
    (cpte : PySem.W.codeIn K cdpte "Times.endless" = true)
    (kpte : PySem.W.keepIn K (.ref qte) = true)
    (attf : PySem.W.findIn K (.ref Ct) "many" = some (some (.ref ptf)))
    (gttf : PySem.W.specialIn K (.ref ptf) "__get__" = some (some (.builtin "property.__get__")))
    (tktf : PySem.W.takesIn K (.ref ptf) = some true)
    (rctf : PySem.W.recIn K ptf "property" = some (.ref qtf :: retf))
    (lptf : K.lookup qtf = some ⟨ocptf, odptf, .func (PySem.W.fnOf "many" "Times.many" (defArgs s_Times_many) (defBody s_Times_many) (defScope s_Times_many) .none kVptf dcptf pmptf anptf cdptf ctptf), slptf⟩)
    (cptf : PySem.W.codeIn K cdptf "Times.many" = true)
    (kptf : PySem.W.keepIn K (.ref qtf) = true)
    (atth : PySem.W.findIn K (.ref Ct) "_least_from" = some (some (.ref xth)))
    (fnth : PySem.W.isFn K (.ref xth) = true)
    (lmth : K.lookup xth = some ⟨ocmth, odmth, .func (PySem.W.fnOf "_least_from" "Times._least_from" (defArgs s_Times__least_from) (defBody s_Times__least_from) (defScope s_Times__least_from) .none kVmth dcmth pmmth anmth cdmth ctmth), slmth⟩)
    (cmth : PySem.W.codeIn K cdmth "Times._least_from" = true)
    (kmth : PySem.W.keepIn K (.ref xth) = true)
    (atti : PySem.W.findIn K (.ref Ct) "__contains__" = some (some (.ref xti)))
    (fnti : PySem.W.isFn K (.ref xti) = true)
    (lmti : K.lookup xti = some ⟨ocmti, odmti, .func (PySem.W.fnOf "__contains__" "Times.__contains__" (defArgs s_Times___contains__) (defBody s_Times___contains__) (defScope s_Times___contains__) .none kVmti dcmti pmmti anmti cdmti ctmti), slmti⟩)
    (cmti : PySem.W.codeIn K cdmti "Times.__contains__" = true)
    (kmti : PySem.W.keepIn K (.ref xti) = true)
    (attj : PySem.W.findIn K (.ref Ct) "__eq__" = some (some (.ref xtj)))
    (fntj : PySem.W.isFn K (.ref xtj) = true)
    (lmtj : K.lookup xtj = some ⟨ocmtj, odmtj, .func (PySem.W.fnOf "__eq__" "Times.__eq__" (defArgs s_Times___eq__) (defBody s_Times___eq__) (defScope s_Times___eq__) .none kVmtj dcmtj pmmtj anmtj cdmtj ctmtj), slmtj⟩)
    (cmtj : PySem.W.codeIn K cdmtj "Times.__eq__" = true)
    (kmtj : PySem.W.keepIn K (.ref xtj) = true)
    (attk : PySem.W.findIn K (.ref Ct) "__bool__" = some (some (.ref xtk)))
    (fntk : PySem.W.isFn K (.ref xtk) = true)
    (lmtk : K.lookup xtk = some ⟨ocmtk, odmtk, .func (PySem.W.fnOf "__bool__" "Times.__bool__" (defArgs s_Times___bool__) (defBody s_Times___bool__) (defScope s_Times___bool__) .none kVmtk dcmtk pmmtk anmtk cdmtk ctmtk), slmtk⟩)
    (cmtk : PySem.W.codeIn K cdmtk "Times.__bool__" = true)
    (kmtk : PySem.W.keepIn K (.ref xtk) = true)
    (g4 : PySem.W.nsIn K mainGlobals "MOST_PERIOD" = some (some (.int 1000 t4_)))
    (aTU : PySem.W.nsIn K mainGlobals "TURNS" = some (some (.ref qT)))
    (lTU : K.lookup qT = some ⟨.type "dict", none, .dict esT nT, #[]⟩)
    (kTU : PySem.W.KeysLit w.params esT.toList)
    (oTU : (qT == sysModules) = false)
    (tR : PySem.W.nsIn K qT "R" = some (some (.int 1 tt1)))
    (tB : PySem.W.nsIn K qT "B" = some (some (.int 2 tt2)))
    (tL : PySem.W.nsIn K qT "L" = some (some (.int 3 tt3)))
    (t1 : PySem.W.nsIn K qT "1" = some none)
    (t2 : PySem.W.nsIn K qT "2" = some none)
    (t3 : PySem.W.nsIn K qT "3" = some none)
    (t4 : PySem.W.nsIn K qT "4" = some none)
    (t5 : PySem.W.nsIn K qT "5" = some none)
    (t6 : PySem.W.nsIn K qT "6" = some none)
    (t7 : PySem.W.nsIn K qT "7" = some none)
    (t8 : PySem.W.nsIn K qT "8" = some none)
    (t9 : PySem.W.nsIn K qT "9" = some none)
    (aMO : PySem.W.nsIn K mainGlobals "MOVES" = some (some (.ref qM)))
    (lMO : K.lookup qM = some ⟨.type "dict", none, .dict esM nM, #[]⟩)
    (kMO : PySem.W.KeysLit w.params esM.toList)
    (oMO : (qM == sysModules) = false)
    (sMO : esM.toList.map keyS = (["N", "E", "S", "W"] : List Str))
    (mN : PySem.W.nsIn K qM "N" = some (some (.ref u0)))
    (uN : K.lookup u0 = some ⟨.type "tuple", odu0, .seq #[.int 0 tx0, .int 1 ty0] nu0, slu0⟩)
    (mE : PySem.W.nsIn K qM "E" = some (some (.ref u1)))
    (uE : K.lookup u1 = some ⟨.type "tuple", odu1, .seq #[.int 1 tx1, .int 0 ty1] nu1, slu1⟩)
    (mS : PySem.W.nsIn K qM "S" = some (some (.ref u2)))
    (uS : K.lookup u2 = some ⟨.type "tuple", odu2, .seq #[.int 0 tx2, .int (-1) ty2] nu2, slu2⟩)
    (mW_ : PySem.W.nsIn K qM "W" = some (some (.ref u3)))
    (uW : K.lookup u3 = some ⟨.type "tuple", odu3, .seq #[.int (-1) tx3, .int 0 ty3] nu3, slu3⟩)
    (gW : PySem.W.nsIn K mainGlobals "WAYS" = some (some (.str "NESW" tW)))
    (g1 : PySem.W.nsIn K mainGlobals "GREATEST" = some (some (.int 1000000000000000000000000000000 t1_)))
    (g2 : PySem.W.nsIn K mainGlobals "MOST_ORDERS" = some (some (.int 8 t2_)))
    (g3 : PySem.W.nsIn K mainGlobals "MOST_STEPS" = some (some (.int 9 t3_)))
    (z_isinstance : PySem.W.nsIn K mainGlobals "isinstance" = some none)
    (z_int : PySem.W.nsIn K mainGlobals "int" = some none)
    (z_bool : PySem.W.nsIn K mainGlobals "bool" = some none)
    (z_len : PySem.W.nsIn K mainGlobals "len" = some none)
    (z_tuple : PySem.W.nsIn K mainGlobals "tuple" = some none)
    (z_str : PySem.W.nsIn K mainGlobals "str" = some none)
    (z_list : PySem.W.nsIn K mainGlobals "list" = some none)
    (z_range : PySem.W.nsIn K mainGlobals "range" = some none)
    (z_abs : PySem.W.nsIn K mainGlobals "abs" = some none)
    (z_all : PySem.W.nsIn K mainGlobals "all" = some none)
    (z_any : PySem.W.nsIn K mainGlobals "any" = some none)
    (z_divmod : PySem.W.nsIn K mainGlobals "divmod" = some none)
    (z_enumerate : PySem.W.nsIn K mainGlobals "enumerate" = some none)
    (z_sorted : PySem.W.nsIn K mainGlobals "sorted" = some none)
    (z_sum : PySem.W.nsIn K mainGlobals "sum" = some none)
    (z_min : PySem.W.nsIn K mainGlobals "min" = some none)
    (z_max : PySem.W.nsIn K mainGlobals "max" = some none)
    (z_repr : PySem.W.nsIn K mainGlobals "repr" = some none) :
    ∃ fd : FuncData, (∀ (s : Shared) (v : Value), BindsTo s fd ⟨[v], []⟩ [("script", v)]) ∧ ∀ base : Heap, K.In base → base.Ns mainGlobals mg → FnG gd0 P w K mg base CX0 9 fa fd ["script"] (spLaw K) := by
  have e := hfa.symm.trans (PySem.W.mg_of X G aLL)
  cases e
  have FI := fun_mk (st := s_is_integer) lI cI kI
  have bI := FI.binds (ps := ["value"]) fun _ _ _ _ _ _ us hl => match us, hl with | [_], _ => rfl
  have mI := PySem.W.mg_of X G aI
  have FW := fun_mk (st := s_is_within) lW cW kW
  have bW := FW.binds (ps := ["value", "least", "most"]) fun _ _ _ _ _ _ us hl => match us, hl with | [_, _, _], _ => rfl
  have mW := PySem.W.mg_of X G aW
  have FPa := fun_mk (st := s_is_pair) lPa cPa kPa
  have bPa := FPa.binds (ps := ["value"]) fun _ _ _ _ _ _ us hl => match us, hl with | [_], _ => rfl
  have mPa := PySem.W.mg_of X G aPa
  have FSq := fun_mk (st := s_is_square) lSq cSq kSq
  have bSq := FSq.binds (ps := ["value"]) fun _ _ _ _ _ _ us hl => match us, hl with | [_], _ => rfl
  have mSq := PySem.W.mg_of X G aSq
  have FTi := fun_mk (st := s_is_time) lTi cTi kTi
  have bTi := FTi.binds (ps := ["value"]) fun _ _ _ _ _ _ us hl => match us, hl with | [_], _ => rfl
  have mTi := PySem.W.mg_of X G aTi
  have FOd := fun_mk (st := s_is_order) lOd cOd kOd
  have bOd := FOd.binds (ps := ["text"]) fun _ _ _ _ _ _ us hl => match us, hl with | [_], _ => rfl
  have mOd := PySem.W.mg_of X G aOd
  have FRo := fun_mk (st := s_is_row) lRo cRo kRo
  have bRo := FRo.binds (ps := ["value"]) fun _ _ _ _ _ _ us hl => match us, hl with | [_], _ => rfl
  have mRo := PySem.W.mg_of X G aRo
  have FWy := fun_mk (st := s_is_way) lWy cWy kWy
  have bWy := FWy.binds (ps := ["value"]) fun _ _ _ _ _ _ us hl => match us, hl with | [_], _ => rfl
  have mWy := PySem.W.mg_of X G aWy
  have FTu := fun_mk (st := s_turned_way) lTu cTu kTu
  have bTu := FTu.binds (ps := ["way", "turns"]) fun _ _ _ _ _ _ us hl => match us, hl with | [_, _], _ => rfl
  have mTu := PySem.W.mg_of X G aTu
  have FOn := fun_mk (st := s_one_run) lOn cOn kOn
  have bOn := FOn.binds (ps := ["row", "way"]) fun _ _ _ _ _ _ us hl => match us, hl with | [_, _], _ => rfl
  have mOn := PySem.W.mg_of X G aOn
  have FGo := fun_mk (st := s_ways_gone) lGo cGo kGo
  have bGo := FGo.binds (ps := ["row", "way"]) fun _ _ _ _ _ _ us hl => match us, hl with | [_, _], _ => rfl
  have mGo := PySem.W.mg_of X G aGo
  have FOf := fun_mk (st := s_offsets_along) lOf cOf kOf
  have bOf := FOf.binds (ps := ["ways"]) fun _ _ _ _ _ _ us hl => match us, hl with | [_], _ => rfl
  have mOf := PySem.W.mg_of X G aOf
  have FLa := fun_mk (st := s_lane_of) lLa cLa kLa
  have bLa := FLa.binds (ps := ["square", "drift"]) fun _ _ _ _ _ _ us hl => match us, hl with | [_, _], _ => rfl
  have mLa := PySem.W.mg_of X G aLa
  have FSi := fun_mk (st := s_square_in) lSi cSi kSi
  have bSi := FSi.binds (ps := ["lane", "place", "drift"]) fun _ _ _ _ _ _ us hl => match us, hl with | [_, _, _], _ => rfl
  have mSi := PySem.W.mg_of X G aSi
  have FLt := fun_mk (st := s_lanes_trodden) lLt cLt kLt
  have bLt := FLt.binds (ps := ["offsets", "drift"]) fun _ _ _ _ _ _ us hl => match us, hl with | [_, _], _ => rfl
  have mLt := PySem.W.mg_of X G aLt
  have FFs := fun_mk (st := s_from_start) lFs cFs kFs
  have bFs := FFs.binds (ps := ["walker", "offset"]) fun _ _ _ _ _ _ us hl => match us, hl with | [_, _], _ => rfl
  have mFs := PySem.W.mg_of X G aFs
  have FTs := fun_mk (st := s_to_start) lTs cTs kTs
  have bTs := FTs.binds (ps := ["walker", "square"]) fun _ _ _ _ _ _ us hl => match us, hl with | [_, _], _ => rfl
  have mTs := PySem.W.mg_of X G aTs
  have FSa := fun_mk (st := s_square_at) lSa cSa kSa
  have bSa := FSa.binds (ps := ["walker", "time"]) fun _ _ _ _ _ _ us hl => match us, hl with | [_, _], _ => rfl
  have mSa := PySem.W.mg_of X G aSa
  have FFu := fun_mk (st := s_first_unfit) lFu cFu kFu
  have bFu := FFu.binds (ps := ["row", "most"]) fun _ _ _ _ _ _ us hl => match us, hl with | [_, _], _ => rfl
  have mFu := PySem.W.mg_of X G aFu
  have FPl := fun_mk (st := s_place) lPl cPl kPl
  have bPl := FPl.binds (ps := ["row", "value"]) fun _ _ _ _ _ _ us hl => match us, hl with | [_, _], _ => rfl
  have mPl := PySem.W.mg_of X G aPl
  have FHo := fun_mk (st := s_holds) lHo cHo kHo
  have bHo := FHo.binds (ps := ["row", "value"]) fun _ _ _ _ _ _ us hl => match us, hl with | [_, _], _ => rfl
  have mHo := PySem.W.mg_of X G aHo
  have FPr := fun_mk (st := s_primes_of) lPr cPr kPr
  have bPr := FPr.binds (ps := ["number"]) fun _ _ _ _ _ _ us hl => match us, hl with | [_], _ => rfl
  have mPr := PySem.W.mg_of X G aPr
  have FRe := fun_mk (st := s_repeats) lRe cRe kRe
  have bRe := FRe.binds (ps := ["period", "marks", "parts"]) fun _ _ _ _ _ _ us hl => match us, hl with | [_, _, _], _ => rfl
  have mRe := PySem.W.mg_of X G aRe
  have FSh := fun_mk (st := s_shortest) lSh cSh kSh
  have bSh := FSh.binds (ps := ["period", "marks"]) fun _ _ _ _ _ _ us hl => match us, hl with | [_, _], _ => rfl
  have mSh := PySem.W.mg_of X G aSh
  have FMa := fun_mk (st := s_marked_from) lMa cMa kMa
  have bMa := FMa.binds (ps := ["period", "marks", "low"]) fun _ _ _ _ _ _ us hl => match us, hl with | [_, _, _], _ => rfl
  have mMa := PySem.W.mg_of X G aMa
  have FUn := fun_mk (st := s_unchecked) lUn cUn kUn
  have bUn := FUn.binds (ps := ["numbers", "period", "marks"]) fun _ _ _ _ _ _ us hl => match us, hl with | [_, _, _], _ => rfl
  have mUn := PySem.W.mg_of X G aUn
  have FLU := fun_mk (st := s__law_cup) lLU cLU kLU
  have bLU := FLU.binds (ps := ["script", "spot"]) fun _ _ _ _ _ _ us hl => match us, hl with | [_, _], _ => rfl
  have mLU := PySem.W.mg_of X G aLU
  have FLS := fun_mk (st := s__law_sip) lLS cLS kLS
  have bLS := FLS.binds (ps := ["cup", "many"]) fun _ _ _ _ _ _ us hl => match us, hl with | [_, _], _ => rfl
  have mLS := PySem.W.mg_of X G aLS
  have FLP := fun_mk (st := s__law_pick) lLP cLP kLP
  have bLP := FLP.binds (ps := ["cup", "things"]) fun _ _ _ _ _ _ us hl => match us, hl with | [_, _], _ => rfl
  have mLP := PySem.W.mg_of X G aLP
  have FLr := fun_mk (st := s__law_row) lLr cLr kLr
  have bLr := FLr.binds (ps := ["cup", "most", "longest"]) fun _ _ _ _ _ _ us hl => match us, hl with | [_, _, _], _ => rfl
  have mLr := PySem.W.mg_of X G aLr
  have FLb := fun_mk (st := s__law_start) lLb cLb kLb
  have bLb := FLb.binds (ps := ["cup"]) fun _ _ _ _ _ _ us hl => match us, hl with | [_], _ => rfl
  have mLb := PySem.W.mg_of X G aLb
  have FLw := fun_mk (st := s__law_steps) lLw cLw kLw
  have bLw := FLw.binds (ps := ["orders", "side", "many"]) fun _ _ _ _ _ _ us hl => match us, hl with | [_, _, _], _ => rfl
  have mLw := PySem.W.mg_of X G aLw
  have FLo := fun_mk (st := s__law_on) lLo cLo kLo
  have bLo := FLo.binds (ps := ["spot", "side", "many"]) fun _ _ _ _ _ _ us hl => match us, hl with | [_, _, _], _ => rfl
  have mLo := PySem.W.mg_of X G aLo
  have FLp := fun_mk (st := s__law_path) lLp cLp kLp
  have bLp := FLp.binds (ps := ["orders", "begin", "side", "many"]) fun _ _ _ _ _ _ us hl => match us, hl with | [_, _, _, _], _ => rfl
  have mLp := PySem.W.mg_of X G aLp
  have FLf := fun_mk (st := s__law_four) lLf cLf kLf
  have bLf := FLf.binds (ps := ["orders"]) fun _ _ _ _ _ _ us hl => match us, hl with | [_], _ => rfl
  have mLf := PySem.W.mg_of X G aLf
  have FLm := fun_mk (st := s__law_some) lLm cLm kLm
  have bLm := FLm.binds (ps := ["orders", "begin", "side"]) fun _ _ _ _ _ _ us hl => match us, hl with | [_, _, _], _ => rfl
  have mLm := PySem.W.mg_of X G aLm
  have FLv := fun_mk (st := s__law_when) lLv cLv kLv
  have bLv := FLv.binds (ps := ["some", "spot"]) fun _ _ _ _ _ _ us hl => match us, hl with | [_, _], _ => rfl
  have mLv := PySem.W.mg_of X G aLv
  have FLd := fun_mk (st := s__law_due) lLd cLd kLd
  have bLd := FLd.binds (ps := ["some", "spot"]) fun _ _ _ _ _ _ us hl => match us, hl with | [_, _], _ => rfl
  have mLd := PySem.W.mg_of X G aLd
  have FLq := fun_mk (st := s__law_spot) lLq cLq kLq
  have bLq := FLq.binds (ps := ["cup", "some"]) fun _ _ _ _ _ _ us hl => match us, hl with | [_, _], _ => rfl
  have mLq := PySem.W.mg_of X G aLq
  have FLR := fun_mk (st := s__law_right) lLR cLR kLR
  have bLR := FLR.binds (ps := ["cup"]) fun _ _ _ _ _ _ us hl => match us, hl with | [_], _ => rfl
  have mLR := PySem.W.mg_of X G aLR
  have FLL := fun_mk (st := s_law) lLL cLL kLL
  have bLL := FLL.binds (ps := ["script"]) fun _ _ _ _ _ _ us hl => match us, hl with | [_], _ => rfl
  have mLL := PySem.W.mg_of X G aLL
  have Fpa := fun_mk (st := s_Walker_start) lpa cpa kpa
  have bpa := Fpa.binds (ps := ["self"]) fun _ _ _ _ _ _ us hl => match us, hl with | [_], _ => rfl
  have Pa : PropOf K C "start" pa qa := ⟨ata, gta, tka, _, rca⟩
  have Fpb := fun_mk (st := s_Walker_period) lpb cpb kpb
  have bpb := Fpb.binds (ps := ["self"]) fun _ _ _ _ _ _ us hl => match us, hl with | [_], _ => rfl
  have Pb : PropOf K C "period" pb qb := ⟨atb, gtb, tkb, _, rcb⟩
  have Fpc := fun_mk (st := s_Walker_drift) lpc cpc kpc
  have bpc := Fpc.binds (ps := ["self"]) fun _ _ _ _ _ _ us hl => match us, hl with | [_], _ => rfl
  have Pc : PropOf K C "drift" pc qc := ⟨atc, gtc, tkc, _, rcc⟩
  have Fpd := fun_mk (st := s_Walker_closed) lpd cpd kpd
  have bpd := Fpd.binds (ps := ["self"]) fun _ _ _ _ _ _ us hl => match us, hl with | [_], _ => rfl
  have Pd : PropOf K C "closed" pd qd := ⟨atd, gtd, tkd, _, rcd⟩
  have Fmi := fun_mk (st := s_Walker_at) lmi cmi kmi
  have bmi := Fmi.binds (ps := ["self", "time"]) fun _ _ _ _ _ _ us hl => match us, hl with | [_, _], _ => rfl
  have Fmj := fun_mk (st := s_Walker_times) lmj cmj kmj
  have bmj := Fmj.binds (ps := ["self", "square"]) fun _ _ _ _ _ _ us hl => match us, hl with | [_, _], _ => rfl
  have Fpta := fun_mk (st := s_Times_period) lpta cpta kpta
  have bpta := Fpta.binds (ps := ["self"]) fun _ _ _ _ _ _ us hl => match us, hl with | [_], _ => rfl
  have Pta : PropOf K Ct "period" pta qta := ⟨atta, gtta, tkta, _, rcta⟩
  have Fptc := fun_mk (st := s_Times_numbers) lptc cptc kptc
  have bptc := Fptc.binds (ps := ["self"]) fun _ _ _ _ _ _ us hl => match us, hl with | [_], _ => rfl
  have Ptc : PropOf K Ct "numbers" ptc qtc := ⟨attc, gttc, tktc, _, rctc⟩
  have Fptd := fun_mk (st := s_Times_first) lptd cptd kptd
  have bptd := Fptd.binds (ps := ["self"]) fun _ _ _ _ _ _ us hl => match us, hl with | [_], _ => rfl
  have Ptd : PropOf K Ct "first" ptd qtd := ⟨attd, gttd, tktd, _, rctd⟩
  have Fpte := fun_mk (st := s_Times_endless) lpte cpte kpte
  have bpte := Fpte.binds (ps := ["self"]) fun _ _ _ _ _ _ us hl => match us, hl with | [_], _ => rfl
  have Pte : PropOf K Ct "endless" pte qte := ⟨atte, gtte, tkte, _, rcte⟩
  have Fptf := fun_mk (st := s_Times_many) lptf cptf kptf
  have bptf := Fptf.binds (ps := ["self"]) fun _ _ _ _ _ _ us hl => match us, hl with | [_], _ => rfl
  have Ptf : PropOf K Ct "many" ptf qtf := ⟨attf, gttf, tktf, _, rctf⟩
  have Fmth := fun_mk (st := s_Times__least_from) lmth cmth kmth
  have bmth := Fmth.binds (ps := ["self", "low"]) fun _ _ _ _ _ _ us hl => match us, hl with | [_, _], _ => rfl
  have Fmti := fun_mk (st := s_Times___contains__) lmti cmti kmti
  have bmti := Fmti.binds (ps := ["self", "number"]) fun _ _ _ _ _ _ us hl => match us, hl with | [_, _], _ => rfl
  have Fmtj := fun_mk (st := s_Times___eq__) lmtj cmtj kmtj
  have bmtj := Fmtj.binds (ps := ["self", "other"]) fun _ _ _ _ _ _ us hl => match us, hl with | [_, _], _ => rfl
  have Fmtk := fun_mk (st := s_Times___bool__) lmtk cmtk kmtk
  have bmtk := Fmtk.binds (ps := ["self"]) fun _ _ _ _ _ _ us hl => match us, hl with | [_], _ => rfl
  have y_isinstance := PySem.W.mg_none_of X G z_isinstance
  have y_int := PySem.W.mg_none_of X G z_int
  have y_bool := PySem.W.mg_none_of X G z_bool
  have y_len := PySem.W.mg_none_of X G z_len
  have y_tuple := PySem.W.mg_none_of X G z_tuple
  have y_str := PySem.W.mg_none_of X G z_str
  have y_list := PySem.W.mg_none_of X G z_list
  have y_range := PySem.W.mg_none_of X G z_range
  have y_abs := PySem.W.mg_none_of X G z_abs
  have y_all := PySem.W.mg_none_of X G z_all
  have y_any := PySem.W.mg_none_of X G z_any
  have y_divmod := PySem.W.mg_none_of X G z_divmod
  have y_enumerate := PySem.W.mg_none_of X G z_enumerate
  have y_sorted := PySem.W.mg_none_of X G z_sorted
  have y_sum := PySem.W.mg_none_of X G z_sum
  have y_min := PySem.W.mg_none_of X G z_min
  have y_max := PySem.W.mg_none_of X G z_max
  have y_repr := PySem.W.mg_none_of X G z_repr
  have cl : Cls K C := ⟨cpg, chd, cpo, csa⟩
  have W : WkC K C := ⟨cl, n_row, n_start, n_way, n_ways, n_offsets, n_drift, n_lanes⟩
  have N : Free mg := ⟨y_isinstance, y_int, y_bool, y_len, y_tuple, y_str, y_list, y_range, y_abs, y_all, y_any, y_divmod, y_enumerate, y_sorted⟩
  have eR : ("R" : Str) = tx [82] := by decide +kernel
  have eB : ("B" : Str) = tx [66] := by decide +kernel
  have eL : ("L" : Str) = tx [76] := by decide +kernel
  have eN : ("N" : Str) = tx [78] := by decide +kernel
  have eE : ("E" : Str) = tx [69] := by decide +kernel
  have eS : ("S" : Str) = tx [83] := by decide +kernel
  have eW : ("W" : Str) = tx [87] := by decide +kernel
  have eWs : ("NESW" : Str) = tx [78, 69, 83, 87] := by decide +kernel
  have hdig : ∀ n, 1 ≤ n → n ≤ 9 → PySem.W.nsIn K qT (tx [48 + n]) = some none := fun n h1 h2 => match n, h1, h2 with
    | 1, _, _ => (show ("1" : Str) = tx [48 + 1] by decide +kernel) ▸ t1
    | 2, _, _ => (show ("2" : Str) = tx [48 + 2] by decide +kernel) ▸ t2
    | 3, _, _ => (show ("3" : Str) = tx [48 + 3] by decide +kernel) ▸ t3
    | 4, _, _ => (show ("4" : Str) = tx [48 + 4] by decide +kernel) ▸ t4
    | 5, _, _ => (show ("5" : Str) = tx [48 + 5] by decide +kernel) ▸ t5
    | 6, _, _ => (show ("6" : Str) = tx [48 + 6] by decide +kernel) ▸ t6
    | 7, _, _ => (show ("7" : Str) = tx [48 + 7] by decide +kernel) ▸ t7
    | 8, _, _ => (show ("8" : Str) = tx [48 + 8] by decide +kernel) ▸ t8
    | 9, _, _ => (show ("9" : Str) = tx [48 + 9] by decide +kernel) ▸ t9
  have tup2 : ∀ {u : Addr} {od : Option Addr} {n : Nat} {sl : Array (Option Value)} {a b : Int} {t t' : Tok}, K.lookup u = some ⟨.type "tuple", od, .seq #[.int a t, .int b t'] n, sl⟩ → ∀ F, Rp K F (.ref u) (sq a b) := fun {u od n sl a b t t'} l F => by
    have h : SqT K F u [.int a, .int b] := .inr ⟨_, _, _, l, rfl, rfl, by show 2 ≤ sizeLine; decide, .cons ⟨_, rfl⟩ (.cons ⟨_, rfl⟩ .nil)⟩
    exact .tup h (.cons (.int _) (.cons (.int _) .nil))
  have hmv : ∀ a, a < 4 → ∃ u, PySem.W.nsIn K qM (tx [wc a]) = some (some (.ref u)) ∧ ∀ F, Rp K F (.ref u) (sq (mx a) (my a)) := fun a ha => match a, ha with
    | 0, _ => ⟨u0, eN ▸ mN, tup2 uN⟩
    | 1, _ => ⟨u1, eE ▸ mE, tup2 uE⟩
    | 2, _ => ⟨u2, eS ▸ mS, tup2 uS⟩
    | 3, _ => ⟨u3, eW ▸ mW_, tup2 uW⟩
  have T : Tbl K w mg := ⟨⟨qT, esT, nT, _, _, _, PySem.W.mg_of X G aTU, ⟨lTU, kTU, oTU⟩, eR ▸ tR, eB ▸ tB, eL ▸ tL, hdig⟩, ⟨qM, esM, nM, PySem.W.mg_of X G aMO, ⟨lMO, kMO, oMO⟩, by rw [sMO, eN, eE, eS, eW], hmv⟩, ⟨tW, eWs ▸ PySem.W.mg_of X G gW⟩, ⟨_, PySem.W.mg_of X G g1⟩, ⟨_, PySem.W.mg_of X G g2⟩, ⟨_, PySem.W.mg_of X G g3⟩⟩
  have mk0 : Mk K C fi := ⟨mmk, ai, fnI0, mkp⟩
  refine ⟨PySem.W.fnOf "law" "law" (defArgs s_law) (defBody s_law) (defScope s_law) .none kVLL dcLL pmLL anLL cdLL ctLL, fun s v => .of_eq rfl, fun base _ _ => ?_⟩
  have oI : FnG gd0 P w K mg base CX0 1 _ _ ["value"] (spR K RIsI) := ok_isI FI y_isinstance y_int y_bool
  have dI : Df gd0 P w K mg base 1 "is_integer" ["value"] (spR K RIsI) := ⟨_, _, oI, mI, kI, bI⟩
  have dW : Df gd0 P w K mg base 2 "is_within" ["value", "least", "most"] (spR K RIsW) := ⟨_, _, ok_isW FW oI mI kI bI, mW, kW, bW⟩
  have dPa : Df gd0 P w K mg base 2 "is_pair" ["value"] (spR K RPair) := ⟨_, _, ok_isPair FPa N dI, mPa, kPa, bPa⟩
  have dSq : Df gd0 P w K mg base 3 "is_square" ["value"] (spR K RSq) := ⟨_, _, ok_isSquare FSq N T dPa, mSq, kSq, bSq⟩
  have dTi : Df gd0 P w K mg base 3 "is_time" ["value"] (spR K RTime) := ⟨_, _, ok_isTime FTi T dW, mTi, kTi, bTi⟩
  have dOd : Df gd0 P w K mg base 1 "is_order" ["text"] (spR K ROrd) := ⟨_, _, ok_isOrder FOd N T, mOd, kOd, bOd⟩
  have dRo : Df gd0 P w K mg base 2 "is_row" ["value"] (spR K RRow) := ⟨_, _, ok_isRow FRo N T dOd, mRo, kRo, bRo⟩
  have dWy : Df gd0 P w K mg base 1 "is_way" ["value"] (spR K RWay) := ⟨_, _, ok_isWay FWy N T, mWy, kWy, bWy⟩
  have dTu : Df gd0 P w K mg base 1 "turned_way" ["way", "turns"] (spR K RTurn) := ⟨_, _, ok_turned FTu N T, mTu, kTu, bTu⟩
  have dOn : Df gd0 P w K mg base 2 "one_run" ["row", "way"] (spR K RRun) := ⟨_, _, ok_oneRun FOn N T dTu, mOn, kOn, bOn⟩
  have dGo : Df gd0 P w K mg base 3 "ways_gone" ["row", "way"] (spR K RGone) := ⟨_, _, ok_gone FGo N dOn, mGo, kGo, bGo⟩
  have dOf : Df gd0 P w K mg base 1 "offsets_along" ["ways"] (spR K ROff) := ⟨_, _, ok_offsets FOf T, mOf, kOf, bOf⟩
  have dLa : Df gd0 P w K mg base 1 "lane_of" ["square", "drift"] (spR K RLane) := ⟨_, _, ok_laneOf FLa, mLa, kLa, bLa⟩
  have dSi : Df gd0 P w K mg base 1 "square_in" ["lane", "place", "drift"] (spR K RSqIn) := ⟨_, _, ok_squareIn FSi, mSi, kSi, bSi⟩
  have dLt : Df gd0 P w K mg base 2 "lanes_trodden" ["offsets", "drift"] (spR K RLns) := ⟨_, _, ok_lanes FLt N dLa, mLt, kLt, bLt⟩
  have PS : Pf gd0 P w K mg base C 1 "start" (RW C fun l x y a p => sq x y) := ⟨_, _, _, Pa, ok_wStart Fpa W, bpa⟩
  have PP : Pf gd0 P w K mg base C 1 "period" (RW C fun l x y a p => .int (p : Nat)) := ⟨_, _, _, Pb, ok_wPeriod Fpb W N, bpb⟩
  have PD : Pf gd0 P w K mg base C 1 "drift" (RW C fun l x y a p => sq (px (way l a) p) (py (way l a) p)) := ⟨_, _, _, Pc, ok_wDrift Fpc W, bpc⟩
  have dFs : Df gd0 P w K mg base 3 "from_start" ["walker", "offset"] (spR K (RFrom C)) := ⟨_, _, ok_from FFs W PS, mFs, kFs, bFs⟩
  have dSa : Df gd0 P w K mg base 4 "square_at" ["walker", "time"] (spR K (RAt C)) := ⟨_, _, ok_squareAt FSa W N PP PD dFs dSi, mSa, kSa, bSa⟩
  have FI0 : FunD K "__init__" "Walker.__init__" (defArgs s_Walker___init__) (defBody s_Walker___init__) (defScope s_Walker___init__) [.ref Z0, .str "N"] [] fi _ := ⟨⟨_, _, _, _, _, _, _, _, _, _, rfl, li0, ci0, .inr ⟨by simp, T0, _, [.ref Z0, .str "N" tN], _, rfl, lT0, rfl, .cons rfl (.cons ⟨_, rfl⟩ .nil)⟩, .inl rfl⟩, kpI0⟩
  have oIn : FnG gd0 P w K mg base CX0 4 _ _ ["self", "row", "start", "way"] (spIn K C RWIni) := ok_wIni FI0 W dRo dSq dWy dGo dOf dLt
  have rT : Vals [.ref Z0, .str "N"] [.ref Z0, .str "N" tN] := .cons rfl (.cons ⟨_, rfl⟩ .nil)
  have rD : ∀ F, Rps K F [.ref Z0, .str "N"] dflD := fun F => .cons (tup2 lZ0 F) (.cons (eN ▸ .str _) .nil)
  have iA : InS gd0 P w K mg base 4 fi [] (spI K C fun ds kd fl => ds.length = 3 ∧ RWIni (gA ds dflD kd) fl) := inS_of (n := 3) (ks := []) (dd := dflD) oIn gA lT0 rfl rT rD (fun r _ _ => r) (fun r _ _ => r) fun x us ws h1 h2 => match us, ws, h1, h2 with | [_, _, _], [], _, _ => ⟨_, rfl, rfl⟩
  have iB : InS gd0 P w K mg base 4 fi [] (spI K C fun ds kd fl => ds.length = 1 ∧ RWIni (gB ds dflD kd) fl) := inS_of (n := 1) (ks := []) (dd := dflD) oIn gB lT0 rfl rT rD (fun r q _ => r.append q) (fun r q _ => Rps.append r q) fun x us ws h1 h2 => match us, ws, h1, h2 with | [_], [], _, _ => ⟨_, rfl, rfl⟩
  have iC : InS gd0 P w K mg base 4 fi ["way"] (spI K C fun ds kd fl => ds.length = 1 ∧ RWIni (gC ds dflD kd) fl) := inS_of (n := 1) (ks := ["way"]) (dd := dflD) oIn gC lT0 rfl rT rD (fun r q s => r.append ((q.take 1).append s)) (fun r q s => Rps.append r (Rps.append (Rps.take 1 q) s)) fun x us ws h1 h2 => match us, ws, h1, h2 with | [_], [_], _, _ => ⟨_, rfl, rfl⟩
  have mAt : Mk1 gd0 P w K mg base C 5 "at" "time" (RAt C) := ⟨_, _, ⟨ati, fni, kmi⟩, ok_at Fmi dTi dSa, bmi, fun s x u _ => .of_eq rfl⟩
  have cT : Cls K Ct := ⟨tpg, thd, tpo, tsa⟩
  have ck : ClsK K Ct := ⟨cT, tha, thn, ttk, tmo⟩
  have ic : IsC K Ct := ⟨tiso, fun t ht => by
    have z := List.all_eq_true.mp tisn t ht
    simpa using z⟩
  have glT := PySem.W.mg_of X G aT
  have hml : Meth K Ct "_least_from" xth := ⟨atth, fnth, kmth⟩
  have mkT : Mk K Ct ft := ⟨tmmk, tai, fnT0, tmkp⟩
  have dfl : Dfl K D0 T1 tp := ⟨dp, dm, fun F => .inr ⟨_, _, _, lT1, rfl, rfl, by decide, .nil⟩⟩
  have oW : FnG gd0 P w K mg base CX0 2 _ _ ["value", "least", "most"] (spR K RIsW) := ok_isW FW oI mI kI bI
  have oFu : FnG gd0 P w K mg base CX0 3 _ _ ["row", "most"] (spR K RFu) := ok_unfit FFu oW mW kW bW y_enumerate
  have oPl : FnG gd0 P w K mg base CX0 1 _ _ ["row", "value"] (spR K RPla) := ok_place FPl y_len
  have oHo : FnG gd0 P w K mg base CX0 2 _ _ ["row", "value"] (spR K RHol) := ok_holds FHo oPl mPl kPl bPl y_len
  have oPr : FnG gd0 P w K mg base CX0 1 _ _ ["number"] (spE K GPri RPri) := ok_primes FPr
  have oRe : FnG gd0 P w K mg base CX0 1 _ _ ["period", "marks", "parts"] (spR K RRep) := ok_repeats FRe y_len y_list
  have oSh : FnG gd0 P w K mg base CX0 2 _ _ ["period", "marks"] (spR K RSho) := ok_shortest FSh oPr mPr kPr bPr oRe mRe kRe bRe y_len
  have oMa : FnG gd0 P w K mg base CX0 2 _ _ ["period", "marks", "low"] (spR K RMar) := ok_marked FMa oPl mPl kPl bPl y_len y_divmod
  have oLs : FnG gd0 P w K mg base CX0 3 _ _ ["self", "low"] (spR K (RLst Ct)) := ok_least Fmth cT tn1 tn2 oPl mPl kPl bPl oMa mMa kMa bMa y_len
  have ini : IniEnv gd0 P w K mg base Ct := ⟨⟨_, _, oFu, mFu, kFu, bFu⟩, ⟨_, _, oW, mW, kW, bW⟩, ⟨_, _, oSh, mSh, kSh, bSh⟩, cT, tn1, tn2, ⟨_, PySem.W.mg_of X G g1⟩, ⟨_, PySem.W.mg_of X G g4⟩, y_isinstance, y_tuple, y_int⟩
  have iPM := ini_PM ini lt0 ct0
  have i0 := ini_0 ini dfl lt0 ct0
  have dUn : Df gd0 P w K mg base 6 "unchecked" ["numbers", "period", "marks"] (spR K (RUn Ct)) := ⟨_, _, ok_unchecked FUn cT tn1 tn2 mkT i0 glT oSh mSh kSh bSh, mUn, kUn, bUn⟩
  have PC : Pf gd0 P w K mg base C 1 "closed" (RW C fun l x y a p => .bl (decide (px (way l a) p = 0 ∧ py (way l a) p = 0))) := ⟨_, _, _, Pd, ok_wClosed Fpd W, bpd⟩
  have dTs : Df gd0 P w K mg base 3 "to_start" ["walker", "square"] (spR K (RToSt C)) := ⟨_, _, ok_toStart FTs W PS, mTs, kTs, bTs⟩
  have mTm : Mk1 gd0 P w K mg base C 7 "times" "square" (RTimes C Ct) := ⟨_, _, ⟨atj, fnj, kmj⟩, ok_wTimes Fmj W N dSq dLa dTs PC dUn, bmj, fun s x u _ => .of_eq rfl⟩
  have oLS : FnG gd0 P w K mg base CX0 1 _ _ ["cup", "many"] (spC K GSip RSip) := ok_sip FLS y_int y_divmod
  have dLS : Df gd0 P w K mg base 1 "_law_sip" ["cup", "many"] (spC K GSip RSip) := ⟨_, _, oLS, mLS, kLS, bLS⟩
  have dLP : Df gd0 P w K mg base 2 "_law_pick" ["cup", "things"] (spC K GPick RPick) := ⟨_, _, ok_pick FLP oLS mLS kLS bLS y_len, mLP, kLP, bLP⟩
  have dLr : Df gd0 P w K mg base 2 "_law_row" ["cup", "most", "longest"] (spC K GLRow RLRow) := ⟨_, _, ok_lrow FLr N dLS, mLr, kLr, bLr⟩
  have dLb : Df gd0 P w K mg base 3 "_law_start" ["cup"] (spC K G00 RLStart) := ⟨_, _, ok_lstart FLb dLS dLP, mLb, kLb, bLb⟩
  have dLw : Df gd0 P w K mg base 1 "_law_steps" ["orders", "side", "many"] (spR K RLSteps) := ⟨_, _, ok_lsteps FLw N, mLw, kLw, bLw⟩
  have dLo : Df gd0 P w K mg base 1 "_law_on" ["spot", "side", "many"] (spR K RLOn) := ⟨_, _, ok_lon FLo, mLo, kLo, bLo⟩
  have dLp : Df gd0 P w K mg base 2 "_law_path" ["orders", "begin", "side", "many"] (spR K RLPath) := ⟨_, _, ok_lpath FLp dLw dLo, mLp, kLp, bLp⟩
  have dLf : Df gd0 P w K mg base 1 "_law_four" ["orders"] (spR K RLFour) := ⟨_, _, ok_lfour FLf N y_sum, mLf, kLf, bLf⟩
  have dLm : Df gd0 P w K mg base 3 "_law_some" ["orders", "begin", "side"] (spR K RLSome) := ⟨_, _, ok_lsome FLm dLp dLf, mLm, kLm, bLm⟩
  have dLv : Df gd0 P w K mg base 1 "_law_when" ["some", "spot"] (spR K RWhen) := ⟨_, _, ok_when FLv N, mLv, kLv, bLv⟩
  have dLd : Df gd0 P w K mg base 2 "_law_due" ["some", "spot"] (spR K RDue) := ⟨_, _, ok_due FLd N dLv, mLd, kLd, bLd⟩
  have dLq : Df gd0 P w K mg base 3 "_law_spot" ["cup", "some"] (spC K GSpot RSpot) := ⟨_, _, ok_spot FLq N y_max dLS dLP, mLq, kLq, bLq⟩
  have Q : Q14 P w K mg base C Ct := ⟨cl, cT, ck, PySem.W.mg_of X G aC, dLr, dLb, dLP, dLm, dLq, dLd, ⟨_, mk0, iA⟩, mTm, mAt, ⟨_, _, _, Pta, ok_period Fpta cT tn1 tn2, bpta⟩, ⟨_, _, _, Ptc, ok_numbers Fptc cT tn1 tn2, bptc⟩, ⟨_, _, _, Pte, ok_endless Fpte cT tn1 tn2 y_len, bpte⟩, ⟨_, _, _, Ptf, ok_many Fptf cT tn1 tn2 y_len, bptf⟩, ⟨_, _, _, Ptd, ok_first Fptd cT hml oLs bmth, bptd⟩, ⟨_, _, ok_contains Fmti cT tn1 tn2 oI mI kI bI oHo mHo kHo bHo, bmti, atti, fnti⟩, ⟨_, _, ok_bool Fmtk cT tn1 tn2 y_bool, bmtk, attk, fntk⟩, ⟨_, _, ok_eq Fmtj ck tn1 tn2 ic glT y_isinstance, bmtj, ⟨tine, tisu, attj, fntj⟩⟩, tnfc, N, y_repr⟩
  exact ok_law14 FLL ⟨_, _, ok_cup FLU y_int y_abs y_len, mLU, kLU, bLU⟩ ⟨_, _, ok_right14 FLR Q, mLR, kLR, bLR⟩ Q ⟨_, mk0, iB, iC⟩ ⟨_, mkT, i0, iPM⟩ glT y_max y_min
end
end K2
set_option Elab.async false
set_option linter.all false
set_option maxRecDepth 100000
set_option maxHeartbeats 4000000
namespace K2
open PySem PySem.W PyProof.Rows
open L2 Vd
theorem hwalk {l : PySem.W.OpenLaw} {k : Nat} {q : Program} {loose : List Str} {XP : (Str → Option Value) → Heap → Prop} {YP : World → Heap → Prop} {d : DefRec} {K : World → PySem.W.Frag} {x : Str}
    (hn : l.most = some 63) (hdf : d.params.defaults = []) (hr : Room k callerA) (hY : ∀ (w : World) (h : Heap), YP w h → (K w).In h)
    (F : ∀ (w : World) (mg : Str → Option Value) (fa : Addr) (h : Heap), (K w).In h → h.Ns mainGlobals mg → mg d.name = some (.ref fa) →
      ∃ fd : FuncData, (∀ (s : Shared) (u : Value), BindsTo s fd ⟨[u], []⟩ [(x, u)]) ∧ ∀ base : Heap, (K w).In base → base.Ns mainGlobals mg → FnG gd0 l.prog w (K w) mg base CX0 k fa fd [x] (spLaw (K w))) :
    PySem.W.WalkO q loose XP YP l.row.toRowW d [] (fun f vs => PySem.call f vs) := by
  refine Att.attach_call hn hdf fun w s0 s1 mg mb fa o pm cd doc a vs ns G Y ho hd hcd hmg hobj hints hlen hg => ?_
  have KX := hY w _ Y
  obtain ⟨fd, hb, hF⟩ := F w mg fa _ KX G.T.g hmg
  refine law_callG KX G.T.g G.T.b G.T.builtins G.T.nolimit hg hobj hints (Nat.le_trans hlen (by decide)) hr hF hb fun H hO hS => ?_
  exact ⟨H, a, ns, rfl, ⟨Evl.Ex.refl H, fun b u z => nomatch z⟩, hS, hlen, fun _ => rfl⟩
theorem hend {w : World} {K : PySem.W.Frag} {mg : Str → Option Value} {fa : Addr} {h : Heap} (KX : K.In h) (G : h.Ns mainGlobals mg) (hmg : mg "law" = some (.ref fa)) (H : HF w K) : ∃ fd : FuncData, (∀ (s : Shared) (u : Value), BindsTo s fd ⟨[u], []⟩ [("script", u)]) ∧ ∀ base : Heap, K.In base → base.Ns mainGlobals mg → FnG gd0 PySem.Challenge.pw_evertreads_k14_whole_times_on_a_square w K mg base CX0 9 fa fd ["script"] (spLaw K) := by
  have hh_0 : HF0 w K := H.1
  have hh_1 : HF1 w K := H.2.1
  have hh_2 : HF2 w K := H.2.2.1
  have hh_3 : HF3 w K := H.2.2.2.1
  have hh_4 : HF4 w K := H.2.2.2.2.1
  have hh_5 : HF5 w K := H.2.2.2.2.2.1
  have hh_6 : HF6 w K := H.2.2.2.2.2.2.1
  have hh_7 : HF7 w K := H.2.2.2.2.2.2.2.1
  have hh_8 : HF8 w K := H.2.2.2.2.2.2.2.2.1
  have hh_9 : HF9 w K := H.2.2.2.2.2.2.2.2.2.1
  have hh_10 : HF10 w K := H.2.2.2.2.2.2.2.2.2.2.1
  have hh_11 : HF11 w K := H.2.2.2.2.2.2.2.2.2.2.2
  refine' all_mk14 (K := K) KX G hmg ?aI ?lI ?cI ?kI ?aW ?lW ?cW ?kW ?aPa ?lPa ?cPa ?kPa ?aSq ?lSq ?cSq ?kSq ?aTi ?lTi ?cTi ?kTi ?aOd ?lOd ?cOd ?kOd ?aRo ?lRo ?cRo ?kRo ?aWy ?lWy ?cWy ?kWy ?aTu ?lTu ?cTu ?kTu ?aOn ?lOn ?cOn ?kOn ?aGo ?lGo ?cGo ?kGo ?aOf ?lOf ?cOf ?kOf ?aLa ?lLa ?cLa ?kLa ?aSi ?lSi ?cSi ?kSi ?aLt ?lLt ?cLt ?kLt ?aFs ?lFs ?cFs ?kFs ?aTs ?lTs ?cTs ?kTs ?aSa ?lSa ?cSa ?kSa ?aFu ?lFu ?cFu ?kFu ?aPl ?lPl ?cPl ?kPl ?aHo ?lHo ?cHo ?kHo ?aPr ?lPr ?cPr ?kPr ?aRe ?lRe ?cRe ?kRe ?aSh ?lSh ?cSh ?kSh ?aMa ?lMa ?cMa ?kMa ?aUn ?lUn ?cUn ?kUn ?aLU ?lLU ?cLU ?kLU ?aLS ?lLS ?cLS ?kLS ?aLP ?lLP ?cLP ?kLP ?aLr ?lLr ?cLr ?kLr ?aLb ?lLb ?cLb ?kLb ?aLw ?lLw ?cLw ?kLw ?aLo ?lLo ?cLo ?kLo ?aLp ?lLp ?cLp ?kLp ?aLf ?lLf ?cLf ?kLf ?aLm ?lLm ?cLm ?kLm ?aLv ?lLv ?cLv ?kLv ?aLd ?lLd ?cLd ?kLd ?aLq ?lLq ?cLq ?kLq ?aLR ?lLR ?cLR ?kLR ?aLL ?lLL ?cLL ?kLL ?aC ?cpg ?chd ?cpo ?csa ?n_row ?n_start ?n_way ?n_ways ?n_offsets ?n_drift ?n_lanes ?mmk ?mkp ?ai ?li0 ?ci0 ?fnI0 ?kpI0 ?lT0 ?lZ0 ?ata ?gta ?tka ?rca ?lpa ?cpa ?kpa ?atb ?gtb ?tkb ?rcb ?lpb ?cpb ?kpb ?atc ?gtc ?tkc ?rcc ?lpc ?cpc ?kpc ?atd ?gtd ?tkd ?rcd ?lpd ?cpd ?kpd ?ati ?fni ?lmi ?cmi ?kmi ?atj ?fnj ?lmj ?cmj ?kmj ?aT ?tpg ?thd ?tpo ?tsa ?tha ?thn ?ttk ?tmo ?tn1 ?tn2 ?tiso ?tisn ?tnfc ?tine ?tisu ?tmmk ?tmkp ?tai ?lt0 ?ct0 ?fnT0 ?dp ?dm ?lT1 ?atta ?gtta ?tkta ?rcta ?lpta ?cpta ?kpta ?attc ?gttc ?tktc ?rctc ?lptc ?cptc ?kptc ?attd ?gttd ?tktd ?rctd ?lptd ?cptd ?kptd ?atte ?gtte ?tkte ?rcte ?lpte ?cpte ?kpte ?attf ?gttf ?tktf ?rctf ?lptf ?cptf ?kptf ?atth ?fnth ?lmth ?cmth ?kmth ?atti ?fnti ?lmti ?cmti ?kmti ?attj ?fntj ?lmtj ?cmtj ?kmtj ?attk ?fntk ?lmtk ?cmtk ?kmtk ?g4 ?aTU ?lTU ?kTU ?oTU ?tR ?tB ?tL ?t1 ?t2 ?t3 ?t4 ?t5 ?t6 ?t7 ?t8 ?t9 ?aMO ?lMO ?kMO ?oMO ?sMO ?mN ?uN ?mE ?uE ?mS ?uS ?mW_ ?uW ?gW ?g1 ?g2 ?g3 ?z_isinstance ?z_int ?z_bool ?z_len ?z_tuple ?z_str ?z_list ?z_range ?z_abs ?z_all ?z_any ?z_divmod ?z_enumerate ?z_sorted ?z_sum ?z_min ?z_max ?z_repr
  (case aI => exact hh_0.1)
  (case lI => exact hh_0.2.1)
  (case cI => exact hh_0.2.2.1)
  (case kI => exact hh_0.2.2.2.1)
  (case aW => exact hh_0.2.2.2.2.1)
  (case lW => exact hh_0.2.2.2.2.2.1)
  (case cW => exact hh_0.2.2.2.2.2.2.1)
  (case kW => exact hh_0.2.2.2.2.2.2.2.1)
  (case aPa => exact hh_0.2.2.2.2.2.2.2.2.1)
  (case lPa => exact hh_0.2.2.2.2.2.2.2.2.2.1)
  (case cPa => exact hh_0.2.2.2.2.2.2.2.2.2.2.1)
  (case kPa => exact hh_0.2.2.2.2.2.2.2.2.2.2.2.1)
  (case aSq => exact hh_0.2.2.2.2.2.2.2.2.2.2.2.2.1)
  (case lSq => exact hh_0.2.2.2.2.2.2.2.2.2.2.2.2.2.1)
  (case cSq => exact hh_0.2.2.2.2.2.2.2.2.2.2.2.2.2.2.1)
  (case kSq => exact hh_0.2.2.2.2.2.2.2.2.2.2.2.2.2.2.2.1)
  (case aTi => exact hh_0.2.2.2.2.2.2.2.2.2.2.2.2.2.2.2.2.1)
  (case lTi => exact hh_0.2.2.2.2.2.2.2.2.2.2.2.2.2.2.2.2.2.1)
  (case cTi => exact hh_0.2.2.2.2.2.2.2.2.2.2.2.2.2.2.2.2.2.2.1)
  (case kTi => exact hh_0.2.2.2.2.2.2.2.2.2.2.2.2.2.2.2.2.2.2.2.1)
  (case aOd => exact hh_0.2.2.2.2.2.2.2.2.2.2.2.2.2.2.2.2.2.2.2.2.1)
  (case lOd => exact hh_0.2.2.2.2.2.2.2.2.2.2.2.2.2.2.2.2.2.2.2.2.2.1)
  (case cOd => exact hh_0.2.2.2.2.2.2.2.2.2.2.2.2.2.2.2.2.2.2.2.2.2.2.1)
  (case kOd => exact hh_0.2.2.2.2.2.2.2.2.2.2.2.2.2.2.2.2.2.2.2.2.2.2.2.1)
  (case aRo => exact hh_0.2.2.2.2.2.2.2.2.2.2.2.2.2.2.2.2.2.2.2.2.2.2.2.2.1)
  (case lRo => exact hh_0.2.2.2.2.2.2.2.2.2.2.2.2.2.2.2.2.2.2.2.2.2.2.2.2.2.1)
  (case cRo => exact hh_0.2.2.2.2.2.2.2.2.2.2.2.2.2.2.2.2.2.2.2.2.2.2.2.2.2.2.1)
  (case kRo => exact hh_0.2.2.2.2.2.2.2.2.2.2.2.2.2.2.2.2.2.2.2.2.2.2.2.2.2.2.2.1)
  (case aWy => exact hh_0.2.2.2.2.2.2.2.2.2.2.2.2.2.2.2.2.2.2.2.2.2.2.2.2.2.2.2.2.1)
  (case lWy => exact hh_0.2.2.2.2.2.2.2.2.2.2.2.2.2.2.2.2.2.2.2.2.2.2.2.2.2.2.2.2.2)
  (case cWy => exact hh_1.1)
  (case kWy => exact hh_1.2.1)
  (case aTu => exact hh_1.2.2.1)
  (case lTu => exact hh_1.2.2.2.1)
  (case cTu => exact hh_1.2.2.2.2.1)
  (case kTu => exact hh_1.2.2.2.2.2.1)
  (case aOn => exact hh_1.2.2.2.2.2.2.1)
  (case lOn => exact hh_1.2.2.2.2.2.2.2.1)
  (case cOn => exact hh_1.2.2.2.2.2.2.2.2.1)
  (case kOn => exact hh_1.2.2.2.2.2.2.2.2.2.1)
  (case aGo => exact hh_1.2.2.2.2.2.2.2.2.2.2.1)
  (case lGo => exact hh_1.2.2.2.2.2.2.2.2.2.2.2.1)
  (case cGo => exact hh_1.2.2.2.2.2.2.2.2.2.2.2.2.1)
  (case kGo => exact hh_1.2.2.2.2.2.2.2.2.2.2.2.2.2.1)
  (case aOf => exact hh_1.2.2.2.2.2.2.2.2.2.2.2.2.2.2.1)
  (case lOf => exact hh_1.2.2.2.2.2.2.2.2.2.2.2.2.2.2.2.1)
  (case cOf => exact hh_1.2.2.2.2.2.2.2.2.2.2.2.2.2.2.2.2.1)
  (case kOf => exact hh_1.2.2.2.2.2.2.2.2.2.2.2.2.2.2.2.2.2.1)
  (case aLa => exact hh_1.2.2.2.2.2.2.2.2.2.2.2.2.2.2.2.2.2.2.1)
  (case lLa => exact hh_1.2.2.2.2.2.2.2.2.2.2.2.2.2.2.2.2.2.2.2.1)
  (case cLa => exact hh_1.2.2.2.2.2.2.2.2.2.2.2.2.2.2.2.2.2.2.2.2.1)
  (case kLa => exact hh_1.2.2.2.2.2.2.2.2.2.2.2.2.2.2.2.2.2.2.2.2.2.1)
  (case aSi => exact hh_1.2.2.2.2.2.2.2.2.2.2.2.2.2.2.2.2.2.2.2.2.2.2.1)
  (case lSi => exact hh_1.2.2.2.2.2.2.2.2.2.2.2.2.2.2.2.2.2.2.2.2.2.2.2.1)
  (case cSi => exact hh_1.2.2.2.2.2.2.2.2.2.2.2.2.2.2.2.2.2.2.2.2.2.2.2.2.1)
  (case kSi => exact hh_1.2.2.2.2.2.2.2.2.2.2.2.2.2.2.2.2.2.2.2.2.2.2.2.2.2.1)
  (case aLt => exact hh_1.2.2.2.2.2.2.2.2.2.2.2.2.2.2.2.2.2.2.2.2.2.2.2.2.2.2.1)
  (case lLt => exact hh_1.2.2.2.2.2.2.2.2.2.2.2.2.2.2.2.2.2.2.2.2.2.2.2.2.2.2.2.1)
  (case cLt => exact hh_1.2.2.2.2.2.2.2.2.2.2.2.2.2.2.2.2.2.2.2.2.2.2.2.2.2.2.2.2.1)
  (case kLt => exact hh_1.2.2.2.2.2.2.2.2.2.2.2.2.2.2.2.2.2.2.2.2.2.2.2.2.2.2.2.2.2)
  (case aFs => exact hh_2.1)
  (case lFs => exact hh_2.2.1)
  (case cFs => exact hh_2.2.2.1)
  (case kFs => exact hh_2.2.2.2.1)
  (case aTs => exact hh_2.2.2.2.2.1)
  (case lTs => exact hh_2.2.2.2.2.2.1)
  (case cTs => exact hh_2.2.2.2.2.2.2.1)
  (case kTs => exact hh_2.2.2.2.2.2.2.2.1)
  (case aSa => exact hh_2.2.2.2.2.2.2.2.2.1)
  (case lSa => exact hh_2.2.2.2.2.2.2.2.2.2.1)
  (case cSa => exact hh_2.2.2.2.2.2.2.2.2.2.2.1)
  (case kSa => exact hh_2.2.2.2.2.2.2.2.2.2.2.2.1)
  (case aFu => exact hh_2.2.2.2.2.2.2.2.2.2.2.2.2.1)
  (case lFu => exact hh_2.2.2.2.2.2.2.2.2.2.2.2.2.2.1)
  (case cFu => exact hh_2.2.2.2.2.2.2.2.2.2.2.2.2.2.2.1)
  (case kFu => exact hh_2.2.2.2.2.2.2.2.2.2.2.2.2.2.2.2.1)
  (case aPl => exact hh_2.2.2.2.2.2.2.2.2.2.2.2.2.2.2.2.2.1)
  (case lPl => exact hh_2.2.2.2.2.2.2.2.2.2.2.2.2.2.2.2.2.2.1)
  (case cPl => exact hh_2.2.2.2.2.2.2.2.2.2.2.2.2.2.2.2.2.2.2.1)
  (case kPl => exact hh_2.2.2.2.2.2.2.2.2.2.2.2.2.2.2.2.2.2.2.2.1)
  (case aHo => exact hh_2.2.2.2.2.2.2.2.2.2.2.2.2.2.2.2.2.2.2.2.2.1)
  (case lHo => exact hh_2.2.2.2.2.2.2.2.2.2.2.2.2.2.2.2.2.2.2.2.2.2.1)
  (case cHo => exact hh_2.2.2.2.2.2.2.2.2.2.2.2.2.2.2.2.2.2.2.2.2.2.2.1)
  (case kHo => exact hh_2.2.2.2.2.2.2.2.2.2.2.2.2.2.2.2.2.2.2.2.2.2.2.2.1)
  (case aPr => exact hh_2.2.2.2.2.2.2.2.2.2.2.2.2.2.2.2.2.2.2.2.2.2.2.2.2.1)
  (case lPr => exact hh_2.2.2.2.2.2.2.2.2.2.2.2.2.2.2.2.2.2.2.2.2.2.2.2.2.2.1)
  (case cPr => exact hh_2.2.2.2.2.2.2.2.2.2.2.2.2.2.2.2.2.2.2.2.2.2.2.2.2.2.2.1)
  (case kPr => exact hh_2.2.2.2.2.2.2.2.2.2.2.2.2.2.2.2.2.2.2.2.2.2.2.2.2.2.2.2.1)
  (case aRe => exact hh_2.2.2.2.2.2.2.2.2.2.2.2.2.2.2.2.2.2.2.2.2.2.2.2.2.2.2.2.2.1)
  (case lRe => exact hh_2.2.2.2.2.2.2.2.2.2.2.2.2.2.2.2.2.2.2.2.2.2.2.2.2.2.2.2.2.2)
  (case cRe => exact hh_3.1)
  (case kRe => exact hh_3.2.1)
  (case aSh => exact hh_3.2.2.1)
  (case lSh => exact hh_3.2.2.2.1)
  (case cSh => exact hh_3.2.2.2.2.1)
  (case kSh => exact hh_3.2.2.2.2.2.1)
  (case aMa => exact hh_3.2.2.2.2.2.2.1)
  (case lMa => exact hh_3.2.2.2.2.2.2.2.1)
  (case cMa => exact hh_3.2.2.2.2.2.2.2.2.1)
  (case kMa => exact hh_3.2.2.2.2.2.2.2.2.2.1)
  (case aUn => exact hh_3.2.2.2.2.2.2.2.2.2.2.1)
  (case lUn => exact hh_3.2.2.2.2.2.2.2.2.2.2.2.1)
  (case cUn => exact hh_3.2.2.2.2.2.2.2.2.2.2.2.2.1)
  (case kUn => exact hh_3.2.2.2.2.2.2.2.2.2.2.2.2.2.1)
  (case aLU => exact hh_3.2.2.2.2.2.2.2.2.2.2.2.2.2.2.1)
  (case lLU => exact hh_3.2.2.2.2.2.2.2.2.2.2.2.2.2.2.2.1)
  (case cLU => exact hh_3.2.2.2.2.2.2.2.2.2.2.2.2.2.2.2.2.1)
  (case kLU => exact hh_3.2.2.2.2.2.2.2.2.2.2.2.2.2.2.2.2.2.1)
  (case aLS => exact hh_3.2.2.2.2.2.2.2.2.2.2.2.2.2.2.2.2.2.2.1)
  (case lLS => exact hh_3.2.2.2.2.2.2.2.2.2.2.2.2.2.2.2.2.2.2.2.1)
  (case cLS => exact hh_3.2.2.2.2.2.2.2.2.2.2.2.2.2.2.2.2.2.2.2.2.1)
  (case kLS => exact hh_3.2.2.2.2.2.2.2.2.2.2.2.2.2.2.2.2.2.2.2.2.2.1)
  (case aLP => exact hh_3.2.2.2.2.2.2.2.2.2.2.2.2.2.2.2.2.2.2.2.2.2.2.1)
  (case lLP => exact hh_3.2.2.2.2.2.2.2.2.2.2.2.2.2.2.2.2.2.2.2.2.2.2.2.1)
  (case cLP => exact hh_3.2.2.2.2.2.2.2.2.2.2.2.2.2.2.2.2.2.2.2.2.2.2.2.2.1)
  (case kLP => exact hh_3.2.2.2.2.2.2.2.2.2.2.2.2.2.2.2.2.2.2.2.2.2.2.2.2.2.1)
  (case aLr => exact hh_3.2.2.2.2.2.2.2.2.2.2.2.2.2.2.2.2.2.2.2.2.2.2.2.2.2.2.1)
  (case lLr => exact hh_3.2.2.2.2.2.2.2.2.2.2.2.2.2.2.2.2.2.2.2.2.2.2.2.2.2.2.2.1)
  (case cLr => exact hh_3.2.2.2.2.2.2.2.2.2.2.2.2.2.2.2.2.2.2.2.2.2.2.2.2.2.2.2.2.1)
  (case kLr => exact hh_3.2.2.2.2.2.2.2.2.2.2.2.2.2.2.2.2.2.2.2.2.2.2.2.2.2.2.2.2.2)
  (case aLb => exact hh_4.1)
  (case lLb => exact hh_4.2.1)
  (case cLb => exact hh_4.2.2.1)
  (case kLb => exact hh_4.2.2.2.1)
  (case aLw => exact hh_4.2.2.2.2.1)
  (case lLw => exact hh_4.2.2.2.2.2.1)
  (case cLw => exact hh_4.2.2.2.2.2.2.1)
  (case kLw => exact hh_4.2.2.2.2.2.2.2.1)
  (case aLo => exact hh_4.2.2.2.2.2.2.2.2.1)
  (case lLo => exact hh_4.2.2.2.2.2.2.2.2.2.1)
  (case cLo => exact hh_4.2.2.2.2.2.2.2.2.2.2.1)
  (case kLo => exact hh_4.2.2.2.2.2.2.2.2.2.2.2.1)
  (case aLp => exact hh_4.2.2.2.2.2.2.2.2.2.2.2.2.1)
  (case lLp => exact hh_4.2.2.2.2.2.2.2.2.2.2.2.2.2.1)
  (case cLp => exact hh_4.2.2.2.2.2.2.2.2.2.2.2.2.2.2.1)
  (case kLp => exact hh_4.2.2.2.2.2.2.2.2.2.2.2.2.2.2.2.1)
  (case aLf => exact hh_4.2.2.2.2.2.2.2.2.2.2.2.2.2.2.2.2.1)
  (case lLf => exact hh_4.2.2.2.2.2.2.2.2.2.2.2.2.2.2.2.2.2.1)
  (case cLf => exact hh_4.2.2.2.2.2.2.2.2.2.2.2.2.2.2.2.2.2.2.1)
  (case kLf => exact hh_4.2.2.2.2.2.2.2.2.2.2.2.2.2.2.2.2.2.2.2.1)
  (case aLm => exact hh_4.2.2.2.2.2.2.2.2.2.2.2.2.2.2.2.2.2.2.2.2.1)
  (case lLm => exact hh_4.2.2.2.2.2.2.2.2.2.2.2.2.2.2.2.2.2.2.2.2.2.1)
  (case cLm => exact hh_4.2.2.2.2.2.2.2.2.2.2.2.2.2.2.2.2.2.2.2.2.2.2.1)
  (case kLm => exact hh_4.2.2.2.2.2.2.2.2.2.2.2.2.2.2.2.2.2.2.2.2.2.2.2.1)
  (case aLv => exact hh_4.2.2.2.2.2.2.2.2.2.2.2.2.2.2.2.2.2.2.2.2.2.2.2.2.1)
  (case lLv => exact hh_4.2.2.2.2.2.2.2.2.2.2.2.2.2.2.2.2.2.2.2.2.2.2.2.2.2.1)
  (case cLv => exact hh_4.2.2.2.2.2.2.2.2.2.2.2.2.2.2.2.2.2.2.2.2.2.2.2.2.2.2.1)
  (case kLv => exact hh_4.2.2.2.2.2.2.2.2.2.2.2.2.2.2.2.2.2.2.2.2.2.2.2.2.2.2.2.1)
  (case aLd => exact hh_4.2.2.2.2.2.2.2.2.2.2.2.2.2.2.2.2.2.2.2.2.2.2.2.2.2.2.2.2.1)
  (case lLd => exact hh_4.2.2.2.2.2.2.2.2.2.2.2.2.2.2.2.2.2.2.2.2.2.2.2.2.2.2.2.2.2)
  (case cLd => exact hh_5.1)
  (case kLd => exact hh_5.2.1)
  (case aLq => exact hh_5.2.2.1)
  (case lLq => exact hh_5.2.2.2.1)
  (case cLq => exact hh_5.2.2.2.2.1)
  (case kLq => exact hh_5.2.2.2.2.2.1)
  (case aLR => exact hh_5.2.2.2.2.2.2.1)
  (case lLR => exact hh_5.2.2.2.2.2.2.2.1)
  (case cLR => exact hh_5.2.2.2.2.2.2.2.2.1)
  (case kLR => exact hh_5.2.2.2.2.2.2.2.2.2.1)
  (case aLL => exact hh_5.2.2.2.2.2.2.2.2.2.2.1)
  (case lLL => exact hh_5.2.2.2.2.2.2.2.2.2.2.2.1)
  (case cLL => exact hh_5.2.2.2.2.2.2.2.2.2.2.2.2.1)
  (case kLL => exact hh_5.2.2.2.2.2.2.2.2.2.2.2.2.2.1)
  (case aC => exact hh_5.2.2.2.2.2.2.2.2.2.2.2.2.2.2.1)
  (case cpg => exact hh_5.2.2.2.2.2.2.2.2.2.2.2.2.2.2.2.1)
  (case chd => exact hh_5.2.2.2.2.2.2.2.2.2.2.2.2.2.2.2.2.1)
  (case cpo => exact hh_5.2.2.2.2.2.2.2.2.2.2.2.2.2.2.2.2.2.1)
  (case csa => exact hh_5.2.2.2.2.2.2.2.2.2.2.2.2.2.2.2.2.2.2.1)
  (case n_row => exact hh_5.2.2.2.2.2.2.2.2.2.2.2.2.2.2.2.2.2.2.2.1)
  (case n_start => exact hh_5.2.2.2.2.2.2.2.2.2.2.2.2.2.2.2.2.2.2.2.2.1)
  (case n_way => exact hh_5.2.2.2.2.2.2.2.2.2.2.2.2.2.2.2.2.2.2.2.2.2.1)
  (case n_ways => exact hh_5.2.2.2.2.2.2.2.2.2.2.2.2.2.2.2.2.2.2.2.2.2.2.1)
  (case n_offsets => exact hh_5.2.2.2.2.2.2.2.2.2.2.2.2.2.2.2.2.2.2.2.2.2.2.2.1)
  (case n_drift => exact hh_5.2.2.2.2.2.2.2.2.2.2.2.2.2.2.2.2.2.2.2.2.2.2.2.2.1)
  (case n_lanes => exact hh_5.2.2.2.2.2.2.2.2.2.2.2.2.2.2.2.2.2.2.2.2.2.2.2.2.2.1)
  (case mmk => exact hh_5.2.2.2.2.2.2.2.2.2.2.2.2.2.2.2.2.2.2.2.2.2.2.2.2.2.2.1)
  (case mkp => exact hh_5.2.2.2.2.2.2.2.2.2.2.2.2.2.2.2.2.2.2.2.2.2.2.2.2.2.2.2.1)
  (case ai => exact hh_5.2.2.2.2.2.2.2.2.2.2.2.2.2.2.2.2.2.2.2.2.2.2.2.2.2.2.2.2.1)
  (case li0 => exact hh_5.2.2.2.2.2.2.2.2.2.2.2.2.2.2.2.2.2.2.2.2.2.2.2.2.2.2.2.2.2)
  (case ci0 => exact hh_6.1)
  (case fnI0 => exact hh_6.2.1)
  (case kpI0 => exact hh_6.2.2.1)
  (case lT0 => exact hh_6.2.2.2.1)
  (case lZ0 => exact hh_6.2.2.2.2.1)
  (case ata => exact hh_6.2.2.2.2.2.1)
  (case gta => exact hh_6.2.2.2.2.2.2.1)
  (case tka => exact hh_6.2.2.2.2.2.2.2.1)
  (case rca => exact hh_6.2.2.2.2.2.2.2.2.1)
  (case lpa => exact hh_6.2.2.2.2.2.2.2.2.2.1)
  (case cpa => exact hh_6.2.2.2.2.2.2.2.2.2.2.1)
  (case kpa => exact hh_6.2.2.2.2.2.2.2.2.2.2.2.1)
  (case atb => exact hh_6.2.2.2.2.2.2.2.2.2.2.2.2.1)
  (case gtb => exact hh_6.2.2.2.2.2.2.2.2.2.2.2.2.2.1)
  (case tkb => exact hh_6.2.2.2.2.2.2.2.2.2.2.2.2.2.2.1)
  (case rcb => exact hh_6.2.2.2.2.2.2.2.2.2.2.2.2.2.2.2.1)
  (case lpb => exact hh_6.2.2.2.2.2.2.2.2.2.2.2.2.2.2.2.2.1)
  (case cpb => exact hh_6.2.2.2.2.2.2.2.2.2.2.2.2.2.2.2.2.2.1)
  (case kpb => exact hh_6.2.2.2.2.2.2.2.2.2.2.2.2.2.2.2.2.2.2.1)
  (case atc => exact hh_6.2.2.2.2.2.2.2.2.2.2.2.2.2.2.2.2.2.2.2.1)
  (case gtc => exact hh_6.2.2.2.2.2.2.2.2.2.2.2.2.2.2.2.2.2.2.2.2.1)
  (case tkc => exact hh_6.2.2.2.2.2.2.2.2.2.2.2.2.2.2.2.2.2.2.2.2.2.1)
  (case rcc => exact hh_6.2.2.2.2.2.2.2.2.2.2.2.2.2.2.2.2.2.2.2.2.2.2.1)
  (case lpc => exact hh_6.2.2.2.2.2.2.2.2.2.2.2.2.2.2.2.2.2.2.2.2.2.2.2.1)
  (case cpc => exact hh_6.2.2.2.2.2.2.2.2.2.2.2.2.2.2.2.2.2.2.2.2.2.2.2.2.1)
  (case kpc => exact hh_6.2.2.2.2.2.2.2.2.2.2.2.2.2.2.2.2.2.2.2.2.2.2.2.2.2.1)
  (case atd => exact hh_6.2.2.2.2.2.2.2.2.2.2.2.2.2.2.2.2.2.2.2.2.2.2.2.2.2.2.1)
  (case gtd => exact hh_6.2.2.2.2.2.2.2.2.2.2.2.2.2.2.2.2.2.2.2.2.2.2.2.2.2.2.2.1)
  (case tkd => exact hh_6.2.2.2.2.2.2.2.2.2.2.2.2.2.2.2.2.2.2.2.2.2.2.2.2.2.2.2.2.1)
  (case rcd => exact hh_6.2.2.2.2.2.2.2.2.2.2.2.2.2.2.2.2.2.2.2.2.2.2.2.2.2.2.2.2.2)
  (case lpd => exact hh_7.1)
  (case cpd => exact hh_7.2.1)
  (case kpd => exact hh_7.2.2.1)
  (case ati => exact hh_7.2.2.2.1)
  (case fni => exact hh_7.2.2.2.2.1)
  (case lmi => exact hh_7.2.2.2.2.2.1)
  (case cmi => exact hh_7.2.2.2.2.2.2.1)
  (case kmi => exact hh_7.2.2.2.2.2.2.2.1)
  (case atj => exact hh_7.2.2.2.2.2.2.2.2.1)
  (case fnj => exact hh_7.2.2.2.2.2.2.2.2.2.1)
  (case lmj => exact hh_7.2.2.2.2.2.2.2.2.2.2.1)
  (case cmj => exact hh_7.2.2.2.2.2.2.2.2.2.2.2.1)
  (case kmj => exact hh_7.2.2.2.2.2.2.2.2.2.2.2.2.1)
  (case aT => exact hh_7.2.2.2.2.2.2.2.2.2.2.2.2.2.1)
  (case tpg => exact hh_7.2.2.2.2.2.2.2.2.2.2.2.2.2.2.1)
  (case thd => exact hh_7.2.2.2.2.2.2.2.2.2.2.2.2.2.2.2.1)
  (case tpo => exact hh_7.2.2.2.2.2.2.2.2.2.2.2.2.2.2.2.2.1)
  (case tsa => exact hh_7.2.2.2.2.2.2.2.2.2.2.2.2.2.2.2.2.2.1)
  (case tha => exact hh_7.2.2.2.2.2.2.2.2.2.2.2.2.2.2.2.2.2.2.1)
  (case thn => exact hh_7.2.2.2.2.2.2.2.2.2.2.2.2.2.2.2.2.2.2.2.1)
  (case ttk => exact hh_7.2.2.2.2.2.2.2.2.2.2.2.2.2.2.2.2.2.2.2.2.1)
  (case tmo => exact hh_7.2.2.2.2.2.2.2.2.2.2.2.2.2.2.2.2.2.2.2.2.2.1)
  (case tn1 => exact hh_7.2.2.2.2.2.2.2.2.2.2.2.2.2.2.2.2.2.2.2.2.2.2.1)
  (case tn2 => exact hh_7.2.2.2.2.2.2.2.2.2.2.2.2.2.2.2.2.2.2.2.2.2.2.2.1)
  (case tiso => exact hh_7.2.2.2.2.2.2.2.2.2.2.2.2.2.2.2.2.2.2.2.2.2.2.2.2.1)
  (case tisn => exact hh_7.2.2.2.2.2.2.2.2.2.2.2.2.2.2.2.2.2.2.2.2.2.2.2.2.2.1)
  (case tnfc => exact hh_7.2.2.2.2.2.2.2.2.2.2.2.2.2.2.2.2.2.2.2.2.2.2.2.2.2.2.1)
  (case tine => exact hh_7.2.2.2.2.2.2.2.2.2.2.2.2.2.2.2.2.2.2.2.2.2.2.2.2.2.2.2.1)
  (case tisu => exact hh_7.2.2.2.2.2.2.2.2.2.2.2.2.2.2.2.2.2.2.2.2.2.2.2.2.2.2.2.2.1)
  (case tmmk => exact hh_7.2.2.2.2.2.2.2.2.2.2.2.2.2.2.2.2.2.2.2.2.2.2.2.2.2.2.2.2.2)
  (case tmkp => exact hh_8.1)
  (case tai => exact hh_8.2.1)
  (case lt0 => exact hh_8.2.2.1)
  (case ct0 => exact hh_8.2.2.2.1)
  (case fnT0 => exact hh_8.2.2.2.2.1)
  (case dp => exact hh_8.2.2.2.2.2.1)
  (case dm => exact hh_8.2.2.2.2.2.2.1)
  (case lT1 => exact hh_8.2.2.2.2.2.2.2.1)
  (case atta => exact hh_8.2.2.2.2.2.2.2.2.1)
  (case gtta => exact hh_8.2.2.2.2.2.2.2.2.2.1)
  (case tkta => exact hh_8.2.2.2.2.2.2.2.2.2.2.1)
  (case rcta => exact hh_8.2.2.2.2.2.2.2.2.2.2.2.1)
  (case lpta => exact hh_8.2.2.2.2.2.2.2.2.2.2.2.2.1)
  (case cpta => exact hh_8.2.2.2.2.2.2.2.2.2.2.2.2.2.1)
  (case kpta => exact hh_8.2.2.2.2.2.2.2.2.2.2.2.2.2.2.1)
  (case attc => exact hh_8.2.2.2.2.2.2.2.2.2.2.2.2.2.2.2.1)
  (case gttc => exact hh_8.2.2.2.2.2.2.2.2.2.2.2.2.2.2.2.2.1)
  (case tktc => exact hh_8.2.2.2.2.2.2.2.2.2.2.2.2.2.2.2.2.2.1)
  (case rctc => exact hh_8.2.2.2.2.2.2.2.2.2.2.2.2.2.2.2.2.2.2.1)
  (case lptc => exact hh_8.2.2.2.2.2.2.2.2.2.2.2.2.2.2.2.2.2.2.2.1)
  (case cptc => exact hh_8.2.2.2.2.2.2.2.2.2.2.2.2.2.2.2.2.2.2.2.2.1)
  (case kptc => exact hh_8.2.2.2.2.2.2.2.2.2.2.2.2.2.2.2.2.2.2.2.2.2.1)
  (case attd => exact hh_8.2.2.2.2.2.2.2.2.2.2.2.2.2.2.2.2.2.2.2.2.2.2.1)
  (case gttd => exact hh_8.2.2.2.2.2.2.2.2.2.2.2.2.2.2.2.2.2.2.2.2.2.2.2.1)
  (case tktd => exact hh_8.2.2.2.2.2.2.2.2.2.2.2.2.2.2.2.2.2.2.2.2.2.2.2.2.1)
  (case rctd => exact hh_8.2.2.2.2.2.2.2.2.2.2.2.2.2.2.2.2.2.2.2.2.2.2.2.2.2.1)
  (case lptd => exact hh_8.2.2.2.2.2.2.2.2.2.2.2.2.2.2.2.2.2.2.2.2.2.2.2.2.2.2.1)
  (case cptd => exact hh_8.2.2.2.2.2.2.2.2.2.2.2.2.2.2.2.2.2.2.2.2.2.2.2.2.2.2.2.1)
  (case kptd => exact hh_8.2.2.2.2.2.2.2.2.2.2.2.2.2.2.2.2.2.2.2.2.2.2.2.2.2.2.2.2.1)
  (case atte => exact hh_8.2.2.2.2.2.2.2.2.2.2.2.2.2.2.2.2.2.2.2.2.2.2.2.2.2.2.2.2.2)
  (case gtte => exact hh_9.1)
  (case tkte => exact hh_9.2.1)
  (case rcte => exact hh_9.2.2.1)
  (case lpte => exact hh_9.2.2.2.1)
  (case cpte => exact hh_9.2.2.2.2.1)
  (case kpte => exact hh_9.2.2.2.2.2.1)
  (case attf => exact hh_9.2.2.2.2.2.2.1)
  (case gttf => exact hh_9.2.2.2.2.2.2.2.1)
  (case tktf => exact hh_9.2.2.2.2.2.2.2.2.1)
  (case rctf => exact hh_9.2.2.2.2.2.2.2.2.2.1)
  (case lptf => exact hh_9.2.2.2.2.2.2.2.2.2.2.1)
  (case cptf => exact hh_9.2.2.2.2.2.2.2.2.2.2.2.1)
  (case kptf => exact hh_9.2.2.2.2.2.2.2.2.2.2.2.2.1)
  (case atth => exact hh_9.2.2.2.2.2.2.2.2.2.2.2.2.2.1)
  (case fnth => exact hh_9.2.2.2.2.2.2.2.2.2.2.2.2.2.2.1)
  (case lmth => exact hh_9.2.2.2.2.2.2.2.2.2.2.2.2.2.2.2.1)
  (case cmth => exact hh_9.2.2.2.2.2.2.2.2.2.2.2.2.2.2.2.2.1)
  (case kmth => exact hh_9.2.2.2.2.2.2.2.2.2.2.2.2.2.2.2.2.2.1)
  (case atti => exact hh_9.2.2.2.2.2.2.2.2.2.2.2.2.2.2.2.2.2.2.1)
  (case fnti => exact hh_9.2.2.2.2.2.2.2.2.2.2.2.2.2.2.2.2.2.2.2.1)
  (case lmti => exact hh_9.2.2.2.2.2.2.2.2.2.2.2.2.2.2.2.2.2.2.2.2.1)
  (case cmti => exact hh_9.2.2.2.2.2.2.2.2.2.2.2.2.2.2.2.2.2.2.2.2.2.1)
  (case kmti => exact hh_9.2.2.2.2.2.2.2.2.2.2.2.2.2.2.2.2.2.2.2.2.2.2.1)
  (case attj => exact hh_9.2.2.2.2.2.2.2.2.2.2.2.2.2.2.2.2.2.2.2.2.2.2.2.1)
  (case fntj => exact hh_9.2.2.2.2.2.2.2.2.2.2.2.2.2.2.2.2.2.2.2.2.2.2.2.2.1)
  (case lmtj => exact hh_9.2.2.2.2.2.2.2.2.2.2.2.2.2.2.2.2.2.2.2.2.2.2.2.2.2.1)
  (case cmtj => exact hh_9.2.2.2.2.2.2.2.2.2.2.2.2.2.2.2.2.2.2.2.2.2.2.2.2.2.2.1)
  (case kmtj => exact hh_9.2.2.2.2.2.2.2.2.2.2.2.2.2.2.2.2.2.2.2.2.2.2.2.2.2.2.2.1)
  (case attk => exact hh_9.2.2.2.2.2.2.2.2.2.2.2.2.2.2.2.2.2.2.2.2.2.2.2.2.2.2.2.2.1)
  (case fntk => exact hh_9.2.2.2.2.2.2.2.2.2.2.2.2.2.2.2.2.2.2.2.2.2.2.2.2.2.2.2.2.2)
  (case lmtk => exact hh_10.1)
  (case cmtk => exact hh_10.2.1)
  (case kmtk => exact hh_10.2.2.1)
  (case g4 => exact hh_10.2.2.2.1)
  (case aTU => exact hh_10.2.2.2.2.1)
  (case lTU => exact hh_10.2.2.2.2.2.1)
  (case kTU => exact hkeys (hh_10.2.2.2.2.2.2.1))
  (case oTU => exact by decide)
  (case tR => exact hh_10.2.2.2.2.2.2.2.1)
  (case tB => exact hh_10.2.2.2.2.2.2.2.2.1)
  (case tL => exact hh_10.2.2.2.2.2.2.2.2.2.1)
  (case t1 => exact hh_10.2.2.2.2.2.2.2.2.2.2.1)
  (case t2 => exact hh_10.2.2.2.2.2.2.2.2.2.2.2.1)
  (case t3 => exact hh_10.2.2.2.2.2.2.2.2.2.2.2.2.1)
  (case t4 => exact hh_10.2.2.2.2.2.2.2.2.2.2.2.2.2.1)
  (case t5 => exact hh_10.2.2.2.2.2.2.2.2.2.2.2.2.2.2.1)
  (case t6 => exact hh_10.2.2.2.2.2.2.2.2.2.2.2.2.2.2.2.1)
  (case t7 => exact hh_10.2.2.2.2.2.2.2.2.2.2.2.2.2.2.2.2.1)
  (case t8 => exact hh_10.2.2.2.2.2.2.2.2.2.2.2.2.2.2.2.2.2.1)
  (case t9 => exact hh_10.2.2.2.2.2.2.2.2.2.2.2.2.2.2.2.2.2.2.1)
  (case aMO => exact hh_10.2.2.2.2.2.2.2.2.2.2.2.2.2.2.2.2.2.2.2.1)
  (case lMO => exact hh_10.2.2.2.2.2.2.2.2.2.2.2.2.2.2.2.2.2.2.2.2.1)
  (case kMO => exact hkeys (hh_10.2.2.2.2.2.2.2.2.2.2.2.2.2.2.2.2.2.2.2.2.2.1))
  (case oMO => exact by decide)
  (case sMO => exact hh_10.2.2.2.2.2.2.2.2.2.2.2.2.2.2.2.2.2.2.2.2.2.2.1)
  (case mN => exact hh_10.2.2.2.2.2.2.2.2.2.2.2.2.2.2.2.2.2.2.2.2.2.2.2.1)
  (case uN => exact hh_10.2.2.2.2.2.2.2.2.2.2.2.2.2.2.2.2.2.2.2.2.2.2.2.2.1)
  (case mE => exact hh_10.2.2.2.2.2.2.2.2.2.2.2.2.2.2.2.2.2.2.2.2.2.2.2.2.2.1)
  (case uE => exact hh_10.2.2.2.2.2.2.2.2.2.2.2.2.2.2.2.2.2.2.2.2.2.2.2.2.2.2.1)
  (case mS => exact hh_10.2.2.2.2.2.2.2.2.2.2.2.2.2.2.2.2.2.2.2.2.2.2.2.2.2.2.2.1)
  (case uS => exact hh_10.2.2.2.2.2.2.2.2.2.2.2.2.2.2.2.2.2.2.2.2.2.2.2.2.2.2.2.2.1)
  (case mW_ => exact hh_10.2.2.2.2.2.2.2.2.2.2.2.2.2.2.2.2.2.2.2.2.2.2.2.2.2.2.2.2.2)
  (case uW => exact hh_11.1)
  (case gW => exact hh_11.2.1)
  (case g1 => exact hh_11.2.2.1)
  (case g2 => exact hh_11.2.2.2.1)
  (case g3 => exact hh_11.2.2.2.2.1)
  (case z_isinstance => exact hh_11.2.2.2.2.2.1)
  (case z_int => exact hh_11.2.2.2.2.2.2.1)
  (case z_bool => exact hh_11.2.2.2.2.2.2.2.1)
  (case z_len => exact hh_11.2.2.2.2.2.2.2.2.1)
  (case z_tuple => exact hh_11.2.2.2.2.2.2.2.2.2.1)
  (case z_str => exact hh_11.2.2.2.2.2.2.2.2.2.2.1)
  (case z_list => exact hh_11.2.2.2.2.2.2.2.2.2.2.2.1)
  (case z_range => exact hh_11.2.2.2.2.2.2.2.2.2.2.2.2.1)
  (case z_abs => exact hh_11.2.2.2.2.2.2.2.2.2.2.2.2.2.1)
  (case z_all => exact hh_11.2.2.2.2.2.2.2.2.2.2.2.2.2.2.1)
  (case z_any => exact hh_11.2.2.2.2.2.2.2.2.2.2.2.2.2.2.2.1)
  (case z_divmod => exact hh_11.2.2.2.2.2.2.2.2.2.2.2.2.2.2.2.2.1)
  (case z_enumerate => exact hh_11.2.2.2.2.2.2.2.2.2.2.2.2.2.2.2.2.2.1)
  (case z_sorted => exact hh_11.2.2.2.2.2.2.2.2.2.2.2.2.2.2.2.2.2.2.1)
  (case z_sum => exact hh_11.2.2.2.2.2.2.2.2.2.2.2.2.2.2.2.2.2.2.2.1)
  (case z_min => exact hh_11.2.2.2.2.2.2.2.2.2.2.2.2.2.2.2.2.2.2.2.2.1)
  (case z_max => exact hh_11.2.2.2.2.2.2.2.2.2.2.2.2.2.2.2.2.2.2.2.2.2.1)
  (case z_repr => exact hh_11.2.2.2.2.2.2.2.2.2.2.2.2.2.2.2.2.2.2.2.2.2.2)
end K2
open PySem PySem.W PyProof.Rows
set_option maxRecDepth 100000 in
set_option maxHeartbeats 0 in
theorem PySem.Challenge.cw_evertreads_k14_whole_times_on_a_square_holds : PySem.Challenge.rw_evertreads_k14_whole_times_on_a_square.Holds := by
  w_on; o_law
  refine HandSHeadRun.head_imp (r := K2.hrow) (q := K2.hview) (H := K2.hhook) (ob := fun s => K2.hlist.map (HandSHeadRun.getT s)) (M := 14000) (loose := K2.hnames) (kwd := []) (fun s => List.map_congr_left fun a _ => HandSHeadRun.getT_eq s a) K2.hrun (by rfl) (by rfl) (by rfl) (by rfl) (by first | assumption | decide +kernel) (by decide +kernel) ⟨rfl, rfl, rfl, rfl, rfl, by decide +kernel⟩ ?hw ?hc
  case hw => w_witness2
  case hc =>
    refine K2.hwalk (l := PySem.Challenge.rw_evertreads_k14_whole_times_on_a_square) (K := K2.hK) (k := 9) (x := "script") rfl rfl ⟨rfl, by decide, by decide⟩ (fun w h Y => Y) ?_
    exact fun w mg fa h KX G hmg => K2.hend KX G hmg (K2.hfacts w)

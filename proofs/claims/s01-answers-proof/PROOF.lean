import PyProof.Rows.All
import Wide.All
import OpenK.AllK
import Wide.FinOn
import Open.SpecLaws
import KE.OsHead
import KE.OsGo
import PyProof.EqAt
import PyProof.EqKinds
import PyProof.TupleCall
import KE.BitLaws
import PyFlatLaws
import KE.KItemsList
import PySem.Challenge.RW_scorebookdesk_s01_answers
section
set_option Elab.async false
set_option linter.all false
set_option maxRecDepth 1000000
set_option maxHeartbeats 0
namespace Hd
open PySem PySem.W PySem.Calls PyProof.Rows
/-- the top's run, over a tree of objects -/
def runT (tb : String → Option Builtin) (P : Program) (W : World) (size : Nat) (anno : Option Value) : Nat → SharedT → Thread → Option SharedT
  | 0, _, _ => none
  | m + 1, x, y => bif through y then some x else bif stepOk size anno y then (match stepT (denote tb) P W x y with | none => none | some z => runT tb P W size anno m z.1 z.2) else none
theorem runT_abs {tb : String → Option Builtin} {P : Program} {W : World} {size : Nat} {anno : Option Value} :
    ∀ {m : Nat} {x z : SharedT} {y : Thread}, runT tb P W size anno m x y = some z → topRun tb P W size anno m x.abs y = some z.abs
  | 0, _, _, _, e => by cases e
  | m + 1, x, z, y, e => by
    unfold runT at e
    unfold topRun
    cases a : through y with
    | true => rw [a, cond_true] at e; cases e; rfl
    | false =>
      rw [a, cond_false] at e
      cases b : stepOk size anno y with
      | false => rw [b, cond_false] at e; cases e
      | true =>
        rw [b, cond_true] at e
        cases c : stepT (denote tb) P W x y with
        | none => rw [c] at e; cases e
        | some u => rw [c] at e; dsimp only; rw [stepT_spec (s' := u.1) (t' := u.2) c]; exact runT_abs e
def plant : List Obj → Nat → BT → BT
  | [], _, t => t
  | o :: r, n, t => plant r (n + 1) (t.ins n o)
def bootSize : Nat := 11
noncomputable def bootT (Q : Params) (os : OsState) : SharedT := ⟨plant (boot_heap Q).objs.toList 0 .nil, bootSize, (boot_heap Q).life, #[], boot_drawn, boot_toks, os⟩
theorem bootT_abs (Q : Params) (os : OsState) : (bootT Q os).abs = ⟨boot_heap Q, #[], boot_drawn, boot_toks, os⟩ := by kernel_rfl
abbrev pr : Program := PySem.Challenge.pw_scorebookdesk_s01_answers
def anno0 : Option Value := some (.ref 6)
theorem boot_at (Q : Params) : ((boot_heap Q).isNs mainGlobals && (#[] : Array GenState).size == 0, (boot_heap Q).objs.size, (boot_heap Q).nsMap mainGlobals "__annotations__") = (true, bootSize, anno0) := by kernel_rfl
/-- the run behind the boot -/
noncomputable def ran (W : World) (os : OsState) : Option SharedT := runT treeTable pr W bootSize anno0 7198 (bootT W.params os) (topStub pr)
end Hd
end
section
set_option Elab.async false
set_option linter.all false
set_option maxRecDepth 1000000
set_option maxHeartbeats 0
namespace Hd
open PySem PySem.W PySem.Calls PyProof.Rows
/-- what of a def stands in the text -/
abbrev FnObs := Str × Str × Arguments × FuncBody × Scope × Addr × List (Str × Addr) × Value × Addr
def obsFn (d : FuncData) : FnObs := (d.name, d.qualname, d.params, d.body, d.scope, d.globals, d.closure, d.defaults, d.builtins)
def shape (x q : Str) : Stmt → Option FnObs
  | .FunctionDef _ a b _ _ _ sc _ _ _ => some (x, q, a, .stmts b, sc, mainGlobals, [], .none, builtinsNs)
  | _ => none
def fnAt (K : Frag) (f : Addr) : Option FuncData := (K.lookup f).bind fun o => match o.data with | .func d => some d | _ => none
def inner (st : Stmt) : Stmt := match st with
  | .ClassDef _ _ _ b _ _ _ _ _ _ _ => b.getD 0 (.Pass ⟨0, 0, 0, 0⟩)
  | _ => .Pass ⟨0, 0, 0, 0⟩
def stAt (i : Nat) : Stmt := pr.main.body.getD i (.Pass ⟨0, 0, 0, 0⟩)
def obsD (K : Frag) (e : Str × Nat × Addr) := (nsIn K mainGlobals e.1, (fnAt K e.2.2).map obsFn, (fnAt K e.2.2).map fun d => codeIn K d.code e.1, keepIn K (.ref e.2.2))
def goodD (e : Str × Nat × Addr) : Option (Option Value) × Option FnObs × Option Bool × Bool := (some (some (.ref e.2.2)), shape e.1 e.1 (stAt e.2.1), some true, true)
abbrev ClaE := Str × Str × Nat × Addr × Addr × List Str
def obsC (K : Frag) : ClaE → ((Option (Option Value) × Option (Option Value) × Option (Option Value)) × Option FnObs × Option Bool × Bool × List (Option (Option Value)))
  | (x, q, _, C, f, l) => ((nsIn K mainGlobals x, findIn K (.ref C) "__init__", findIn K (.ref C) "__setattr__"), (fnAt K f).map obsFn, (fnAt K f).map (fun d => codeIn K d.code q),
      isFn K (.ref f) && keepIn K (.ref f) && plainGet K C Str.empty && hasDictIn K C && plainOver K C && makesIn K C && keepIn K (.ref C), l.map (findIn K (.ref C)))
def goodC : ClaE → ((Option (Option Value) × Option (Option Value) × Option (Option Value)) × Option FnObs × Option Bool × Bool × List (Option (Option Value)))
  | (_, q, i, C, f, l) => ((some (some (.ref C)), some (some (.ref f)), some (some (.builtin "object.__setattr__"))), shape "__init__" q (inner (stAt i)), some true, true, l.map fun _ => some none)
def bare : Value → Value
  | .int i _ => .int i 0
  | v => v
def obsT (K : Frag) (e : Str × Addr × List Value) := (nsIn K mainGlobals e.1, (K.lookup e.2.1).map fun o => (o.cls, match o.data with | .seq its _ => some (its.toList.map bare) | _ => none))
def goodT (e : Str × Addr × List Value) : Option (Option Value) × Option (Value × Option (List Value)) := (some (some (.ref e.2.1)), some (.type "tuple", some e.2.2))
def theFrag : List Addr := [3, 19, 18, 26, 25, 33, 32, 40, 39, 47, 46, 54, 53, 73, 72, 70, 69, 84, 83, 91, 90, 98, 97, 105, 104, 112, 111, 119, 118, 126, 125, 133, 132, 141, 140, 159, 158, 156, 155, 170, 169, 177, 176, 184, 183, 191, 190, 198, 197, 213, 212, 210, 209, 224, 223, 231, 230, 236, 235, 241, 240, 246, 245, 251, 250, 256, 255, 261, 260, 266, 265, 273, 272, 303, 302, 300, 299, 314, 313, 321, 320, 328, 327, 335, 334, 342, 341, 349, 348, 356, 355, 361, 360, 366, 365, 384, 383, 381, 380, 395, 394, 402, 401, 409, 408, 416, 415, 423, 422, 428, 427, 435, 434, 442, 441, 449, 448, 456, 455, 463, 462, 470, 469, 477, 476, 484, 483, 491, 490, 498, 497, 503, 502, 510, 509, 517, 516, 527, 526, 534, 533, 55, 56, 134, 142, 367, 518, 519, 520, 283, 282]
def defTab : List (Str × Nat × Addr) := ([("none_above", 6, 19), ("points_of", 9, 26), ("point_numbers", 10, 33), ("points_fit", 11, 40), ("value_between", 12, 47), ("line_value", 13, 54), ("voice_fits", 18, 84), ("voice_numbers", 19, 91), ("held", 20, 98), ("loudness", 21, 105), ("saw", 26, 112), ("square", 27, 119), ("triangle", 28, 126), ("arcs", 29, 133), ("wave_value", 31, 141), ("note_fits", 36, 170), ("note_numbers", 37, 177), ("note_end", 38, 184), ("sounds_at", 39, 191), ("given_at", 40, 198), ("voice_of", 45, 224), ("note_numbered", 46, 231), ("sounding", 47, 236), ("next_change", 48, 241), ("heard_within", 49, 246), ("line_part", 50, 251), ("note_part", 51, 256), ("sums", 52, 261), ("samples", 53, 266), ("peak", 54, 273)] : List (Str × Nat × Addr)) ++ ([("row_of", 60, 314), ("read", 61, 321), ("read_count", 62, 328), ("read_voice", 63, 335), ("read_line", 64, 342), ("read_next_number", 65, 349), ("read_note", 66, 356), ("read_notes", 67, 361), ("score_of", 68, 366), ("with_lists", 78, 395), ("part_fits", 79, 402), ("answer_voice", 80, 409), ("answer_line", 81, 416), ("answer_note", 82, 423), ("answer_drop", 83, 428), ("answer_move", 84, 435), ("answer_render", 85, 442), ("answer_raw", 86, 449), ("answer_sounds", 87, 456), ("answer_next", 88, 463), ("answer_loud", 89, 470), ("answer_line_at", 90, 477), ("answer_seek", 91, 484), ("answer_play", 92, 491), ("answer_peak", 93, 498), ("answer_notes", 94, 503), ("answer_save", 95, 510), ("answer_load", 96, 517), ("call_end", 100, 527), ("answers", 101, 534)] : List (Str × Nat × Addr))
def claTab : List ClaE := [("Voice", "Voice.__init__", 17, 73, 70, ["wave", "rise", "fall", "stay", "fade"]), ("Note", "Note.__init__", 35, 159, 156, ["number", "voice_number", "at", "length", "step", "level"]), ("Score", "Score.__init__", 44, 213, 210, ["voices", "lines", "notes", "next_number"]), ("Reader", "Reader.__init__", 59, 303, 300, ["row", "begin"]), ("Player", "Player.__init__", 77, 384, 381, ["score", "place"])]
def intTab : List (Str × Int) := [("TIME_END", 1099511627776), ("VOICE_COUNT", 8), ("MOST_NOTES", 64), ("NUMBERS_END", 4294967296), ("FULL", 256), ("MOST_POINTS", 16), ("ROUND", 65536), ("HALF", 32768), ("TOP", 32767), ("FULL_PRODUCT", 16777216), ("LOWEST", -32768), ("HIGHEST", 32767), ("VOICE_SIZE", 5), ("NOTE_SIZE", 6), ("NOT_AS_TOLD", -1), ("NO_SUCH_NOTE", -4), ("NONE_LATER", -5), ("NO_ROOM", -6), ("NO_ROW", -6), ("LONGEST_PART", 256)]
def tupTab : List (Str × Addr × List Value) := [("GREATEST_voices", 55, [.int 3 0, .int 65535 0, .int 65535 0, .int 256 0, .int 65535 0]), ("AT_FIRST", 56, [.int 0 0, .int 0 0, .int 0 0, .int 256 0, .int 0 0]), ("WAVES", 134, [.ref 112, .ref 119, .ref 126, .ref 133]), ("GREATEST_notes", 142, [.int 7 0, .int 1099511627775 0, .int 16777216 0, .int 65535 0, .int 256 0]), ("GREATEST_OF_LOUD", 367, [.int 7 0, .int 16777216 0, .int 33554432 0]), ("ANSWERERS", 518, [.ref 409, .ref 416, .ref 423, .ref 428, .ref 435, .ref 442, .ref 449, .ref 456, .ref 463, .ref 470, .ref 477, .ref 484, .ref 491, .ref 498, .ref 503, .ref 510, .ref 517]), ("PLAIN_NUMBERS", 519, [.int 6 0, .int 1 0, .int 5 0, .int 1 0, .int 2 0, .int 2 0, .int 2 0, .int 1 0, .int 1 0, .int 3 0, .int 2 0, .int 1 0, .int 1 0, .int 2 0, .int 0 0, .int 0 0, .int 0 0]), ("CALLS_WITH_ROW", 520, [.int 1 0, .int 16 0])]
def freeTab : List Str := ["len", "all", "zip", "list", "range", "min", "max", "abs", "enumerate", "set"]
def ownExc : Addr := 283
abbrev FnObsL := Option (Option Value)
def obsI (K : Frag) (e : Str × Int) : FnObsL := (nsIn K mainGlobals e.1).map fun v => v.map bare
def goodI (e : Str × Int) : FnObsL := some (some (.int e.2 0))
def goodB (_ : Str) : FnObsL := some none
def excOk (K : Frag) : Bool := excIn K ownExc [.type "ValueError", .type "Exception", .type "BaseException", .type "object"] "ValueError.__new__"
/-- what stands in the part of the heap that is looked at -/
structure Facts (K : Frag) : Prop where
  d : defTab.map (obsD K) = defTab.map goodD
  c : claTab.map (obsC K) = claTab.map goodC
  i : intTab.map (obsI K) = intTab.map goodI
  t : tupTab.map (obsT K) = tupTab.map goodT
  b : freeTab.map (nsIn K mainGlobals) = freeTab.map goodB
  x : (nsIn K mainGlobals "NoScoresRow", excOk K) = (some (some (.ref ownExc)), true)
def Good (h : Heap) : Prop := ∃ K : Frag, K.In h ∧ Facts K
def part (x : SharedT) : Frag := theFrag.filterMap fun a => if Nat.blt a x.n then (x.tree.get a).bind fun o => (alive o).map fun o => (a, o) else none
theorem mapAt {α β : Type} {f g : α → β} : ∀ {l : List α}, l.map f = l.map g → ∀ (n : Nat) (a : α), l[n]? = some a → f a = g a := fun {l} e n a h => by
  have := congrArg (·[n]?) e
  simpa [h] using this
theorem part_in (x : SharedT) : ∀ l : List Addr, Frag.In (l.filterMap fun a => if Nat.blt a x.n then (x.tree.get a).bind fun o => (alive o).map fun o => (a, o) else none) x.abs.heap
  | [], a, o, h => by cases h
  | b :: r, a, o, h => by
    rw [List.filterMap_cons] at h
    by_cases q : Nat.blt b x.n = true
    · rw [if_pos q] at h
      cases g : x.tree.get b with
      | none => rw [g] at h; exact part_in x r a o h
      | some u =>
        cases l : alive u with
        | none => rw [g, Option.bind_some, l] at h; exact part_in x r a o h
        | some u' =>
          rw [g, Option.bind_some, l] at h
          simp only [Option.map_some, List.lookup_cons] at h
          by_cases z : (a == b) = true
          · rw [z] at h
            cases h
            rw [show a = b from eq_of_beq z]
            show (absHeap x.tree x.n x.life).get? b = _
            rw [abs_get (Nat.le_of_ble_eq_true q) g, l]
          · rw [Bool.not_eq_true _ |>.mp z] at h
            exact part_in x r a o h
    · rw [if_neg q] at h
      exact part_in x r a o h
end Hd
end
section
set_option Elab.async false
set_option linter.all false
set_option maxRecDepth 1000000
set_option maxHeartbeats 0
namespace Hd
open PySem PySem.W PySem.Calls PyProof.Rows
def allLoose : List Str := (["__name__", "__doc__", "__package__", "__loader__", "__spec__", "__annotations__", "__builtins__", "__file__", "__cached__", "TIME_END", "VOICE_COUNT", "MOST_NOTES", "NUMBERS_END", "FULL", "none_above", "MOST_POINTS", "points_of", "point_numbers", "points_fit", "value_between", "line_value", "GREATEST_voices", "AT_FIRST", "Voice", "voice_fits", "voice_numbers", "held", "loudness", "ROUND", "HALF", "TOP", "saw", "square", "triangle", "arcs", "WAVES", "wave_value", "FULL_PRODUCT", "GREATEST_notes", "Note", "note_fits", "note_numbers", "note_end", "sounds_at", "given_at", "LOWEST", "HIGHEST", "Score", "voice_of", "note_numbered", "sounding", "next_change", "heard_within", "line_part", "note_part", "sums", "samples", "peak", "VOICE_SIZE", "NOTE_SIZE", "NoScoresRow", "Reader", "row_of", "read", "read_count", "read_voice", "read_line", "read_next_number", "read_note", "read_notes", "score_of", "NOT_AS_TOLD", "NO_SUCH_NOTE", "NONE_LATER", "NO_ROOM", "NO_ROW", "LONGEST_PART", "GREATEST_OF_LOUD", "Player", "with_lists", "part_fits", "answer_voice", "answer_line", "answer_note", "answer_drop", "answer_move", "answer_render", "answer_raw", "answer_sounds", "answer_next", "answer_loud", "answer_line_at", "answer_seek", "answer_play", "answer_peak", "answer_notes", "answer_save", "answer_load", "ANSWERERS", "PLAIN_NUMBERS", "CALLS_WITH_ROW", "call_end"] : List String).map Str.ofString
def viewQ : Program := view pr [101]
theorem opened : ∀ w : World, (fencedOpening treeTable pr w 7198).map (fun s => (s.heap, s.gens, s.drawn, s.toks)) = some (boot_heap w.params, Array.mk [], boot_drawn, boot_toks) :=
  boot_open (by kernel_rfl) (by decide) fun s => by kernel_rfl
noncomputable def kept (Q : Params) (h : Heap) (s : Shared) : Bool := staticsOk (importedModules pr.main.body) (boot_heap Q) h && namesBound pr h && gensDone s && laidKept (boot_heap Q) h
theorem looks : ∀ (W : World) (os : OsState), (ran W os).map (fun x => (kept W.params x.abs.heap x.abs, openSeen viewQ allLoose (importedModules pr.main.body) (fun s => recOk [] s) true x.abs)) = some (true, openGood viewQ allLoose) := fun W os => by kernel_rfl
theorem found : ∀ (W : World) (os : OsState), (ran W os).map (fun x => (defTab.map (obsD (part x)), claTab.map (obsC (part x)), intTab.map (obsI (part x)), tupTab.map (obsT (part x)), freeTab.map (nsIn (part x) mainGlobals), nsIn (part x) mainGlobals "NoScoresRow", excOk (part x))) =
    some (defTab.map goodD, claTab.map goodC, intTab.map goodI, tupTab.map goodT, freeTab.map goodB, some (some (.ref ownExc)), true) := fun W os => by kernel_rfl
theorem from_run {tb : String → Option Builtin} {p : Program} {w : World} {N m : Nat} {an : Option Value} {s₀ s₁ : Shared} (z : (s₀.heap.isNs mainGlobals && s₀.gens.size == 0) = true) (z2 : s₀.heap.objs.size = m) (z3 : s₀.heap.nsMap mainGlobals "__annotations__" = an)
    (t : topRun tb p w m an N s₀ (topStub p) = some s₁) (k : (staticsOk (importedModules p.main.body) s₀.heap s₁.heap && namesBound p s₁.heap && gensDone s₁ && laidKept s₀.heap s₁.heap) = true) : topFrom tb p w N s₀ = some s₁ := by
  subst z2 z3
  unfold topFrom
  rw [z]
  dsimp only
  rw [t, Option.bind_some, k]
theorem left_run {p q : Program} {loose : List Str} {Xt : Shared → Bool} {α : Type} {Yf : Shared → α} {Ya : World → α} {N : Nat} {w : World} {s₀ s₁ : Shared} (e : fencedOpening treeTable p w N = some s₀) (u : topFrom treeTable p w N s₀ = some s₁)
    (a : openSeen q loose (importedModules p.main.body) Xt true s₁ = openGood q loose) (b : Yf s₁ = Ya w) : (openEnds treeTable p w N).map (fun s => (openSeen q loose (importedModules p.main.body) Xt true s, Yf s)) = some (openGood q loose, Ya w) := by
  unfold openEnds
  rw [e, Option.bind_some, u, Option.map_some, a, b]
theorem left : LeftO pr viewQ allLoose (fun s => recOk [] s) (fun s => Good s.heap) (fun _ => True) 7198 := fun w => by
  obtain ⟨⟨h, gs, d, k, os⟩, e, e'⟩ := Option.map_eq_some_iff.mp (opened w)
  obtain ⟨rfl, rfl, rfl, rfl⟩ : h = boot_heap w.params ∧ gs = #[] ∧ d = boot_drawn ∧ k = boot_toks := by simpa using e'
  obtain ⟨x, r, l⟩ := Option.map_eq_some_iff.mp (looks w os)
  obtain ⟨y, r', f⟩ := Option.map_eq_some_iff.mp (found w os)
  obtain rfl : x = y := Option.some.inj (r.symm.trans r')
  obtain ⟨l1, l2⟩ := Prod.mk.inj l
  obtain ⟨f1, f⟩ := Prod.mk.inj f
  obtain ⟨f2, f⟩ := Prod.mk.inj f
  obtain ⟨f3, f⟩ := Prod.mk.inj f
  obtain ⟨f4, f⟩ := Prod.mk.inj f
  obtain ⟨f5, f6⟩ := Prod.mk.inj f
  unfold ran at r
  have t := runT_abs r
  rw [bootT_abs] at t
  obtain ⟨z1, z⟩ := Prod.mk.inj (boot_at w.params)
  obtain ⟨z2, z3⟩ := Prod.mk.inj z
  exact left_run (Yf := fun s => Good s.heap) (Ya := fun _ => True) e (from_run z1 z2 z3 t l1) l2 (eq_true (show Good x.abs.heap from ⟨part x, part_in x theFrag, f1, f2, f3, f4, f5, f6⟩))
end Hd
end
section
set_option Elab.async false
set_option linter.all false
set_option maxRecDepth 100000
/-! THE HAND LAYER, for ints, bools, texts, own classes, lists, tuples, dicts, comprehensions, walks over dicts, enumerate, zip, reversed, texts, calls, loops. Paste it whole ahead of your own text; what your proof does not reach may be deleted. -/
namespace L2
open PySem PySem.Spec PyProof.Rows

/-- a key: an int or a str -/
abbrev Key := Sum Int Str
def keyIs : Key → Value → Bool
  | .inl k, v => Value.isInt k v
  | .inr x, v => Value.isStrOf x v
def keyH (w : World) : Key → Int
  | .inl k => hashInt k
  | .inr x => hashStr w x
theorem keyIs_shape : ∀ {k : Key} {v : Value}, keyIs k v = true → (∃ i t, k = Sum.inl i ∧ v = Value.int i t) ∨ (∃ x t, k = Sum.inr x ∧ v = Value.str x t)
  | .inl i, v, h => by
    obtain ⟨t, e⟩ := Value.isInt_shape (k := i) (v := v) h
    exact .inl ⟨i, t, rfl, e⟩
  | .inr x, v, h => by
    obtain ⟨t, e⟩ := Value.isStrOf_shape (x := x) (v := v) h
    exact .inr ⟨x, t, rfl, e⟩
theorem key_ll (a b : Int) : decide ((Sum.inl a : Key) = Sum.inl b) = (a == b) := by
  by_cases e : a = b
  · subst e; simp
  · have h : ¬ (Sum.inl a : Key) = Sum.inl b := fun q => e (Sum.inl.inj q)
    rw [decide_eq_false h]
    exact (beq_eq_false_iff_ne.mpr e).symm
theorem key_rr (a b : Str) : decide ((Sum.inr a : Key) = Sum.inr b) = decide (a = b) := by
  by_cases e : a = b
  · subst e; simp
  · have h : ¬ (Sum.inr a : Key) = Sum.inr b := fun q => e (Sum.inr.inj q)
    rw [decide_eq_false h, decide_eq_false e]
theorem key_lr (a : Int) (b : Str) : decide ((Sum.inl a : Key) = Sum.inr b) = false := decide_eq_false (fun q => nomatch q)
theorem key_rl (a : Str) (b : Int) : decide ((Sum.inr a : Key) = Sum.inl b) = false := decide_eq_false (fun q => nomatch q)

def mixKind (prog : Program) (w : World) : PySem.KeyKind prog w Key where
  is := keyIs
  hash := keyH w
  inj := fun v a b ha hb => by
    rcases keyIs_shape ha with ⟨i, t, rfl, rfl⟩ | ⟨x, t, rfl, rfl⟩
    · rcases keyIs_shape hb with ⟨j, u, rfl, e⟩ | ⟨y, u, rfl, e⟩
      · injection e with e1 _; rw [e1]
      · exact nomatch e
    · rcases keyIs_shape hb with ⟨j, u, rfl, e⟩ | ⟨y, u, rfl, e⟩
      · exact nomatch e
      · injection e with e1 _; rw [e1]
  byValue := fun k v h => by
    rcases keyIs_shape h with ⟨i, t, rfl, rfl⟩ | ⟨x, t, rfl, rfl⟩ <;> rfl
  pyHash := fun hv h => by
    rcases keyIs_shape hv with ⟨i, t, rfl, rfl⟩ | ⟨x, t, rfl, rfl⟩
    · exact wpAny_pyHash_int h
    · exact wpAny_pyHash_str h
  eqBool := fun hu hv h => by
    rcases keyIs_shape hu with ⟨i, t, rfl, rfl⟩ | ⟨x, t, rfl, rfl⟩
    · rcases keyIs_shape hv with ⟨j, u, rfl, rfl⟩ | ⟨y, u, rfl, rfl⟩
      · rw [key_ll] at h; exact wpAny_eqBool_int h
      · rw [key_lr] at h; exact SeqAt.EqAt.int_str i t y u _ _ _ _ h
    · rcases keyIs_shape hv with ⟨j, u, rfl, rfl⟩ | ⟨y, u, rfl, rfl⟩
      · rw [key_rl] at h; exact SeqAt.EqAt.str_int x t j u _ _ _ _ h
      · rw [key_rr] at h; exact wpAny_eqBool_str h
  «strs» := fun k x t v h => by
    rcases keyIs_shape h with ⟨i, u, rfl, e⟩ | ⟨y, u, rfl, e⟩
    · exact nomatch e
    · injection e with e1 _
      subst e1
      cases v <;> rfl

end L2

namespace L2
open PySem PySem.Spec PyProof.Rows

/-- a value, without the heap -/
inductive V where
  | non | bl (b : Bool) | int (i : Int) | str (x : Str) | byt (b : Array UInt8) | flt (b : UInt64) | ref (a : Addr) | ty (n : String)
  deriving DecidableEq

def RelV : V → Value → Prop
  | .non, u => u = Value.none
  | .bl b, u => u = Value.bool b
  | .int i, u => ∃ t, u = Value.int i t
  | .str x, u => ∃ t, u = Value.str x t
  | .byt b, u => ∃ t, u = Value.bytes b t
  | .flt b, u => ∃ t, u = Value.float b t
  | .ref a, u => u = Value.ref a
  | .ty n, u => u = Value.type n

abbrev Vals : List V → List Value → Prop := Paired RelV
theorem Vals.length {xs : List V} {us : List Value} (r : Vals xs us) : xs.length = us.length := Paired.length r
theorem Vals.get : ∀ {xs : List V} {us : List Value} {i : Nat} {x : V}, Vals xs us → xs[i]? = some x → ∃ u, us[i]? = some u ∧ RelV x u
  | _, _, _, _, .nil, e => by simp at e
  | _, _, 0, _, .cons r _, e => by simp at e; subst e; exact ⟨_, rfl, r⟩
  | _, _, i + 1, x, .cons _ t, e => by
    obtain ⟨u, h1, h2⟩ := Vals.get (i := i) (x := x) t (by simpa using e)
    exact ⟨u, by simpa using h1, h2⟩
theorem Vals.set {x : V} {u : Value} (r : RelV x u) : ∀ {xs : List V} {us : List Value} (i : Nat), Vals xs us → Vals (xs.set i x) (us.set i u)
  | _, _, _, .nil => .nil
  | _, _, 0, .cons _ t => .cons r t
  | _, _, i + 1, .cons q t => .cons q (Vals.set r i t)
theorem Vals.append : ∀ {xs ys : List V} {us ws : List Value}, Vals xs us → Vals ys ws → Vals (xs ++ ys) (us ++ ws)
  | _, _, _, _, .nil, s => s
  | _, _, _, _, .cons r t, s => .cons r (Vals.append t s)
theorem Vals.take : ∀ {xs : List V} {us : List Value} (n : Nat), Vals xs us → Vals (xs.take n) (us.take n)
  | _, _, 0, _ => .nil
  | _, _, _ + 1, .nil => .nil
  | _, _, n + 1, .cons r t => .cons r (Vals.take n t)
theorem Vals.drop : ∀ {xs : List V} {us : List Value} (n : Nat), Vals xs us → Vals (xs.drop n) (us.drop n)
  | _, _, 0, r => r
  | _, _, _ + 1, .nil => .nil
  | _, _, n + 1, .cons _ t => Vals.drop n t

def RelO : Option V → Option Value → Prop
  | some v, some u => RelV v u
  | none, none => True
  | _, _ => False
def KV {κ : Type} : List (κ × V) → List (κ × Value) → Prop := Paired fun (p : κ × V) (q : κ × Value) => p.1 = q.1 ∧ RelV p.2 q.2

/-- a key of a dict (00_mix): an int or a text -/
def kV : Key → V
  | .inl i => .int i
  | .inr x => .str x

/-- what stands at a tracked address -/
inductive HO where
  /-- a list -/
  | lst (xs : List V)
  /-- a tuple (never changes) -/
  | tup (xs : List V)
  /-- a dict whose keys are ints and texts; one whose keys are tuples of ints and texts (the empty one is both) -/
  | dK (kvs : List (Key × V)) | dT (kvs : List (List Key × V))
  /-- a set of ints: its members, its size -/
  | set (S : Int → Bool) (n : Nat)
  /-- an instance of the class at C, its dict at dx, its attributes -/
  | ins (C dx : Addr) (fs : List (Str × V))
  /-- the dict of the instance at x -/
  | own (x : Addr)
  /-- the dict of an exception -/
  | xd (fs : List (Str × V))
  /-- a bound method, f of x -/
  | met (f x : Addr)
  /-- a range object lo, lo + 1, .. below hi -/
  | rng (lo hi : Int)
  /-- a thing that is known to the object (the script; a dict while a loop walks it): read, never written while it is so -/
  | frz (o : Obj) (u : HO)
  /-- a code object's table -/
  | tbl (ps : Array Value)
  /-- any other thing, by what is true of its one object (a def of one's own: SetO a S n := HO.ext fun h => ..) -/
  | ext (φ : Heap → Prop)

abbrev Hp := Addr → Option HO
def upd (H : Hp) (a : Addr) (o : HO) : Hp := fun b => if b = a then some o else H b
theorem upd_same {H : Hp} {a : Addr} {o : HO} : upd H a o a = some o := by unfold upd; rw [if_pos rfl]
theorem upd_ne {H : Hp} {a b : Addr} {o : HO} (h : b ≠ a) : upd H a o b = H b := by unfold upd; rw [if_neg h]
/-- two objects of different content stand apart -/
theorem ne_of {H : Hp} {a b : Addr} {o u : HO} (h : H a = some o) (h' : H b = some u) (d : o ≠ u) : a ≠ b := by
  intro e; subst e; rw [h] at h'; exact d (Option.some.inj h')
theorem ne_of_none {H : Hp} {a b : Addr} {o : HO} (h : H a = some o) (h' : H b = none) : a ≠ b := by
  intro e; subst e; rw [h] at h'; cases h'

section
variable (P : Program) (w : World)
def ObjOk (H : Hp) (h : Heap) (a : Addr) : HO → Prop
  | .lst xs => xs.length ≤ sizeLine ∧ ∃ (its : List Value) (n : Nat), Vals xs its ∧ h.get? a = some { cls := .type "list", data := .seq its.toArray n }
  | .tup xs => xs.length ≤ sizeLine ∧ ∃ its : List Value, Vals xs its ∧ IsTup h a its.toArray
  | .dK kvs => kvs.length ≤ sizeLine ∧ (a == sysModules) = false ∧ ∃ vs, KV kvs vs ∧ h.DictOf (mixKind P w) a vs
  | .dT kvs => kvs.length ≤ sizeLine ∧ (a == sysModules) = false ∧ ∃ xs : List (List Key × Addr × Value),
      Paired (fun (p : List Key × V) (q : List Key × Addr × Value) => p.1 = q.1 ∧ H q.2.1 = some (.tup (p.1.map kV)) ∧ RelV p.2 q.2.2) kvs xs ∧
      ∃ o es ep, h.get? a = some o ∧ o.ExactDict ∧ o.data = .dict es ep ∧ es.toList = xs.map (entryOfKey (tupleKind (mixKind P w))) ∧ (xs.map (·.1)).Nodup
  | .set S n => h.SetOf (intKind P w) a S n
  | .ins C dx fs => H dx = some (.own a) ∧ fs.length ≤ 1000 ∧ dx ≠ a ∧ h.get? a = some (PySem.W.instObj C dx) ∧
      ∃ mA, h.Ns1 dx mA ∧ (∀ f, RelO (fs.lookup f) (mA f)) ∧ PySem.Within mA (fs.map (·.1))
  | .own _ => ∃ o, h.get? a = some o
  | .xd fs => ∃ mA, h.Ns1 a mA ∧ ∀ f, RelO (fs.lookup f) (mA f)
  | .rng lo hi => ∃ t u v, h.get? a = some { cls := .type "range", data := .fields #[.int lo t, .int hi u, .int 1 v] }
  | .frz o u => h.get? a = some o ∧ ObjOk H h a u
  | .tbl ps => h.get? a = some { cls := .none, data := .fields ps }
  | .met f x => h.get? a = some (PySem.W.methodObj (.ref f) (.ref x))
  | .ext φ => φ h ∧ (∃ o, h.get? a = some o) ∧ ∀ h1 h2 : Heap, φ h1 → (∀ o, h1.get? a = some o → h2.get? a = some o) → φ h2
/-- the abstract heap is held -/
def HOk (H : Hp) (h : Heap) : Prop := ∀ a o, H a = some o → ObjOk P w H h a o
end

section
variable {P : Program} {w : World} {H H' : Hp} {h h' : Heap} {a : Addr} {o : HO}
theorem ObjOk.lt (x : ObjOk P w H h a o) : a < h.objs.size := by
  cases o with
  | lst xs => obtain ⟨_, _, _, _, e⟩ := x; exact Heap.lt_size e
  | tup xs => obtain ⟨_, _, _, p⟩ := x; exact p.lt
  | dK kvs => obtain ⟨_, _, _, _, o, _, _, e, _⟩ := x; exact Heap.lt_size e
  | dT kvs => obtain ⟨_, _, _, _, o, _, _, e, _⟩ := x; exact Heap.lt_size e
  | set S n => obtain ⟨o, _, _, _, e, _⟩ := x; exact Heap.lt_size e
  | ins C dx fs => obtain ⟨_, _, _, e, _⟩ := x; exact Heap.lt_size e
  | own y => obtain ⟨_, e⟩ := x; exact Heap.lt_size e
  | xd fs => obtain ⟨_, ⟨_, _, _, e, _⟩, _⟩ := x; exact Heap.lt_size e
  | rng lo hi => obtain ⟨_, _, _, e⟩ := x; exact Heap.lt_size e
  | frz ob u => obtain ⟨e, _⟩ := x; exact Heap.lt_size e
  | tbl ps => exact Heap.lt_size (show h.get? a = some _ from x)
  | met f y => exact Heap.lt_size (show h.get? a = some _ from x)
  | ext φ => obtain ⟨_, ⟨_, e⟩, _⟩ := x; exact Heap.lt_size e
theorem Paired.mapP {α β : Type} {F G : α → β → Prop} : ∀ {l₁ : List α} {l₂ : List β}, Paired F l₁ l₂ → (∀ a b, F a b → G a b) → Paired G l₁ l₂
  | _, _, .nil, _ => .nil
  | _, _, .cons r t, f => .cons (f _ _ r) (Paired.mapP t f)
/-- what an object's description leans on: its own object, its own dict, the tuples -/
theorem ObjOk.stay (x : ObjOk P w H h a o) (k : ∀ b u, (b = a ∨ H b = some (.own a)) → h.get? b = some u → h'.get? b = some u)
    (ho : ∀ b, H b = some (.own a) → H' b = some (.own a)) (ht : ∀ b xs, H b = some (.tup xs) → H' b = some (.tup xs)) : ObjOk P w H' h' a o := by
  induction o with
  | lst xs => obtain ⟨z, its, n, r, e⟩ := x; exact ⟨z, its, n, r, k _ _ (.inl rfl) e⟩
  | tup xs => obtain ⟨z, its, r, ob, e, c⟩ := x; exact ⟨z, its, r, ob, k _ _ (.inl rfl) e, c⟩
  | dK kvs => obtain ⟨z, y, vs, r, ob, es, ep, e, c⟩ := x; exact ⟨z, y, vs, r, ob, es, ep, k _ _ (.inl rfl) e, c⟩
  | dT kvs =>
    obtain ⟨z, y, xs, r, ob, es, ep, e, c⟩ := x
    exact ⟨z, y, xs, Paired.mapP r fun p q z => ⟨z.1, ht _ _ z.2.1, z.2.2⟩, ob, es, ep, k _ _ (.inl rfl) e, c⟩
  | set S n => obtain ⟨ob, es, ep, t, e, c⟩ := x; exact ⟨ob, es, ep, t, k _ _ (.inl rfl) e, c⟩
  | ins C dx fs =>
    obtain ⟨d, z, ne, e, mA, ⟨od, es, ep, e2, c⟩, r⟩ := x
    exact ⟨ho _ d, z, ne, k _ _ (.inl rfl) e, mA, ⟨od, es, ep, k _ _ (.inr d) e2, c⟩, r⟩
  | own y => obtain ⟨ob, e⟩ := x; exact ⟨ob, k _ _ (.inl rfl) e⟩
  | xd fs => obtain ⟨mA, ⟨od, es, ep, e, c⟩, r⟩ := x; exact ⟨mA, ⟨od, es, ep, k _ _ (.inl rfl) e, c⟩, r⟩
  | rng lo hi => obtain ⟨t, u, v, e⟩ := x; exact ⟨t, u, v, k _ _ (.inl rfl) e⟩
  | frz ob u ih => obtain ⟨e, q⟩ := x; exact ⟨k _ _ (.inl rfl) e, ih q⟩
  | tbl ps =>
    have e : h.get? a = some { cls := .none, data := .fields ps } := x
    show h'.get? a = some { cls := .none, data := .fields ps }
    exact k a _ (.inl rfl) e
  | met f y =>
    have e : h.get? a = some (PySem.W.methodObj (.ref f) (.ref y)) := x
    show h'.get? a = some (PySem.W.methodObj (.ref f) (.ref y))
    exact k a _ (.inl rfl) e
  | ext φ => obtain ⟨p, ⟨o, e⟩, st⟩ := x; exact ⟨st _ _ p fun o q => k _ _ (.inl rfl) q, ⟨o, k _ _ (.inl rfl) e⟩, st⟩
theorem HOk.lt (x : HOk P w H h) (e : H a = some o) : a < h.objs.size := (x a o e).lt
theorem HOk.fresh (x : HOk P w H h) (e : h.objs.size ≤ a) : H a = none := by
  cases q : H a with
  | none => rfl
  | some u => exact absurd (Nat.lt_of_lt_of_le (x.lt q) e) (Nat.lt_irrefl _)
/-- every object of the heap is kept -/
theorem HOk.kept (x : HOk P w H h) (k : ∀ b u, h.get? b = some u → h'.get? b = some u) : HOk P w H h' := fun a o e =>
  (x a o e).stay (fun b u _ q => k b u q) (fun _ q => q) fun _ _ q => q
/-- a new object is laid and tracked -/
theorem HOk.laid (x : HOk P w H h) (k : ∀ b u, h.get? b = some u → h'.get? b = some u) (hp : h.objs.size ≤ a) (new : ObjOk P w (upd H a o) h' a o) : HOk P w (upd H a o) h' := fun b u e => by
  have hn := x.fresh hp
  by_cases hb : b = a
  · subst hb; rw [upd_same] at e; cases e; exact new
  · rw [upd_ne hb] at e
    exact (x b u e).stay (fun c v _ q => k c v q) (fun c q => by rw [upd_ne (ne_of_none q hn)]; exact q) fun c xs q => by rw [upd_ne (ne_of_none q hn)]; exact q
end

/-- what may be read as u: it is u, or a known u -/
def Rd (H : Hp) (a : Addr) (u : HO) : Prop := H a = some u ∨ ∃ o, H a = some (.frz o u)
theorem Rd.ok {P : Program} {w : World} {H : Hp} {h : Heap} {a : Addr} {u : HO} (r : Rd H a u) (x : HOk P w H h) : ObjOk P w H h a u := by
  rcases r with r | ⟨o, r⟩
  · exact x a u r
  · obtain ⟨_, q⟩ := x a _ r
    exact q
/-- what may be written -/
def Mut : Option HO → Prop
  | some (.lst _) => True
  | some (.dK _) => True
  | some (.dT _) => True
  | some (.set _ _) => True
  | some (.ins _ _ _) => True
  | some (.ext _) => True
  | _ => False
section
variable {P : Program} {w : World} {H : Hp} {h h' : Heap} {x e : Addr} {o' : HO}
/-- the object at e is changed: x itself, or the dict of the instance x -/
theorem HOk.write (ok : HOk P w H h) (mu : Mut (H x)) (he : e = x ∨ H e = some (.own x)) (k : ∀ b u, b ≠ e → h.get? b = some u → h'.get? b = some u) (heo : ∃ u, h'.get? e = some u)
    (new : ObjOk P w (upd H x o') h' x o') : HOk P w (upd H x o') h' := fun b u q => by
  have nown : ∀ c y, H c = some (.own y) → c ≠ x := fun c y r z => by subst z; rw [r] at mu; exact mu
  have ntup : ∀ c xs, H c = some (.tup xs) → c ≠ x := fun c xs r z => by subst z; rw [r] at mu; exact mu
  by_cases hb : b = x
  · subst hb; rw [upd_same] at q; cases q; exact new
  · rw [upd_ne hb] at q
    by_cases hbe : b = e
    · have q' : H b = some (.own x) := by
        rcases he with z | z
        · exact absurd (hbe.trans z) hb
        · rw [hbe]; exact z
      rw [q] at q'; cases q'
      obtain ⟨v, hv⟩ := heo
      exact ⟨v, by rw [hbe]; exact hv⟩
    · refine (ok b u q).stay (fun c v hc r => k c v ?_ r) (fun c r => by rw [upd_ne (nown c b r)]; exact r) fun c xs r => by rw [upd_ne (ntup c xs r)]; exact r
      rcases hc with rfl | hc
      · exact hbe
      · rintro rfl
        rcases he with z | z
        · exact nown c b hc z
        · rw [hc] at z; cases z; exact hb rfl
end

/-! ### kept unless tracked; of the frames at fs (the callers') the slots may change (an exception that passes writes there); of the records at ex (iterators) nothing is said -/
structure Un (fs ex : List Addr) (H H' : Hp) (h h' : Heap) : Prop where
  keep : ∀ b o, h.get? b = some o → H b = none → b ∉ fs → b ∉ ex → h'.get? b = some o
  slot : ∀ b o, h.get? b = some o → H b = none → b ∈ fs → b ∉ ex → ∃ sl, h'.get? b = some { o with slots := sl }
  free : ∀ b o, h.get? b = some o → H b = none → b ∉ ex → H' b = none
  there : ∀ b o, h.get? b = some o → b ∉ ex → ∃ o', h'.get? b = some o'
  tups : ∀ b xs, H b = some (.tup xs) → H' b = some (.tup xs)
  frzs : ∀ b o u, H b = some (.frz o u) → H' b = some (.frz o u)
  tbls : ∀ b ps, H b = some (.tbl ps) → ∃ more, H' b = some (.tbl (ps ++ more))
section
variable {fs fs' ex ex' : List Addr} {H H1 H2 : Hp} {h h1 h2 h' : Heap} {a x e : Addr} {o : HO}
theorem Un.any (u : Un fs ex H H1 h h1) {b : Addr} {ob : Obj} (q : h.get? b = some ob) (n : H b = none) (hx : b ∉ ex) : ∃ sl, h1.get? b = some { ob with slots := sl } := by
  by_cases hb : b ∈ fs
  · exact u.slot b ob q n hb hx
  · exact ⟨ob.slots, u.keep b ob q n hb hx⟩
theorem Un.kept (k : ∀ b u, h.get? b = some u → h'.get? b = some u) : Un fs ex H H h h' :=
  ⟨fun b ob q _ _ _ => k b ob q, fun b ob q _ _ _ => ⟨ob.slots, k b ob q⟩, fun _ _ _ n _ => n, fun b ob q _ => ⟨ob, k b ob q⟩, fun _ _ q => q, fun _ _ _ q => q, fun _ ps q => ⟨#[], by rw [q]; simp⟩⟩
theorem Un.refl : Un fs ex H H h h := Un.kept fun _ _ q => q
theorem Un.laid (k : ∀ b u, h.get? b = some u → h'.get? b = some u) (hp : h.objs.size ≤ a) (hn : H a = none) : Un fs ex H (upd H a o) h h' where
  keep := fun b u q _ _ _ => k b u q
  slot := fun b u q _ _ _ => ⟨u.slots, k b u q⟩
  free := fun b u q n _ => by rw [upd_ne (Nat.ne_of_lt (Nat.lt_of_lt_of_le (Heap.lt_size q) hp))]; exact n
  there := fun b u q _ => ⟨u, k b u q⟩
  tups := fun b xs q => by rw [upd_ne (ne_of_none q hn)]; exact q
  frzs := fun b u xs q => by rw [upd_ne (ne_of_none q hn)]; exact q
  tbls := fun b ps q => ⟨#[], by rw [upd_ne (ne_of_none q hn), q]; simp⟩
theorem Un.write (mu : Mut (H x)) (he : e = x ∨ H e = some (.own x)) (k : ∀ b u, b ≠ e → h.get? b = some u → h'.get? b = some u) (heo : ∃ u, h'.get? e = some u) : Un fs ex H (upd H x o) h h' := by
  have hx : ∀ b, H b = none → b ≠ x := fun b n z => by subst z; rw [n] at mu; exact mu
  have hb : ∀ b, H b = none → b ≠ e := fun b n z => by
    subst z
    rcases he with r | r
    · exact hx b n r
    · rw [n] at r; cases r
  have hm : ∀ b u, H b = some u → ¬ Mut (some u) → b ≠ x := fun b u q nm z => by subst z; rw [q] at mu; exact nm mu
  refine ⟨fun b u q n _ _ => k b u (hb b n) q, fun b u q n _ _ => ⟨u.slots, k b u (hb b n) q⟩, fun b u q n _ => by rw [upd_ne (hx b n)]; exact n, fun b u q _ => ?_,
    fun b xs q => by rw [upd_ne (hm b _ q fun z => z)]; exact q, fun b u xs q => by rw [upd_ne (hm b _ q fun z => z)]; exact q, fun b ps q => ⟨#[], by rw [upd_ne (hm b _ q fun z => z), q]; simp⟩⟩
  by_cases hbe : b = e
  · subst hbe; exact heo
  · exact ⟨u, k b u hbe q⟩
end

/-! ### the heap without what is tracked -/
def trk (h : Heap) (H : Hp) : List Addr := (List.range h.objs.size).filter fun a => (H a).isSome
def hidT (h : Heap) (H : Hp) : Heap := PySem.W.hideAll h (trk h H)
theorem hidT_size (h : Heap) (H : Hp) : (hidT h H).objs.size = h.objs.size := PySem.W.hideAll_size _ _
theorem hidT_get {h : Heap} {H : Hp} {b : Addr} {o : Obj} (e : h.get? b = some o) (n : H b = none) : (hidT h H).get? b = some o :=
  PySem.W.hideAll_get _ e fun hm => by
    have q : (H b).isSome = true := (List.mem_filter.mp hm).2
    rw [n] at q; simp at q
theorem of_hidT {h : Heap} {H : Hp} {b : Addr} {o : Obj} (e : (hidT h H).get? b = some o) : h.get? b = some o ∧ H b = none := by
  have e' : h.get? b = some o := PySem.W.of_hideAll (trk h H) e
  refine ⟨e', ?_⟩
  cases q : H b with
  | none => rfl
  | some x =>
    have hm : b ∈ trk h H := List.mem_filter.mpr ⟨List.mem_range.mpr (Heap.lt_size e'), by simp [q]⟩
    have z : (hidT h H).get? b = none := PySem.W.hideAll_none (trk h H) hm
    rw [z] at e; cases e

/-! ### OpenK's ledger, filled with every new object but one -/
end L2

namespace L2
open PySem PySem.Spec PyProof.Rows

/-- the module's facts, over the base: the heap at the law's entry without what is tracked there -/
structure Mod (K : PySem.W.Frag) (mg : Str → Option Value) (base : Heap) : Prop where
  kin : K.In base
  glob : base.Ns mainGlobals mg
  blt : ∃ mb, base.Ns builtinsNs mb ∧ ∀ x : Str, x ≠ "__name__" → mb x = bootBuiltins x
  nolimit : base.NoLimit

/-- the context: a def's body (or a comprehension's block) running. base: fixed through the whole law; s₀, H₀: the entry; outer: the frames whose slots others may change (a def's callers); stack: all frames that run;
   ex: iterators that were made ahead of the entry and are walked here (a comprehension's); fn: the names whose cells were made at the entry (a def: all; a comprehension's block: its own); calm: not within an except suite; pn: pins that every state bears; xe: what is wanted of an exception that leaves the code -/
structure Cx where
  prog : Program
  w : World
  K : PySem.W.Frag
  mg : Str → Option Value
  base : Heap
  A : Around
  N : List Str
  s_0 : Shared
  H_0 : Hp
  env : Env
  outer : List Env
  stack : List Env
  ex : List Addr
  fn : Str → Bool
  calm : Bool
  pn : List (Addr × Obj)
  xe : Value → Shared → Prop
/-- the callers' frames -/
def frs (l : List Env) : List Addr := l.filterMap (·.frame)
abbrev Cx.fs (X : Cx) : List Addr := frs X.outer

def Vis (sc : Scope) (x : Str) : Prop := sc.names.lookup x = some .local ∨ sc.names.lookup x = some .cell ∨ sc.names.lookup x = some .free
def Loc (sc : Scope) (x : Str) : Prop := sc.names.lookup x = some .local ∨ sc.names.lookup x = some .cell
def Look (env : Env) (h : Heap) (m : Str → Option Value) (x : Str) (u : Value) : Prop :=
  (env.kindOf x = some .local ∧ m x = some u) ∨ ((env.kindOf x = some .cell ∨ env.kindOf x = some .free) ∧ ∃ c, env.cells.lookup x = some c ∧ h.IsCell c (some u))

structure Cx.Ok (X : Cx) : Prop where
  mod : Mod X.K X.mg X.base
  kind : X.env.scope.kind = .function
  glob : X.env.globals = mainGlobals
  blt : X.env.builtins = builtinsNs
  above : X.s_0.heap.objs.size ≤ X.env.locals
  inj : ∀ x y c, X.env.cells.lookup x = some c → X.env.cells.lookup y = some c → x = y
  has : ∀ x, (X.env.kindOf x = some .cell ∨ X.env.kindOf x = some .free) → ∃ c, X.env.cells.lookup x = some c
  cab : ∀ x c, X.fn x = true → X.env.cells.lookup x = some c → X.s_0.heap.objs.size ≤ c
  hd : X.calm = true → X.A.handled = none
  frames : X.A.frames = some X.stack
  stk : X.stack = X.outer ∨ (X.stack = X.env :: X.outer ∧ X.env.frame = some X.env.locals)
  exf : ∀ b ∈ X.ex, b ≠ X.env.locals ∧ ∀ x c, X.env.cells.lookup x = some c → c ≠ b
  bs : ∀ b o, X.base.get? b = some o → X.s_0.heap.get? b = some o ∧ X.H_0 b = none
  bsz : X.base.objs.size ≤ X.s_0.heap.objs.size
  noex : ∀ b o, X.base.get? b = some o → b ∉ X.ex
  exfs : ∀ b ∈ X.ex, b ∉ X.fs
  funs : X.s_0.heap.FunFrames X.base X.outer
  frf : ∀ b ∈ X.fs, X.H_0 b = none

structure Inv (X : Cx) (pins : List (Addr × Obj)) (σ : List (Option V)) (H : Hp) (s : Shared) : Prop where
  ok : X.Ok
  os : s.os = X.s_0.os
  bare : AllBare s.gens
  base : Un X.fs X.ex X.H_0 H X.s_0.heap s.heap
  loc : ∃ m, s.heap.Ns X.env.locals m ∧ ∀ (i : Nat) (x : Str) (v : V), X.N[i]? = some x → σ[i]? = some (some v) → Vis X.env.scope x → ∃ u, RelV v u ∧ Look X.env s.heap m x u
  cell : ∀ x c, X.env.cells.lookup x = some c → ∃ v, s.heap.IsCell c v
  free : H X.env.locals = none
  freeC : ∀ x c, X.env.cells.lookup x = some c → H c = none
  pin : ∀ p ∈ X.pn ++ pins, s.heap.get? p.1 = some p.2 ∧ H p.1 = none ∧ p.1 ≠ X.env.locals ∧ p.1 ∉ X.fs ∧ ∀ v, p.2.data ≠ .cell v
  hok : HOk X.prog X.w H s.heap
  len : σ.length = X.N.length

section
variable {X : Cx} {pins : List (Addr × Obj)} {σ : List (Option V)} {H H' : Hp} {s : Shared} {h' : Heap}

theorem Cx.Ok.nofr (ok : X.Ok) {b : Addr} {o : Obj} (e : X.base.get? b = some o) : b ∉ X.fs := fun hb => by
  have := (ok.funs.mem hb).1
  rw [e] at this; cases this
theorem Inv.bs (I : Inv X pins σ H s) : ∀ b o, X.base.get? b = some o → s.heap.get? b = some o ∧ H b = none := fun b o e =>
  ⟨I.base.keep b o (I.ok.bs b o e).1 (I.ok.bs b o e).2 (I.ok.nofr e) (I.ok.noex b o e), I.base.free b o (I.ok.bs b o e).1 (I.ok.bs b o e).2 (I.ok.noex b o e)⟩
theorem Inv.bk (I : Inv X pins σ H s) : ∀ b o, X.base.get? b = some o → s.heap.get? b = some o := fun b o e => (I.bs b o e).1
theorem Inv.mod (I : Inv X pins σ H s) : Mod X.K X.mg X.base := I.ok.mod
theorem Inv.kIn (I : Inv X pins σ H s) : X.K.In s.heap := I.ok.mod.kin.keeps I.bk
/-- the frame over the base: for OpenK's rules (K.In X.base is I.mod.kin) -/
theorem Inv.fr (I : Inv X pins σ H s) : ∃ m, Fr X.base X.env.locals s.heap m :=
  let ⟨m, hn, _⟩ := I.loc
  ⟨m, hn, I.bk, Nat.le_trans I.ok.bsz I.ok.above⟩
theorem Inv.lt (I : Inv X pins σ H s) : X.env.locals < s.heap.objs.size := let ⟨_, hn, _⟩ := I.loc; hn.lt
theorem Inv.sz (I : Inv X pins σ H s) : X.s_0.heap.objs.size ≤ s.heap.objs.size := Nat.le_trans I.ok.above (Nat.le_of_lt I.lt)
theorem Inv.nofs (I : Inv X pins σ H s) {a : Addr} (h : s.heap.objs.size ≤ a) : a ∉ X.fs := fun hb => by
  obtain ⟨_, o, ho, _⟩ := I.ok.funs.mem hb
  exact absurd (Nat.lt_of_lt_of_le (Heap.lt_size ho) (Nat.le_trans I.sz h)) (Nat.lt_irrefl _)
theorem Inv.cne (I : Inv X pins σ H s) : ∀ x c, X.env.cells.lookup x = some c → c ≠ X.env.locals := fun x c e z => by
  obtain ⟨v, o, ho, hd⟩ := I.cell x c e
  obtain ⟨m, ⟨o', es, ep, ho', hd', _⟩, _⟩ := I.loc
  rw [z, ho'] at ho; cases ho; rw [hd'] at hd; cases hd
theorem Inv.funs (I : Inv X pins σ H s) : s.heap.FunFrames X.base X.outer := by
  have all : ∀ (l : List Env), (∀ b ∈ frs l, b ∈ X.fs) → X.s_0.heap.FunFrames X.base l → s.heap.FunFrames X.base l := by
    intro l
    induction l with
    | nil => intro _ _; trivial
    | cons env r ih =>
      intro hs hl
      obtain ⟨hk, ⟨L, o, hf, hn, ho, hd⟩, hr⟩ := hl
      have hL : L ∈ X.fs := hs L (by unfold frs; rw [List.filterMap_cons, hf]; exact List.mem_cons_self)
      obtain ⟨sl, e⟩ := I.base.slot L o ho (I.ok.frf L hL) hL fun z => I.ok.exfs L z hL
      exact ⟨hk, ⟨L, _, hf, hn, e, hd⟩, ih (fun b hb => hs b (by unfold frs; rw [List.filterMap_cons, hf]; exact List.mem_cons_of_mem _ hb)) hr⟩
  exact all X.outer (fun _ hb => hb) I.ok.funs

/-- the frames that run, for a call -/
theorem Inv.stack (I : Inv X pins σ H s) : s.heap.FunFrames X.base X.stack := by
  rcases I.ok.stk with e | ⟨e, hf⟩
  · rw [e]; exact I.funs
  · rw [e]
    obtain ⟨m, hn, _⟩ := I.loc
    refine .cons (by rw [I.ok.kind]; decide) hf hn ?_ I.funs
    exact Heap.get?_none_of_le (Nat.le_trans I.ok.bsz I.ok.above)
theorem Inv.stkSub (I : Inv X pins σ H s) : ∀ b ∈ frs X.stack, b ∈ X.env.locals :: X.fs := fun b hb => by
  rcases I.ok.stk with e | ⟨e, hf⟩
  · rw [e] at hb; exact List.mem_cons_of_mem _ hb
  · rw [e] at hb
    unfold frs at hb
    rw [List.filterMap_cons, hf] at hb
    exact hb
theorem Inv.stkFree (I : Inv X pins σ H s) : ∀ b ∈ frs X.stack, H b = none := fun b hb => by
  rcases List.mem_cons.mp (I.stkSub b hb) with e | hb
  · rw [e]; exact I.free
  · obtain ⟨_, o, ho, _⟩ := I.ok.funs.mem hb
    exact I.base.free b o ho (I.ok.frf b hb) fun z => I.ok.exfs b z hb

/-- THE STEP: the untracked objects but the frame and the records at ch are kept (the callers' frames up to slots), the frame's map is kept, the new abstract heap is held -/
theorem Inv.step {g' : Array GenState} {t' : Nat} {d' : Drawn} {ch : List Addr} (I : Inv X pins σ H s)
    (hch : ∀ b ∈ ch, (b ∈ X.ex ∨ X.s_0.heap.objs.size ≤ b) ∧ b ≠ X.env.locals ∧ (∀ x c, X.env.cells.lookup x = some c → c ≠ b) ∧ ∀ p ∈ X.pn ++ pins, p.1 ≠ b)
    (keep : ∀ b o, b ≠ X.env.locals → b ∉ X.fs → b ∉ ch → s.heap.get? b = some o → H b = none → h'.get? b = some o)
    (slot : ∀ b o, b ≠ X.env.locals → b ∈ X.fs → b ∉ ch → s.heap.get? b = some o → H b = none → ∃ sl, h'.get? b = some { o with slots := sl }) (free : ∀ b o, b ∉ ch → s.heap.get? b = some o → H b = none → H' b = none)
    (there : ∀ b o, b ∉ ch → s.heap.get? b = some o → ∃ o', h'.get? b = some o')
    (tups : ∀ b xs, H b = some (.tup xs) → H' b = some (.tup xs)) (frzs : ∀ b o u, H b = some (.frz o u) → H' b = some (.frz o u)) (tbls : ∀ b ps, H b = some (.tbl ps) → ∃ more, H' b = some (.tbl (ps ++ more)))
    (ns : ∀ m, s.heap.Ns X.env.locals m → h'.Ns X.env.locals m) (hok : HOk X.prog X.w H' h') (hg : AllBare g') :
    Inv X pins σ H' { s with heap := h', gens := g', drawn := d', toks := t' } := by
  have neL : ∀ b o, X.s_0.heap.get? b = some o → b ≠ X.env.locals := fun b o e => Nat.ne_of_lt (Nat.lt_of_lt_of_le (Heap.lt_size e) I.ok.above)
  have neC : ∀ b o, X.s_0.heap.get? b = some o → b ∉ X.ex → b ∉ ch := fun b o e hx hb => by
    rcases (hch b hb).1 with z | z
    · exact hx z
    · exact absurd (Nat.lt_of_lt_of_le (Heap.lt_size e) z) (Nat.lt_irrefl _)
  have cellK : ∀ x c, X.env.cells.lookup x = some c → ∀ v, s.heap.IsCell c v → h'.IsCell c v := fun x c e v ⟨o, ho, hd⟩ => by
    have nch : c ∉ ch := fun z => (hch c z).2.2.1 x c e rfl
    by_cases hc : c ∈ X.fs
    · obtain ⟨sl, q⟩ := slot c o (I.cne x c e) hc nch ho (I.freeC x c e)
      exact ⟨_, q, hd⟩
    · exact ⟨o, keep c o (I.cne x c e) hc nch ho (I.freeC x c e), hd⟩
  refine ⟨I.ok, I.os, hg, ⟨fun b o e n hb hx => ?_, fun b o e n hb hx => ?_, fun b o e n hx => ?_, fun b o e hx => ?_, fun b xs e => tups b xs (I.base.tups b xs e), fun b o xs e => frzs b o xs (I.base.frzs b o xs e), fun b ps e => ?_⟩, ?_, fun x c e => ?_, ?_, fun x c e => ?_, fun p hp => ?_, hok, I.len⟩
  · exact keep b o (neL b o e) hb (neC b o e hx) (I.base.keep b o e n hb hx) (I.base.free b o e n hx)
  · obtain ⟨sl, e1⟩ := I.base.slot b o e n hb hx
    obtain ⟨sl', e2⟩ := slot b _ (neL b o e) hb (neC b o e hx) e1 (I.base.free b o e n hx)
    exact ⟨sl', e2⟩
  · obtain ⟨o', e1⟩ := I.base.there b o e hx
    exact free b o' (neC b o e hx) e1 (I.base.free b o e n hx)
  · obtain ⟨o', e1⟩ := I.base.there b o e hx
    exact there b o' (neC b o e hx) e1
  · obtain ⟨m1, e1⟩ := I.base.tbls b ps e
    obtain ⟨m2, e2⟩ := tbls b _ e1
    exact ⟨m1 ++ m2, by rw [e2, Array.append_assoc]⟩
  · obtain ⟨m, hn, hl⟩ := I.loc
    refine ⟨m, ns m hn, fun i x v e1 e2 e3 => ?_⟩
    obtain ⟨u, r, l⟩ := hl i x v e1 e2 e3
    refine ⟨u, r, ?_⟩
    rcases l with l | ⟨k, c, e, z⟩
    · exact .inl l
    · exact .inr ⟨k, c, e, cellK x c e _ z⟩
  · obtain ⟨v, z⟩ := I.cell x c e
    exact ⟨v, cellK x c e v z⟩
  · obtain ⟨m, ⟨o, _, _, ho, _⟩, _⟩ := I.loc
    exact free _ o (fun z => (hch _ z).2.1 rfl) ho I.free
  · obtain ⟨v, o, ho, hd⟩ := I.cell x c e
    exact free c o (fun z => (hch c z).2.2.1 x c e rfl) ho (I.freeC x c e)
  · obtain ⟨e, n, ne, nf, d⟩ := I.pin p hp
    have nch : p.1 ∉ ch := fun z => (hch p.1 z).2.2.2 p hp rfl
    exact ⟨keep p.1 p.2 ne nf nch e n, free p.1 p.2 nch e n, ne, nf, d⟩
/-- .. where the frame's own object is kept too -/
theorem Inv.un {t' : Nat} (I : Inv X pins σ H s) (u : Un X.fs [] H H' s.heap h') (hok : HOk X.prog X.w H' h') : Inv X pins σ H' { s with heap := h', toks := t' } := by
  obtain ⟨m, ⟨o, es, ep, ho, r⟩, _⟩ := id I.loc
  obtain ⟨sl, hL⟩ := u.any ho I.free (by simp)
  exact I.step (g' := s.gens) (d' := s.drawn) (ch := []) (fun _ z => nomatch z) (fun b o _ hb _ e n => u.keep b o e n hb (by simp)) (fun b o _ hb _ e n => u.slot b o e n hb (by simp)) (fun b o _ e n => u.free b o e n (by simp)) (fun b o _ e => u.there b o e (by simp)) u.tups u.frzs u.tbls (fun m' hm => by
    obtain ⟨o', es', ep', ho', r'⟩ := hm
    rw [ho] at ho'; cases ho'
    exact ⟨_, es', ep', hL, r'⟩) hok I.bare
/-- behind a call (or a comprehension's block): the slots of this frame may have changed too, the records at ch may have turned -/
theorem Inv.call {g' : Array GenState} {t' : Nat} {d' : Drawn} {ch : List Addr} (I : Inv X pins σ H s) (u : Un (frs X.stack) ch H H' s.heap h') (hok : HOk X.prog X.w H' h') (hg : AllBare g')
    (hch : ∀ b ∈ ch, (b ∈ X.ex ∨ X.s_0.heap.objs.size ≤ b) ∧ b ≠ X.env.locals ∧ (∀ x c, X.env.cells.lookup x = some c → c ≠ b) ∧ ∀ p ∈ X.pn ++ pins, p.1 ≠ b) :
    Inv X pins σ H' { s with heap := h', gens := g', drawn := d', toks := t' } := by
  obtain ⟨m, ⟨o, es, ep, ho, r⟩, _⟩ := id I.loc
  obtain ⟨sl, hL⟩ := u.any ho I.free fun z => (hch _ z).2.1 rfl
  exact I.step (ch := ch) hch (fun b o hL hb hc e n => u.keep b o e n (fun z => (List.mem_cons.mp (I.stkSub b z)).elim hL hb) hc) (fun b o _ _ hc e n => u.any e n hc) (fun b o hc e n => u.free b o e n hc) (fun b o hc e => u.there b o e hc) u.tups u.frzs u.tbls (fun m' hm => by
    obtain ⟨o', es', ep', ho', r'⟩ := hm
    rw [ho] at ho'; cases ho'
    exact ⟨_, es', ep', hL, r'⟩) hok hg
/-- an untracked record of ours (an iterator) has turned -/
theorem Inv.turned {t' : Nat} {it : Addr} (I : Inv X pins σ H s) (k : ∀ b o, b ≠ it → s.heap.get? b = some o → h'.get? b = some o) (hn : H it = none) (hL : it ≠ X.env.locals)
    (h1 : it ∈ X.ex ∨ X.s_0.heap.objs.size ≤ it) (h2 : ∀ x c, X.env.cells.lookup x = some c → c ≠ it) (h3 : ∀ p ∈ X.pn ++ pins, p.1 ≠ it) : Inv X pins σ H { s with heap := h', toks := t' } := by
  have nit : ∀ b u, H b = some u → b ≠ it := fun b u e z => by rw [z, hn] at e; cases e
  refine I.step (g' := s.gens) (d' := s.drawn) (ch := [it]) (fun b hb => ?_) (fun b o _ _ hc e _ => k b o (fun z => hc (by simp [z])) e) (fun b o _ _ hc e _ => ⟨o.slots, k b o (fun z => hc (by simp [z])) e⟩) (fun _ _ _ _ n => n)
    (fun b o hc e => ⟨o, k b o (fun z => hc (by simp [z])) e⟩) (fun _ _ e => e) (fun _ _ _ e => e) (fun b ps e => ⟨#[], by rw [e]; simp⟩) (fun m hm => ?_) (fun b u e => ?_) I.bare
  · have e : b = it := by simpa using hb
    subst e
    exact ⟨h1, hL, h2, h3⟩
  · obtain ⟨o, es, ep, ho, r⟩ := hm
    exact ⟨o, es, ep, k _ o (Ne.symm hL) ho, r⟩
  · refine (I.hok b u e).stay (fun c v hc q => k c v ?_ q) (fun _ q => q) fun _ _ q => q
    rcases hc with z | z
    · rw [z]; exact nit b u e
    · exact nit c _ z
theorem Inv.tok (I : Inv X pins σ H s) (t : Nat) : Inv X pins σ H { s with toks := t } := I.un (h' := s.heap) (t' := t) Un.refl I.hok
/-- all objects kept -/
theorem Inv.kept {t' : Nat} (I : Inv X pins σ H s) (k : ∀ b u, s.heap.get? b = some u → h'.get? b = some u) : Inv X pins σ H { s with heap := h', toks := t' } := I.un (Un.kept k) (I.hok.kept k)
/-- a new object laid and tracked -/
theorem Inv.laid {a : Addr} {o : HO} {t' : Nat} (I : Inv X pins σ H s) (k : ∀ b u, s.heap.get? b = some u → h'.get? b = some u) (hp : s.heap.objs.size ≤ a) (new : ObjOk X.prog X.w (upd H a o) h' a o) :
    Inv X pins σ (upd H a o) { s with heap := h', toks := t' } := I.un (Un.laid k hp (I.hok.fresh hp)) (I.hok.laid k hp new)
/-- an object written -/
theorem Inv.write {x e : Addr} {o : HO} {t' : Nat} (I : Inv X pins σ H s) (mu : Mut (H x)) (he : e = x ∨ H e = some (.own x)) (k : ∀ b u, b ≠ e → s.heap.get? b = some u → h'.get? b = some u) (heo : ∃ u, h'.get? e = some u)
    (new : ObjOk X.prog X.w (upd H x o) h' x o) : Inv X pins σ (upd H x o) { s with heap := h', toks := t' } := I.un (Un.write mu he k heo) (I.hok.write mu he k heo new)
/-- forgetting slots, pins -/
theorem Inv.weak {σ' : List (Option V)} (I : Inv X pins σ H s) (hl : σ'.length = σ.length) (w : ∀ (i : Nat) v, σ'[i]? = some (some v) → σ[i]? = some (some v)) : Inv X pins σ' H s :=
  ⟨I.ok, I.os, I.bare, I.base, let ⟨m, hn, hl'⟩ := I.loc; ⟨m, hn, fun i x v e1 e2 e3 => hl' i x v e1 (w i v e2) e3⟩, I.cell, I.free, I.freeC, I.pin, I.hok, hl.trans I.len⟩
theorem Inv.pins_of {pins' : List (Addr × Obj)} (I : Inv X pins σ H s) (h : ∀ p ∈ pins', s.heap.get? p.1 = some p.2 ∧ H p.1 = none ∧ p.1 ≠ X.env.locals ∧ p.1 ∉ X.fs ∧ ∀ v, p.2.data ≠ .cell v) : Inv X pins' σ H s :=
  ⟨I.ok, I.os, I.bare, I.base, I.loc, I.cell, I.free, I.freeC, fun p hp => (List.mem_append.mp hp).elim (fun z => I.pin p (List.mem_append_left _ z)) (h p), I.hok, I.len⟩

theorem nodup_ix {N : List Str} (hN : N.Nodup) {i j : Nat} {x : Str} (a : N[i]? = some x) (b : N[j]? = some x) : i = j := by
  obtain ⟨h1, e1⟩ := List.getElem?_eq_some_iff.mp a
  obtain ⟨h2, e2⟩ := List.getElem?_eq_some_iff.mp b
  exact (List.getElem_inj hN).mp (e1.trans e2.symm)

/-- a name is stored; what changed -/
theorem store_ok2 {M : Model} {A : Around} {E : Value → Shared → Prop} {i : Nat} {x : Str} {v : V} {u : Value} {Q : Unit → Shared → Prop} (I : Inv X pins σ H s) (hN : X.N.Nodup) (hi : X.N[i]? = some x) (hx : Loc X.env.scope x) (r : RelV v u)
    (h : ∀ s', Inv X pins (σ.set i (some v)) H s' → (∃ a, Heap.SameBut a s.heap s'.heap ∧ (a = X.env.locals ∨ X.env.cells.lookup x = some a)) → Q () s') (hf : X.fn x = true ∨ X.env.scope.names.lookup x = some .local := by first | exact .inl rfl | exact .inr rfl | assumption) : wpAny M A (storeName X.env x u) Q E s := by
  obtain ⟨m, hn, hl⟩ := id I.loc
  have hcls : (X.env.scope.kind == .class || (X.env.scope.kind == .module && X.env.locals != X.env.globals)) = false := by rw [I.ok.kind]; rfl
  have hiσ : i < σ.length := by rw [I.len]; exact (List.getElem?_eq_some_iff.mp hi).1
  have cne := I.cne
  have tracked : ∀ {a : Addr} {h' : Heap}, (∃ o, s.heap.get? a = some o ∧ H a = none) → Heap.SameBut a s.heap h' → HOk X.prog X.w H h' := fun {a h'} ha hs b ob e => by
    obtain ⟨_, _, hfree⟩ := ha
    refine (I.hok b ob e).stay (fun c w' hc q => (hs.2 c ?_).trans q) (fun _ q => q) fun _ _ q => q
    rintro rfl
    rcases hc with rfl | hc
    · rw [hfree] at e; cases e
    · rw [hfree] at hc; cases hc
  rcases hx with hk | hk
  · refine wpAny_storeName_local hk hn (fun h' hn' hs => ?_) hcls
    obtain ⟨oL, _, _, hoL, _⟩ := id hn
    refine h _ ⟨I.ok, I.os, I.bare, ⟨fun b o e n hb hx => ?_, fun b o e n hb hx => ?_, I.base.free, fun b o e hx => ?_, I.base.tups, I.base.frzs, I.base.tbls⟩, ⟨_, hn', fun j y v' e1 e2 e3 => ?_⟩, fun y c e => ?_, I.free, I.freeC, fun p hp => ?_, tracked ⟨oL, hoL, I.free⟩ hs, by simpa using I.len⟩ ⟨_, hs, .inl rfl⟩
    · exact (hs.2 b (Nat.ne_of_lt (Nat.lt_of_lt_of_le (Heap.lt_size e) I.ok.above))).trans (I.base.keep b o e n hb hx)
    · obtain ⟨sl, e1⟩ := I.base.slot b o e n hb hx
      exact ⟨sl, (hs.2 b (Nat.ne_of_lt (Nat.lt_of_lt_of_le (Heap.lt_size e) I.ok.above))).trans e1⟩
    · obtain ⟨o', e1⟩ := I.base.there b o e hx
      exact ⟨o', (hs.2 b (Nat.ne_of_lt (Nat.lt_of_lt_of_le (Heap.lt_size e) I.ok.above))).trans e1⟩
    · by_cases hj : j = i
      · subst hj
        rw [hi] at e1; cases e1
        rw [List.getElem?_set_self hiσ] at e2
        cases e2
        exact ⟨u, r, .inl ⟨hk, by simp⟩⟩
      · rw [List.getElem?_set_ne (Ne.symm hj)] at e2
        obtain ⟨u', r', q⟩ := hl j y v' e1 e2 e3
        refine ⟨u', r', ?_⟩
        rcases q with ⟨k, e⟩ | ⟨k, c, e, z⟩
        · refine .inl ⟨k, ?_⟩
          have : y ≠ x := fun e => hj (nodup_ix hN e1 (e ▸ hi))
          simp [this, e]
        · exact .inr ⟨k, c, e, z.sameBut hs (cne y c e)⟩
    · obtain ⟨w', z⟩ := I.cell y c e
      exact ⟨w', z.sameBut hs (cne y c e)⟩
    · obtain ⟨e, n, ne, nf, d⟩ := I.pin p hp
      exact ⟨(hs.2 p.1 ne).trans e, n, ne, nf, d⟩
  · have hfn : X.fn x = true := by
      rcases hf with z | z
      · exact z
      · rw [z] at hk; cases hk
    obtain ⟨c, hc⟩ := I.ok.has x (.inl hk)
    obtain ⟨w', z⟩ := I.cell x c hc
    refine wpAny_storeName_cell I.ok.kind hk hc z (fun h' hc' hs => ?_)
    obtain ⟨oc, hoc, hocd⟩ := id z
    refine h { s with heap := h' } ⟨I.ok, I.os, I.bare, ⟨fun b o e n hb hx => ?_, fun b o e n hb hx => ?_, I.base.free, fun b o e hx => ?_, I.base.tups, I.base.frzs, I.base.tbls⟩, ⟨m, hn.sameBut hs (Ne.symm (cne x c hc)), fun j y v' e1 e2 e3 => ?_⟩, fun y c' e => ?_, I.free, I.freeC, fun p hp => ?_, tracked ⟨oc, hoc, I.freeC x c hc⟩ hs, by simpa using I.len⟩ ⟨c, hs, .inr hc⟩
    · exact (hs.2 b (Nat.ne_of_lt (Nat.lt_of_lt_of_le (Heap.lt_size e) (I.ok.cab x c hfn hc)))).trans (I.base.keep b o e n hb hx)
    · obtain ⟨sl, e1⟩ := I.base.slot b o e n hb hx
      exact ⟨sl, (hs.2 b (Nat.ne_of_lt (Nat.lt_of_lt_of_le (Heap.lt_size e) (I.ok.cab x c hfn hc)))).trans e1⟩
    · obtain ⟨o', e1⟩ := I.base.there b o e hx
      exact ⟨o', (hs.2 b (Nat.ne_of_lt (Nat.lt_of_lt_of_le (Heap.lt_size e) (I.ok.cab x c hfn hc)))).trans e1⟩
    · by_cases hj : j = i
      · subst hj
        rw [hi] at e1; cases e1
        rw [List.getElem?_set_self hiσ] at e2
        cases e2
        exact ⟨u, r, .inr ⟨.inl hk, c, hc, hc'⟩⟩
      · rw [List.getElem?_set_ne (Ne.symm hj)] at e2
        obtain ⟨u', r', q⟩ := hl j y v' e1 e2 e3
        refine ⟨u', r', ?_⟩
        rcases q with q | ⟨k, c', e, z'⟩
        · exact .inl q
        · refine .inr ⟨k, c', e, z'.sameBut hs ?_⟩
          rintro rfl
          exact hj (nodup_ix hN e1 (I.ok.inj _ _ _ e hc ▸ hi))
    · by_cases hcc : c' = c
      · subst hcc; exact ⟨_, hc'⟩
      · obtain ⟨w2, z2⟩ := I.cell y c' e
        exact ⟨w2, z2.sameBut hs hcc⟩
    · obtain ⟨e, n, ne, nf, d⟩ := I.pin p hp
      refine ⟨(hs.2 p.1 ?_).trans e, n, ne, nf, d⟩
      intro q
      rw [q, hoc] at e
      have q' : oc = p.2 := Option.some.inj e
      exact d w' (by rw [← q']; exact hocd)
theorem store_ok {M : Model} {A : Around} {E : Value → Shared → Prop} {i : Nat} {x : Str} {v : V} {u : Value} {Q : Unit → Shared → Prop} (I : Inv X pins σ H s) (hN : X.N.Nodup) (hi : X.N[i]? = some x) (hx : Loc X.env.scope x) (r : RelV v u)
    (h : ∀ s', Inv X pins (σ.set i (some v)) H s' → Q () s') (hf : X.fn x = true ∨ X.env.scope.names.lookup x = some .local := by first | exact .inl rfl | exact .inr rfl | assumption) : wpAny M A (storeName X.env x u) Q E s :=
  store_ok2 I hN hi hx r (fun s' I' _ => h s' I') hf
/-- behind a call or a block, the state as it is -/
theorem Inv.call' {s' : Shared} {ch : List Addr} (I : Inv X pins σ H s) (ho : s'.os = s.os) (u : Un (frs X.stack) ch H H' s.heap s'.heap) (hok : HOk X.prog X.w H' s'.heap) (hg : AllBare s'.gens)
    (hch : ∀ b ∈ ch, (b ∈ X.ex ∨ X.s_0.heap.objs.size ≤ b) ∧ b ≠ X.env.locals ∧ (∀ x c, X.env.cells.lookup x = some c → c ≠ b) ∧ ∀ p ∈ X.pn ++ pins, p.1 ≠ b) : Inv X pins σ H' s' := by
  obtain ⟨h', g', d', t', o'⟩ := s'
  have e : o' = s.os := ho
  subst e
  exact I.call (g' := g') (t' := t') (d' := d') u hok hg hch
end

/-! ### the judgements -/
/-- an exception: its class, its own dict's address (where it has one), the abstract heap behind it -/
abbrev XK := Value → Option Addr → Hp → Prop
abbrev St := List (Option V)
abbrev VK := V → Hp → Prop
/-- an expression's reading; a test's; an argument list's -/
abbrev TE := St → Hp → VK → Prop
abbrev TT := St → Hp → (Bool → Hp → Prop) → Prop
abbrev TA := St → Hp → (List V → Hp → Prop) → Prop
/-- what is wanted behind a statement -/
structure Ends where
  nx : St → Hp → Prop
  rt : VK
  bk : St → Hp → Prop := fun _ _ => False
  ct : St → Hp → Prop := fun _ _ => False
abbrev TS := Ends → St → Hp → Prop

def EP (X : Cx) (pins : List (Addr × Obj)) (σ : St) (Q : VK) (u : Value) (s' : Shared) : Prop := ∃ v H', Inv X pins σ H' s' ∧ RelV v u ∧ Q v H'
def TP (X : Cx) (pins : List (Addr × Obj)) (σ : St) (Q : Bool → Hp → Prop) (b : Bool) (s' : Shared) : Prop := ∃ H', Inv X pins σ H' s' ∧ Q b H'
def AP (X : Cx) (pins : List (Addr × Obj)) (σ : St) (Q : List V → Hp → Prop) (us : List Value) (s' : Shared) : Prop := ∃ vs H', Inv X pins σ H' s' ∧ Vals vs us ∧ Q vs H'
def SP (X : Cx) (pins : List (Addr × Obj)) (D : Ends) (f : Flow) (s' : Shared) : Prop :=
  match f with
  | .next => ∃ σ' H', Inv X pins σ' H' s' ∧ D.nx σ' H'
  | .brk => ∃ σ' H', Inv X pins σ' H' s' ∧ D.bk σ' H'
  | .cont => ∃ σ' H', Inv X pins σ' H' s' ∧ D.ct σ' H'
  | .ret u => ∃ v σ' H', Inv X pins σ' H' s' ∧ RelV v u ∧ D.rt v H'

def PE (X : Cx) (e : Expr) (t : TE) : Prop :=
  ∀ (pins : List (Addr × Obj)) (s : Shared) (σ : St) (H : Hp) (Q : VK), Inv X pins σ H s → t σ H Q → wpAny (model X.prog X.w) X.A (eval e X.env) (EP X pins σ Q) X.xe s
def PT (X : Cx) (e : Expr) (t : TT) : Prop :=
  ∀ (pins : List (Addr × Obj)) (s : Shared) (σ : St) (H : Hp) (Q : Bool → Hp → Prop), Inv X pins σ H s → t σ H Q → wpAny (model X.prog X.w) X.A (isTrue e X.env (eval e X.env)) (TP X pins σ Q) X.xe s
/-- a test whatever its 'whole' is (and, or) -/
def PW (X : Cx) (e : Expr) (t : TT) : Prop :=
  ∀ (whole : Sem Value) (pins : List (Addr × Obj)) (s : Shared) (σ : St) (H : Hp) (Q : Bool → Hp → Prop), Inv X pins σ H s → t σ H Q → wpAny (model X.prog X.w) X.A (isTrue e X.env whole) (TP X pins σ Q) X.xe s
theorem PW.pt {X : Cx} {e : Expr} {t : TT} (h : PW X e t) : PT X e t := h _
/-- an argument list (no star), from the left -/
def PA (X : Cx) (es : List Expr) (t : TA) : Prop :=
  ∀ (pos : Pos) (pins : List (Addr × Obj)) (s : Shared) (σ : St) (H : Hp) (Q : List V → Hp → Prop), Inv X pins σ H s → t σ H Q → wpAny (model X.prog X.w) X.A (spliced (backTo pos (starEach es X.env))) (AP X pins σ Q) X.xe s
def PS (X : Cx) (st : Stmt) (t : TS) : Prop :=
  ∀ (pins : List (Addr × Obj)) (s : Shared) (σ : St) (H : Hp) (D : Ends), Inv X pins σ H s → t D σ H → wpAny (model X.prog X.w) X.A (exec st X.env) (SP X pins D) X.xe s
def PSs (X : Cx) (st : List Stmt) (t : TS) : Prop :=
  ∀ (pins : List (Addr × Obj)) (s : Shared) (σ : St) (H : Hp) (D : Ends), Inv X pins σ H s → t D σ H → wpAny (model X.prog X.w) X.A (execs st X.env) (SP X pins D) X.xe s
/-- weaken the end -/
theorem thn {α : Type} {t : Sem α} {Q Q' : α → Shared → Prop} {M : Model} {A : Around} {E : Value → Shared → Prop} {s : Shared} (h : wpAny M A t Q E s) (hQ : ∀ a s, Q a s → Q' a s) : wpAny M A t Q' E s := wpAny_mono h hQ fun _ _ x => x
end L2

namespace L2
open PySem PySem.Spec PyProof.Rows
section
variable {X : Cx}

/-- two expressions in a row -/
theorem bin {a b : Expr} {ta tb : TE} (ha : PE X a ta) (hb : PE X b tb) {pins : List (Addr × Obj)} {s : Shared} {σ : St} {H : Hp} {R : V → V → Hp → Prop} (I : Inv X pins σ H s) (h : ta σ H fun x H1 => tb σ H1 fun y H2 => R x y H2)
    {α : Type} {Q : α → Shared → Prop} {f : Value → Value → Sem α}
    (hf : ∀ v u s2 x y H2, Inv X pins σ H2 s2 → RelV x v → RelV y u → R x y H2 → wpAny (model X.prog X.w) X.A (f v u) Q X.xe s2) :
    wpAny (model X.prog X.w) X.A (eval a X.env) (fun v s₁ => wpAny (model X.prog X.w) X.A (eval b X.env) (fun u s₂ => wpAny (model X.prog X.w) X.A (f v u) Q X.xe s₂) X.xe s₁) X.xe s := by
  refine thn (ha pins s σ H _ I h) fun v s1 ⟨x, H1, I1, r1, q1⟩ => ?_
  refine thn (hb pins s1 σ H1 _ I1 q1) fun u s2 ⟨y, H2, I2, r2, q2⟩ => ?_
  exact hf v u s2 x y H2 I2 r1 r2 q2

/-! ### names and constants -/
def tVar (i : Nat) : TE := fun σ H Q => ∃ v, σ[i]? = some (some v) ∧ Q v H
def tC (v : V) : TE := fun _ H Q => Q v H
theorem pe_var {i : Nat} {x : Str} {pos : Pos} (hN : X.N[i]? = some x) (hv : Vis X.env.scope x) (hd : (x == ("__debug__" : Str)) = false := by decide) (hcd : (x == ("__classdict__" : Str)) = false := by decide) : PE X (.Name x pos) (tVar i) := by
  intro pins s σ H Q I h
  obtain ⟨v, e, h⟩ := h
  obtain ⟨m, hn, hl⟩ := I.loc
  obtain ⟨u, r, l⟩ := hl i x v hN e hv
  have fin : EP X pins σ Q u s := ⟨v, H, I, r, h⟩
  rcases l with ⟨hk, hm⟩ | ⟨hk, c, hc, hcell⟩
  · exact wpAny_Name (wpAny_loadName_local I.ok.kind hk hn hm fin) hd
  · rcases hk with hk | hk
    · exact wpAny_Name (wpAny_loadName_cell I.ok.kind hk hc hcell fin) hd
    · exact wpAny_Name (wpAny_loadName_free I.ok.kind hk hc hcell fin hcd) hd
theorem pe_int {i j pos} : PE X (.Constant (.int i) j pos) (tC (.int i)) := fun _ _ _ H _ I h => wpAny_Constant_int ⟨.int i, H, I.tok _, ⟨_, rfl⟩, h⟩
theorem pe_bl {b j pos} : PE X (.Constant (.bool b) j pos) (tC (.bl b)) := fun _ _ _ H _ I h => Constant_bool ⟨.bl b, H, I, rfl, h⟩
theorem pe_non {j pos} : PE X (.Constant .none j pos) (tC .non) := fun _ _ _ H _ I h => Constant_none ⟨.non, H, I, rfl, h⟩
theorem pe_str {x j pos} : PE X (.Constant (.str x) j pos) (tC (.str x)) := fun _ _ _ H _ I h => Calls.Constant_str ⟨.str x, H, I.tok _, ⟨_, rfl⟩, h⟩

/-- a global name of the def -/
def Gl (X : Cx) (x : Str) : Prop := X.env.kindOf x = some .globalImplicit
theorem ld_glob {E : Value → Shared → Prop} {pins : List (Addr × Obj)} {s : Shared} {σ : St} {H : Hp} {x : Str} {u : Value} {pos : Pos} {Q : Value → Shared → Prop} (I : Inv X pins σ H s) (hg : Gl X x) (hm : X.mg x = some u) (h : Q u s)
    (hd : (x == ("__debug__" : Str)) = false := by decide) : wpAny (model X.prog X.w) X.A (eval (.Name x pos) X.env) Q E s :=
  Calls.Name_function_global I.ok.kind hg (Calls.loadGlobal_global (by rw [I.ok.glob]; exact I.mod.glob.keeps I.bk) hm h) hd
theorem ld_blt {E : Value → Shared → Prop} {pins : List (Addr × Obj)} {s : Shared} {σ : St} {H : Hp} {x : Str} {u : Value} {pos : Pos} {Q : Value → Shared → Prop} (I : Inv X pins σ H s) (hg : Gl X x) (hm : X.mg x = none) (hv : bootBuiltins x = some u) (h : Q u s)
    (hn : x ≠ "__name__" := by decide) (hd : (x == ("__debug__" : Str)) = false := by decide) : wpAny (model X.prog X.w) X.A (eval (.Name x pos) X.env) Q E s := by
  obtain ⟨mb, h1, h2⟩ := I.mod.blt
  exact Calls.Name_function_global I.ok.kind hg (Calls.loadGlobal_builtin (by rw [I.ok.glob]; exact I.mod.glob.keeps I.bk) hm (by rw [I.ok.blt]; exact h1.keeps I.bk) ((h2 x hn).trans hv) h) hd
/-- a module's constant, a class, a function, as a value -/
theorem pe_glob {x : Str} {v : V} {u : Value} {pos : Pos} (hg : Gl X x) (hm : X.mg x = some u) (r : RelV v u) (hd : (x == ("__debug__" : Str)) = false := by decide) : PE X (.Name x pos) (tC v) :=
  fun _ _ _ H _ I h => ld_glob I hg hm ⟨v, H, I, r, h⟩ hd

/-! ### arithmetic -/
variable {a b : Expr} {ta tb : TE} {pos : Pos}

/-! ### comparisons -/
def PC (X : Cx) (op : CmpOp) (a b : Expr) (t : TE) : Prop :=
  ∀ (pins : List (Addr × Obj)) (s : Shared) (σ : St) (H : Hp) (Q : VK), Inv X pins σ H s → t σ H Q →
    wpAny (model X.prog X.w) X.A (eval a X.env) (fun v s₁ => wpAny (model X.prog X.w) X.A (eval b X.env) (fun u s₂ => wpAny (model X.prog X.w) X.A (compareOp op v u) (EP X pins σ Q) X.xe s₂) X.xe s₁) X.xe s
/-- a comparison as a value, as a test -/
def tB (t : TE) : TT := fun σ H Q => t σ H fun x H1 => ∃ c, x = .bl c ∧ Q c H1
theorem pt_cmp {op : CmpOp} {t : TE} (h : PC X op a b t) (h1 : behindInMarks op b = false := by first | exact nobehind _ (by decide) (by decide) | rfl) : PT X (.Compare a [op] [b] pos) (tB t) := by
  intro pins s σ H Q I hw
  refine wpAny_isTrue_Compare1 (thn (h pins s σ H _ I hw) fun v s1 h1 => thn h1 fun u s2 h2 => thn h2 fun c s3 ⟨x, H1, I1, r1, q1⟩ => ?_) h1
  obtain ⟨d, rfl, q⟩ := q1
  cases r1
  exact wpAny_truthy_bool ⟨H1, I1, q⟩
/-- an expression whose value is a bool, as a test -/
theorem pt_val {e : Expr} {t : TE} (h : PE X e t) (he : ∀ whole, isTrue e X.env whole = (do let v ← whole; standAt e.pos; holding [v] (truthy v)) := by intro _; rfl) : PT X e (tB t) := by
  intro pins s σ H Q I hw
  refine isTrue_plain (thn (h pins s σ H _ I hw) fun v s1 ⟨x, H1, I1, r1, q1⟩ => ?_) (he _)
  obtain ⟨d, rfl, q⟩ := q1
  cases r1
  exact wpAny_truthy_bool ⟨H1, I1, q⟩

/-! ### and, or, not -/
variable {tA tB' : TT} {rest : List Expr}
def tAnd (t u : TT) : TT := fun σ H Q => t σ H fun c H1 => if c = true then u σ H1 Q else Q false H1
def tOr (t u : TT) : TT := fun σ H Q => t σ H fun c H1 => if c = true then Q true H1 else u σ H1 Q
def tNot (t : TT) : TT := fun σ H Q => t σ H fun c H1 => Q (!c) H1
theorem pw_and1 (ha : PT X a tA) : PW X (.BoolOp .And [a] pos) tA := by
  intro wh pins s σ H Q I h
  refine isTrue_and (thn (ha pins s σ H Q I h) fun c s1 e => ?_)
  cases c with
  | true => exact isTrue_and_nil e
  | false => exact e
theorem pw_or1 (ha : PT X a tA) : PW X (.BoolOp .Or [a] pos) tA := by
  intro wh pins s σ H Q I h
  refine isTrue_or (thn (ha pins s σ H Q I h) fun c s1 e => ?_)
  cases c with
  | false => exact isTrue_or_nil e
  | true => exact e
theorem pw_and (ha : PT X a tA) (hb : PW X (.BoolOp .And (b :: rest) pos) tB') : PW X (.BoolOp .And (a :: b :: rest) pos) (tAnd tA tB') := by
  intro wh pins s σ H Q I h
  refine isTrue_and (thn (ha pins s σ H _ I h) fun c s1 ⟨H1, I1, q1⟩ => ?_)
  cases c with
  | true => exact hb wh pins s1 σ H1 Q I1 q1
  | false => exact ⟨H1, I1, q1⟩
theorem pw_or (ha : PT X a tA) (hb : PW X (.BoolOp .Or (b :: rest) pos) tB') : PW X (.BoolOp .Or (a :: b :: rest) pos) (tOr tA tB') := by
  intro wh pins s σ H Q I h
  refine isTrue_or (thn (ha pins s σ H _ I h) fun c s1 ⟨H1, I1, q1⟩ => ?_)
  cases c with
  | true => exact ⟨H1, I1, q1⟩
  | false => exact hb wh pins s1 σ H1 Q I1 q1
theorem pt_not (ha : PT X a tA) : PT X (.UnaryOp .Not a pos) (tNot tA) := by
  intro pins s σ H Q I h
  exact isTrue_not (ha pins s σ H (fun c H1 => Q (!c) H1) I h)
/-- .. as values (bools) -/
def tAndV (ta tb : TE) : TE := fun σ H Q => ta σ H fun x H1 => ∃ c, x = .bl c ∧ if c = true then tb σ H1 Q else Q (.bl false) H1
theorem pe_one {op} {t : TE} (h : PE X a t) : PE X (.BoolOp op [a] pos) t := fun pins s σ H Q I hw => BoolOp_one (h pins s σ H Q I hw)
theorem pe_and (ha : PE X a ta) (hb : PE X (.BoolOp .And (b :: rest) pos) tb) : PE X (.BoolOp .And (a :: b :: rest) pos) (tAndV ta tb) := by
  intro pins s σ H Q I h
  refine BoolOp_and (thn (ha pins s σ H _ I h) fun v s1 ⟨x, H1, I1, r1, q1⟩ => ?_)
  obtain ⟨c, rfl, q1⟩ := q1
  cases r1
  refine wpAny_truthy_bool ?_
  cases c with
  | true => exact hb pins s1 σ H1 Q I1 q1
  | false => exact ⟨.bl false, H1, I1, rfl, q1⟩
end
end L2

namespace L2
open PySem PySem.Spec PyProof.Rows

/-! ### a list, a tuple that is read: tracked, frozen, or an object of the module -/
def SqL (K : PySem.W.Frag) (H : Hp) (a : Addr) (xs : List V) : Prop :=
  Rd H a (.lst xs) ∨
    ∃ (o : Obj) (its : Array Value) (n : Nat), K.lookup a = some o ∧ o.cls = .type "list" ∧ o.dict = none ∧ o.data = .seq its n ∧ its.size ≤ sizeLine ∧ Vals xs its.toList
def SqT (K : PySem.W.Frag) (H : Hp) (a : Addr) (xs : List V) : Prop :=
  Rd H a (.tup xs) ∨
    ∃ (o : Obj) (its : Array Value) (n : Nat), K.lookup a = some o ∧ o.cls = .type "tuple" ∧ o.data = .seq its n ∧ its.size ≤ sizeLine ∧ Vals xs its.toList
def absV : Value → Option V
  | .none => some .non
  | .bool b => some (.bl b)
  | .int i _ => some (.int i)
  | .str x _ => some (.str x)
  | .bytes b _ => some (.byt b)
  | .float b _ => some (.flt b)
  | .ref a => some (.ref a)
  | .type n => some (.ty n)
  | _ => none
theorem RelV.abs {x : V} {u : Value} (r : RelV x u) : absV u = some x := by
  cases x with
  | non => cases r; rfl
  | bl _ => cases r; rfl
  | int _ => obtain ⟨t, rfl⟩ := r; rfl
  | str _ => obtain ⟨t, rfl⟩ := r; rfl
  | byt _ => obtain ⟨t, rfl⟩ := r; rfl
  | flt _ => obtain ⟨t, rfl⟩ := r; rfl
  | ref _ => cases r; rfl
  | ty _ => cases r; rfl
theorem RelV.inj {x y : V} {u : Value} (r : RelV x u) (q : RelV y u) : x = y := Option.some.inj (r.abs.symm.trans q.abs)
theorem Vals.inj : ∀ {xs ys : List V} {us : List Value}, Vals xs us → Vals ys us → xs = ys
  | _, _, _, .nil, .nil => rfl
  | _, _, _, .cons r t, .cons r' t' => by rw [r.inj r', Vals.inj t t']
section
variable {X : Cx} {pins : List (Addr × Obj)} {σ : St} {H : Hp} {s : Shared} {a : Addr} {xs ys : List V}
theorem SqL.of {K : PySem.W.Frag} (h : H a = some (.lst xs)) : SqL K H a xs := .inl (.inl h)
theorem SqT.of {K : PySem.W.Frag} (h : H a = some (.tup xs)) : SqT K H a xs := .inl (.inl h)
theorem Inv.list (I : Inv X pins σ H s) (h : SqL X.K H a xs) : ∃ its : List Value, Vals xs its ∧ PlainL s.heap a its.toArray ∧ xs.length ≤ sizeLine := by
  rcases h with h | ⟨o, its, n, hk, hc, hd, hs, hz, r⟩
  · obtain ⟨z, its, n, r, e⟩ := h.ok I.hok
    exact ⟨its, r, ⟨_, n, e, rfl, rfl, rfl⟩, z⟩
  · refine ⟨its.toList, r, ⟨o, n, I.kIn a o hk, hc, hd, by simpa using hs⟩, ?_⟩
    have e := r.length
    simp only [Array.length_toList] at e
    omega
theorem Inv.tuple (I : Inv X pins σ H s) (h : SqT X.K H a xs) : ∃ its : List Value, Vals xs its ∧ IsTup s.heap a its.toArray ∧ xs.length ≤ sizeLine := by
  rcases h with h | ⟨o, its, n, hk, hc, hs, hz, r⟩
  · obtain ⟨z, its, r, p⟩ := h.ok I.hok
    exact ⟨its, r, p, z⟩
  · refine ⟨its.toList, r, ⟨o, I.kIn a o hk, hc, n, by simpa using hs⟩, ?_⟩
    have e := r.length
    simp only [Array.length_toList] at e
    omega
theorem Inv.list_inj (I : Inv X pins σ H s) (h : SqL X.K H a xs) (h' : SqL X.K H a ys) : xs = ys := by
  obtain ⟨its, r, ⟨o, n, e, _, _, d⟩, _⟩ := I.list h
  obtain ⟨its', r', ⟨o', n', e', _, _, d'⟩, _⟩ := I.list h'
  rw [e] at e'; cases e'
  rw [d] at d'
  injection d' with d1 _
  have : its = its' := by simpa using congrArg Array.toList d1
  subst this
  exact r.inj r'
theorem Inv.tuple_inj (I : Inv X pins σ H s) (h : SqT X.K H a xs) (h' : SqT X.K H a ys) : xs = ys := by
  obtain ⟨its, r, ⟨o, e, _, n, d⟩, _⟩ := I.tuple h
  obtain ⟨its', r', ⟨o', e', _, n', d'⟩, _⟩ := I.tuple h'
  rw [e] at e'; cases e'
  rw [d] at d'
  injection d' with d1 _
  have : its = its' := by simpa using congrArg Array.toList d1
  subst this
  exact r.inj r'
end

/-! ### another wish about exceptions -/
abbrev Cx.wish (X : Cx) (E : Value → Shared → Prop) : Cx := { X with xe := E }
/-- no exception leaves -/
abbrev Cx.nox (X : Cx) : Cx := X.wish fun _ _ => False
theorem Cx.Ok.wish {X : Cx} (ok : X.Ok) (E : Value → Shared → Prop) : (X.wish E).Ok :=
  ⟨ok.mod, ok.kind, ok.glob, ok.blt, ok.above, ok.inj, ok.has, ok.cab, ok.hd, ok.frames, ok.stk, ok.exf, ok.bs, ok.bsz, ok.noex, ok.exfs, ok.funs, ok.frf⟩
theorem Cx.Ok.unwish {X : Cx} {E : Value → Shared → Prop} (ok : (X.wish E).Ok) : X.Ok :=
  ⟨ok.mod, ok.kind, ok.glob, ok.blt, ok.above, ok.inj, ok.has, ok.cab, ok.hd, ok.frames, ok.stk, ok.exf, ok.bs, ok.bsz, ok.noex, ok.exfs, ok.funs, ok.frf⟩
section
variable {X : Cx} {pins : List (Addr × Obj)} {σ : St} {H : Hp} {s : Shared} {E : Value → Shared → Prop}
theorem Inv.wish (I : Inv X pins σ H s) (E : Value → Shared → Prop) : Inv (X.wish E) pins σ H s := ⟨I.ok.wish E, I.os, I.bare, I.base, I.loc, I.cell, I.free, I.freeC, I.pin, I.hok, I.len⟩
theorem Inv.unwish (I : Inv (X.wish E) pins σ H s) : Inv X pins σ H s := ⟨I.ok.unwish, I.os, I.bare, I.base, I.loc, I.cell, I.free, I.freeC, I.pin, I.hok, I.len⟩
theorem SP.unwish {D : Ends} {f : Flow} {s' : Shared} (h : SP (X.wish E) pins D f s') : SP X pins D f s' := by
  cases f with
  | next => obtain ⟨σ', H', I, q⟩ := h; exact ⟨σ', H', I.unwish, q⟩
  | brk => obtain ⟨σ', H', I, q⟩ := h; exact ⟨σ', H', I.unwish, q⟩
  | cont => obtain ⟨σ', H', I, q⟩ := h; exact ⟨σ', H', I.unwish, q⟩
  | ret u => obtain ⟨v, σ', H', I, r, q⟩ := h; exact ⟨v, σ', H', I.unwish, r, q⟩
theorem PSs.nox {st : List Stmt} {t : TS} (h : PSs X.nox st t) : PSs X st t := fun pins s σ H D I hw =>
  wpAny_mono (h pins s σ H D (I.wish _) hw) (fun _ _ q => q.unwish) fun _ _ z => False.elim z
end

/-! ### blocks and small statements -/
section
variable {X : Cx} {st : Stmt} {rest : List Stmt} {t u : TS} {e : Expr} {te : TE} {pos : Pos}
def tNext : TS := fun D σ H => D.nx σ H
def tSeq (t u : TS) : TS := fun D σ H => t { D with nx := u D } σ H
theorem pss_nil : PSs X [] tNext := fun _ _ σ H _ I h => wpAny_execs_nil ⟨σ, H, I, h⟩
theorem pss_cons (h1 : PS X st t) (h2 : PSs X rest u) : PSs X (st :: rest) (tSeq t u) := by
  intro pins s σ H D I h
  refine wpAny_execs_cons (thn (h1 pins s σ H { D with nx := u D } I h) fun f s1 q => ?_)
  cases f with
  | next =>
    obtain ⟨σ', H', I', q⟩ := q
    exact h2 pins s1 σ' H' D I' q
  | ret v => exact q
  | brk => exact q
  | cont => exact q
theorem pss_one (h1 : PS X st t) : PSs X [st] t := by
  intro pins s σ H D I h
  refine wpAny_execs_cons (thn (h1 pins s σ H D I h) fun f s1 q => ?_)
  cases f with
  | next => exact wpAny_execs_nil q
  | ret v => exact q
  | brk => exact q
  | cont => exact q
/-- in a def's body nothing is shown -/
theorem Inv.quiet {pins : List (Addr × Obj)} {σ : St} {H : Hp} {s : Shared} (I : Inv X pins σ H s) : interactive X.env = false := by simp [interactive, I.ok.kind]
/-- an expression whose value is dropped -/
def tDrop (te : TE) : TS := fun D σ H => te σ H fun _ H1 => D.nx σ H1
theorem ps_expr (he : PE X e te) (hs : swapsWith e none pos.line X.env = pure false := by rfl) : PS X (.Expr e pos) (tDrop te) := by
  intro pins s σ H D I h
  exact wpAny_Expr_any (thn (he pins s σ H _ I h) fun v s1 ⟨x, H1, I1, r1, q1⟩ => ⟨σ, H1, I1, q1⟩) I.quiet hs
def tRet (te : TE) : TS := fun D σ H => te σ H D.rt
theorem ps_ret (he : PE X e te) : PS X (.Return (some e) pos) (tRet te) := by
  intro pins s σ H D I h
  exact wpAny_Return_some (thn (he pins s σ H _ I h) fun v s1 ⟨x, H1, I1, r1, q1⟩ => ⟨x, σ, H1, I1, r1, q1⟩)
def tIfS (c : TT) (t u : TS) : TS := fun D σ H => c σ H fun b H1 => if b = true then t D σ H1 else u D σ H1
theorem ps_if {c : Expr} {a b : List Stmt} {tc : TT} (hc : PT X c tc) (ha : PSs X a t) (hb : PSs X b u) : PS X (.If c a b pos) (tIfS tc t u) := by
  intro pins s σ H D I h
  refine wpAny_If (thn (hc pins s σ H _ I h) fun d s1 ⟨H1, I1, q1⟩ => ?_)
  cases d with
  | true => exact ha pins s1 σ H1 D I1 q1
  | false => exact hb pins s1 σ H1 D I1 q1
end

/-! ### targets -/
abbrev TG := V → St → Hp → (St → Hp → Prop) → Prop
abbrev TGs := List V → St → Hp → (St → Hp → Prop) → Prop
def PG (X : Cx) (target : Expr) (t : TG) : Prop :=
  ∀ (pins : List (Addr × Obj)) (s : Shared) (σ : St) (H : Hp) (v : V) (u : Value) (Q : St → Hp → Prop), Inv X pins σ H s → RelV v u → t v σ H Q →
    wpAny (model X.prog X.w) X.A (assign target X.env u) (fun _ s' => ∃ σ' H', Inv X pins σ' H' s' ∧ Q σ' H') X.xe s
/-- several targets, one after another -/
def PGs (X : Cx) (ts : List Expr) (t : TGs) : Prop :=
  ∀ (pins : List (Addr × Obj)) (s : Shared) (σ : St) (H : Hp) (vs : List V) (us : List Value) (Q : St → Hp → Prop), Inv X pins σ H s → Vals vs us → t vs σ H Q →
    wpAny (model X.prog X.w) X.A (assignInOrder ((assignEach ts X.env).map (·.2)) us) (fun _ s' => ∃ σ' H', Inv X pins σ' H' s' ∧ Q σ' H') X.xe s
/-- o[i] = v, by values -/
abbrev TSet := V → V → V → Hp → (Hp → Prop) → Prop
def PSet (X : Cx) (t : TSet) : Prop :=
  ∀ (pins : List (Addr × Obj)) (s : Shared) (σ : St) (H : Hp) (o i v : V) (ov iv u : Value) (Q : Hp → Prop), Inv X pins σ H s → RelV o ov → RelV i iv → RelV v u → t o i v H Q →
    wpAny (model X.prog X.w) X.A (setItem ov iv u) (fun _ s' => ∃ H', Inv X pins σ H' s' ∧ Q H') X.xe s
section
variable {X : Cx} {pos : Pos}
def gName (i : Nat) : TG := fun v σ H Q => Q (σ.set i (some v)) H
theorem pg_name {i : Nat} {x : Str} (hN : X.N.Nodup) (hi : X.N[i]? = some x) (hx : Loc X.env.scope x) (hf : X.fn x = true ∨ X.env.scope.names.lookup x = some .local := by first | exact .inl rfl | exact .inr rfl | assumption) : PG X (.Name x pos) (gName i) := by
  intro pins s σ H v u Q I r h
  exact wpAny_assign_Name (store_ok I hN hi hx r (fun s' I' => ⟨_, H, I', h⟩) hf)
def gNil : TGs := fun vs σ H Q => vs = [] ∧ Q σ H
def gCons (t : TG) (u : TGs) : TGs := fun vs σ H Q => ∃ v r, vs = v :: r ∧ t v σ H fun σ' H' => u r σ' H' Q
theorem pgs_nil : PGs X [] gNil := by
  intro pins s σ H vs us Q I r h
  obtain ⟨e, h⟩ := h
  subst e
  cases r
  exact assignInOrder_nil ⟨σ, H, I, h⟩
theorem pgs_cons {e : Expr} {es : List Expr} {t : TG} {u : TGs} (h1 : PG X e t) (h2 : PGs X es u)
    (hs : (assignEach (e :: es) X.env).map (·.2) = assign e X.env :: (assignEach es X.env).map (·.2) := by rfl) : PGs X (e :: es) (gCons t u) := by
  intro pins s σ H vs us Q I r h
  obtain ⟨v, vr, e1, h⟩ := h
  subst e1
  cases r with
  | cons r rr =>
    rw [hs]
    refine assignInOrder_cons (thn (h1 pins s σ H _ _ _ I r h) fun _ s1 ⟨σ1, H1, I1, q1⟩ => ?_)
    exact h2 pins s1 σ1 H1 _ _ Q I1 rr q1
/-- (a, b, ..) = a tuple of that length -/
def gTup (K : PySem.W.Frag) (n : Nat) (t : TGs) : TG := fun v σ H Q => ∃ a xs, v = .ref a ∧ SqT K H a xs ∧ xs.length = n ∧ t xs σ H Q
theorem pg_tup {es : List Expr} {k : Nat} {t : TGs} {n : Nat} (hc : X.calm = true) (h : PGs X es t)
    (hn : (assignEach es X.env).length = n := by rfl) (hst : (assignEach es X.env).findIdx? (·.1) = none := by rfl) : PG X (.Tuple es k pos) (gTup X.K n t) := by
  intro pins s σ H v u Q I r hw
  obtain ⟨a, xs, e1, hq, hl, hw⟩ := hw
  subst e1
  cases r
  obtain ⟨its, rv, ht, hz⟩ := I.tuple hq
  refine assign_Tuple_tuple (I.ok.hd hc) ht (by simp [hn, ← hl, rv.length]) hst fun h' hx => ?_
  have I1 : Inv X pins σ H { s with heap := h' } := I.kept (t' := s.toks) fun b o e => hx b o (Nat.ne_of_lt (Heap.lt_size e)) e
  exact h pins _ σ H xs _ Q I1 (by simpa using rv) hw
/-- o[i] = .. -/
def gSub (to ti : TE) (t : TSet) : TG := fun v σ H Q => to σ H fun o H1 => ti σ H1 fun i H2 => t o i v H2 fun H3 => Q σ H3
theorem pg_sub {o i : Expr} {to ti : TE} {t : TSet} (ho : PE X o to) (hi : PE X i ti) (hs : PSet X t)
    (ha : ∀ v, assign (.Subscript o i pos) X.env v = (do
      let ov ← holding [v] (eval o X.env)
      let iv ← holding [v, ov] (eval i X.env)
      standAt pos
      holding [v, ov, iv] (setItem ov iv v)
      release [v, ov, iv] []) := by intro _; rfl) : PG X (.Subscript o i pos) (gSub to ti t) := by
  intro pins s σ H v u Q I r h
  rw [ha]
  refine wpAny_bind (wpAny_holding (thn (ho pins s σ H _ I h) fun ov s1 ⟨x, H1, I1, r1, q1⟩ => ?_))
  refine wpAny_bind (wpAny_holding (thn (hi pins s1 σ H1 _ I1 q1) fun iv s2 ⟨y, H2, I2, r2, q2⟩ => ?_))
  refine wpAny_bind (wpAny_standAt (wpAny_bind (wpAny_holding (thn (hs pins s2 σ H2 x y v ov iv u _ I2 r1 r2 r q2) fun _ s3 ⟨H3, I3, q3⟩ => ?_))))
  exact wpAny_release ⟨σ, H3, I3, q3⟩
/-- target = value -/
def tAsg (te : TE) (g : TG) : TS := fun D σ H => te σ H fun x H1 => g x σ H1 D.nx
theorem ps_asg {tg e : Expr} {te : TE} {g : TG} (he : PE X e te) (hg : PG X tg g) (hs : swapsWithSole [tg] e pos.line X.env = pure false := by rfl) (hw : swappedStores [tg] e X.env = pure none := by rfl)
    (h1 : (assignEach [tg] X.env).map (·.2) = [assign tg X.env] := by rfl) : PS X (.Assign [tg] e pos) (tAsg te g) := by
  intro pins s σ H D I h
  refine wpAny_Assign_stores (thn (he pins s σ H _ I h) fun v s1 ⟨x, H1, I1, r1, q1⟩ => ?_) hs hw
  rw [h1]
  exact thn (hg pins s1 σ H1 x v _ I1 r1 q1) fun _ s2 q => q
/-- name = value -/
theorem ps_set {i : Nat} {x : Str} {e : Expr} {te : TE} {pos' : Pos} (hN : X.N.Nodup) (hi : X.N[i]? = some x) (hx : Loc X.env.scope x) (he : PE X e te) (hs : swapsWith e (some (.Name x pos')) pos.line X.env = pure false := by rfl) (hf : X.fn x = true ∨ X.env.scope.names.lookup x = some .local := by first | exact .inl rfl | exact .inr rfl | assumption) :
    PS X (.Assign [.Name x pos'] e pos) (tAsg te (gName i)) := by
  intro pins s σ H D I h
  refine wpAny_Assign_Name (thn (he pins s σ H _ I h) fun v s1 ⟨y, H1, I1, r1, q1⟩ => ?_) hs
  exact store_ok I1 hN hi hx r1 (fun s2 I2 => ⟨_, H1, I2, q1⟩) hf
end

/-! ### while -/
section
variable {X : Cx} {pos : Pos}
/-- the invariant W with its measure -/
def tWhile (c : TT) (tb : TS) : TS := fun D σ H => ∃ W : Nat → St → Hp → Prop, (∃ m, W m σ H) ∧ ∀ m σ H, W m σ H →
  c σ H fun b H1 => if b = true then ∃ N : St → Hp → Prop, (∀ σ' H', N σ' H' → ∃ m', m' < m ∧ W m' σ' H') ∧ tb { D with nx := N, ct := N, bk := D.nx } σ H1 else D.nx σ H1
theorem ps_while {c : Expr} {body : List Stmt} {tc : TT} {tb : TS} (hp : PassesOwn (model X.prog X.w) X.A X.env X.xe) (hc : PT X c tc) (hb : PSs X body tb) : PS X (.While c body [] pos) (tWhile tc tb) := by
  intro pins s σ H D I h
  obtain ⟨W, ⟨m0, w0⟩, turn⟩ := h
  refine wpAny_While (codeAny_whileLoop (fun n s' => ∃ σ' H', Inv X pins σ' H' s' ∧ W n σ' H') ?_ m0 ⟨σ, H, I, w0⟩)
  rintro n s1 ⟨σ1, H1, I1, w1⟩
  refine wpAny_passesOwn hp (thn (hc pins s1 σ1 H1 _ I1 (turn n σ1 H1 w1)) fun b s2 ⟨H2, I2, q2⟩ => ?_)
  cases b with
  | true =>
    obtain ⟨N, hN, q2⟩ := q2
    rw [if_pos rfl]
    refine wpAny_passesOwn hp (thn (hb pins s2 σ1 H2 _ I2 q2) fun f s3 q3 => ?_)
    cases f with
    | next =>
      obtain ⟨σ3, H3, I3, n3⟩ := q3
      obtain ⟨m', hm, w3⟩ := hN σ3 H3 n3
      exact ⟨m', hm, σ3, H3, I3, w3⟩
    | cont =>
      obtain ⟨σ3, H3, I3, n3⟩ := q3
      obtain ⟨m', hm, w3⟩ := hN σ3 H3 n3
      exact ⟨m', hm, σ3, H3, I3, w3⟩
    | brk => exact q3
    | ret v => exact q3
  | false =>
    rw [if_neg Bool.false_ne_true]
    exact wpAny_execs_nil ⟨σ1, H2, I2, q2⟩
end

/-! ### what a loop or a comprehension walks -/
/-- at turn i: it yields x (the heap may grow), or it stops -/
structure It where
  go : Nat → Hp → Prop
  yld : Nat → Hp → V → Hp → Prop
  stop : Nat → Hp → Prop
/-- the iterator's own objects may turn: they are not the frame's, not pinned, younger than the entry (or a comprehension's own) -/
def FpOk (X : Cx) (pins : List (Addr × Obj)) (H : Hp) (b : Addr) : Prop :=
  H b = none ∧ b ≠ X.env.locals ∧ b ∉ X.fs ∧ (b ∈ X.ex ∨ X.s_0.heap.objs.size ≤ b) ∧ (∀ x c, X.env.cells.lookup x = some c → c ≠ b) ∧ ∀ p ∈ X.pn ++ pins, p.1 ≠ b
theorem Inv.fpOk {X : Cx} {pins : List (Addr × Obj)} {σ : St} {H H' : Hp} {s : Shared} {b : Addr} (I : Inv X pins σ H s) (hb : s.heap.objs.size ≤ b) (hn : H' b = none) : FpOk X pins H' b := by
  refine ⟨hn, Nat.ne_of_gt (Nat.lt_of_lt_of_le I.lt hb), I.nofs hb, .inr (Nat.le_trans I.sz hb), fun x c e z => ?_, fun p hp z => ?_⟩
  · obtain ⟨v, q⟩ := I.cell x c e
    exact absurd (Nat.lt_of_lt_of_le q.lt (by rw [z]; exact hb)) (Nat.lt_irrefl _)
  · exact absurd (Nat.lt_of_lt_of_le (Heap.lt_size (I.pin p hp).1) (by rw [z]; exact hb)) (Nat.lt_irrefl _)
structure Turn (P : Program) (w : World) (K : PySem.W.Frag) (tg : Expr) (J : It) (fp : List Addr) (it : Addr) (tn : Nat → Heap → Prop) : Prop where
  mem : it ∈ fp
  obj : ∀ i h, tn i h → ∀ b ∈ fp, ∃ o, h.get? b = some o ∧ ∀ v, o.data ≠ .cell v
  keep : ∀ i h h', tn i h → (∀ b ∈ fp, ∀ o, h.get? b = some o → h'.get? b = some o) → tn i h'
  item : ∀ (X : Cx), X.prog = P → X.w = w → X.K = K → X.calm = true → ∀ (i : Nat) (pins : List (Addr × Obj)) (s : Shared) (σ : St) (H : Hp) (E : Value → Shared → Prop), Inv X pins σ H s → (∀ b ∈ fp, FpOk X pins H b) → tn i s.heap → J.go i H →
    wpAny (model P w) X.A (pyNext (.ref it)) (fun r s1 => ∃ u, r = some u ∧
      wpAny (model P w) X.A (letOwnedTupleGo tg (.ref it) u) (fun _ s2 => ∃ x H', Inv X pins σ H' s2 ∧ RelV x u ∧ J.yld i H x H' ∧ tn (i + 1) s2.heap ∧ ∀ b ∈ fp, H' b = none) E s1) E s
  done : ∀ (X : Cx), X.prog = P → X.w = w → X.K = K → X.calm = true → ∀ (i : Nat) (pins : List (Addr × Obj)) (s : Shared) (σ : St) (H : Hp) (E : Value → Shared → Prop), Inv X pins σ H s → (∀ b ∈ fp, FpOk X pins H b) → tn i s.heap → J.stop i H →
    wpAny (model P w) X.A (pyNext (.ref it)) (fun r s1 => r = none ∧ Inv X pins σ H s1) E s
  self : ∀ (A : Around) (i : Nat) (s : Shared) (Q : Value → Shared → Prop) (E : Value → Shared → Prop), tn i s.heap → Q (.ref it) s → wpAny (model P w) A (pyIter (.ref it)) Q E s
abbrev TI := St → Hp → (It → Hp → Prop) → Prop
/-- an iterator has come -/
def PIE (X : Cx) (pins : List (Addr × Obj)) (σ : St) (tg : Expr) (R : It → Hp → Prop) (itv : Value) (s2 : Shared) : Prop :=
  ∃ (it : Addr) (fp : List Addr) (tn : Nat → Heap → Prop) (J : It) (H' : Hp), itv = .ref it ∧ Inv X pins σ H' s2 ∧ Turn X.prog X.w X.K tg J fp it tn ∧ tn 0 s2.heap ∧ (∀ b ∈ fp, FpOk X pins H' b) ∧ R J H'
def PI (X : Cx) (tg iter : Expr) (wi : TI) : Prop :=
  ∀ (pins : List (Addr × Obj)) (s : Shared) (σ : St) (H : Hp) (R : It → Hp → Prop), Inv X pins σ H s → wi σ H R →
    wpAny (model X.prog X.w) X.A (eval iter X.env) (fun v s1 => wpAny (model X.prog X.w) X.A (pyIter v) (PIE X pins σ tg R) X.xe s1) X.xe s

/-- the step ahead of the store is nothing for an iterator that keeps no tuple -/
theorem go_of {M : Model} {A : Around} {E : Value → Shared → Prop} {s : Shared} {tg : Expr} {it : Addr} {u : Value} {o : Obj} {n : String} {vs : Array Value} {Q : Unit → Shared → Prop} (ho : s.heap.get? it = some o) (hc : o.cls = .type n) (hd : o.data = .fields vs)
    (hn : ["enumerate", "zip", "dict_itemiterator", "dict_reverseitemiterator", "odict_iterator", "itertools.zip_longest", "itertools.pairwise"].contains n = false) (hQ : Q () s) : wpAny M A (letOwnedTupleGo tg (.ref it) u) Q E s := by
  unfold letOwnedTupleGo
  cases tg <;> first
    | exact wpAny_pure hQ
    | (cases u <;> first
        | exact wpAny_pure hQ
        | (refine wpAny_bind (wpAny_load ho ?_)
           rw [hc, hd]
           show wpAny M A (if (["enumerate", "zip", "dict_itemiterator", "dict_reverseitemiterator", "odict_iterator", "itertools.zip_longest", "itertools.pairwise"].contains n && vs[0]? == some (rawInt _)) = true then _ else _) Q E s
           rw [if_neg (by intro h; rw [hn, Bool.false_and] at h; cases h)]
           exact wpAny_pure hQ))

/-- the list at a, as it stands at each turn (a loop may append to it) -/
def Itl (K : PySem.W.Frag) (a : Addr) : It :=
  ⟨fun i H => ∃ xs x, SqL K H a xs ∧ xs[i]? = some x, fun i H x H' => H' = H ∧ ∀ xs, SqL K H a xs → xs[i]? = some x, fun i H => ∃ xs, SqL K H a xs ∧ xs.length ≤ i⟩
/-- lo, lo + 1, .. (n of them) -/
def Itr (lo : Int) (n : Nat) : It := ⟨fun i _ => i < n, fun i H x H' => H' = H ∧ x = .int (lo + i), fun i _ => n ≤ i⟩
theorem turn_list {P : Program} {w : World} {K : PySem.W.Frag} {tg : Expr} (a it : Addr) : Turn P w K tg (Itl K a) [it] it (fun i h => h.IsListIter it a i) where
  mem := by simp
  obj := fun i h st b hb => by
    have e : b = it := by simpa using hb
    subst e
    obtain ⟨o, e, c, d⟩ := st
    exact ⟨o, e, fun v z => by rw [d] at z; cases z⟩
  keep := fun i h h' st k => st.at fun o e => k it (by simp) o e
  item := by
    intro X hP hw hK hc i pins s σ H E I hf st hg
    subst hP hw hK
    obtain ⟨xs, x, hq, hx⟩ := hg
    obtain ⟨its, rv, p, hz⟩ := I.list hq
    obtain ⟨u, hu, ru⟩ := rv.get hx
    obtain ⟨f0, f1, f2, f3, f4, f5⟩ := hf it (by simp)
    refine wpAny_pyNext_list_item st p.isList (x := u) (by simpa using hu) fun h' st' sb => ?_
    have I1 : Inv X pins σ H { s with heap := h' } := I.turned (t' := s.toks) (fun b o hb e => (sb.2 b hb).trans e) f0 f1 f3 f4 f5
    obtain ⟨o, e, c, d⟩ := id st'
    exact ⟨u, rfl, go_of (s := { s with heap := h' }) e c d (by decide) ⟨x, H, I1, ru, ⟨rfl, fun ys hy => by rw [I.list_inj hy hq]; exact hx⟩, st', fun b hb => (hf b hb).1⟩⟩
  done := by
    intro X hP hw hK hc i pins s σ H E I hf st hg
    subst hP hw hK
    obtain ⟨xs, hq, hx⟩ := hg
    obtain ⟨its, rv, p, hz⟩ := I.list hq
    obtain ⟨f0, f1, f2, f3, f4, f5⟩ := hf it (by simp)
    have hl := rv.length
    exact wpAny_pyNext_list_end (I.ok.hd hc) st p.isList (by simp; omega) fun h' eb => ⟨rfl, I.turned (t' := s.toks) (fun b o hb e => eb b o hb e) f0 f1 f3 f4 f5⟩
  self := fun _ _ _ _ _ st h => wpAny_pyIter_listiter st h
theorem turn_range {P : Program} {w : World} {K : PySem.W.Frag} {tg : Expr} (it : Addr) (lo : Int) (n : Nat) : Turn P w K tg (Itr lo n) [it] it (fun i h => IsRangeIter h it (lo + (i : Nat) * 1) ((n : Int) - (i : Nat)) 1) where
  mem := by simp
  obj := fun i h st b hb => by
    have e : b = it := by simpa using hb
    subst e
    exact ⟨_, st, fun v z => by
      have z' : Data.fields _ = Data.cell v := z
      cases z'⟩
  keep := fun i h h' st k => k it (by simp) _ st
  item := by
    intro X hP hw hK hc i pins s σ H E I hf st hg
    subst hP hw hK
    obtain ⟨f0, f1, f2, f3, f4, f5⟩ := hf it (by simp)
    have W := Walks.range (prog := X.prog) (w := X.w) (I.ok.hd hc) it lo 1 n
    refine W.item i s _ _ hg st fun v h' tk hv st' kk => ?_
    obtain ⟨t, rfl⟩ := hv
    have I1 : Inv X pins σ H { s with heap := h', toks := tk } := I.turned (fun b o hb e => kk b o (by simpa using hb) e) f0 f1 f3 f4 f5
    refine ⟨_, rfl, go_of (s := { s with heap := h', toks := tk }) (n := "range_iterator") st' rfl rfl (by decide) ⟨.int (lo + i), H, I1, ⟨t, ?_⟩, ⟨rfl, rfl⟩, st', fun b hb => (hf b hb).1⟩⟩
    rw [Int.mul_one]
  done := by
    intro X hP hw hK hc i pins s σ H E I hf st hg
    subst hP hw hK
    obtain ⟨f0, f1, f2, f3, f4, f5⟩ := hf it (by simp)
    exact wpAny_pyNext_range_end (I.ok.hd hc) st (by have : n ≤ i := hg; omega) fun h' eb => ⟨rfl, I.turned (t' := s.toks) (fun b o hb e => eb b o hb e) f0 f1 f3 f4 f5⟩
  self := fun _ _ _ _ _ st h => wpAny_pyIter_rangeiter st h
end L2

namespace L2
open PySem PySem.Spec PyProof.Rows
section
variable {X : Cx} {tg : Expr}
def iList (K : PySem.W.Frag) (tl : TE) : TI := fun σ H R => tl σ H fun x H1 => ∃ a, x = .ref a ∧ (∃ xs, SqL K H1 a xs) ∧ R (Itl K a) H1
theorem pi_list {l : Expr} {tl : TE} (hl : PE X l tl) : PI X tg l (iList X.K tl) := by
  intro pins s σ H R I h
  refine thn (hl pins s σ H _ I h) fun v s1 ⟨x, H1, I1, r1, q1⟩ => ?_
  obtain ⟨a, e, ⟨xs, hq⟩, q⟩ := q1
  subst e
  cases r1
  obtain ⟨its, rv, p, hz⟩ := I1.list hq
  refine wpAny_pyIter_list p.isList ?_
  refine ⟨s1.heap.objs.size, [s1.heap.objs.size], _, _, H1, rfl, I1.kept (t' := s1.toks) fun b o e => Heap.get?_push_of_some _ e, turn_list a _, ⟨_, Heap.get?_push_size _ rfl, rfl, rfl⟩, fun b hb => ?_, q⟩
  have e : b = s1.heap.objs.size := by simpa using hb
  subst e
  exact I1.fpOk (Nat.le_refl _) (I1.hok.fresh (Nat.le_refl _))
/-- a range object just made, walked -/
theorem range_it {pins : List (Addr × Obj)} {σ : St} {H : Hp} {s : Shared} {R : It → Hp → Prop} {E : Value → Shared → Prop} {lo hi : Int} {t u v : Tok} {tk : Nat} (I : Inv X pins σ H s) (h1 : -(2 ^ 62) ≤ lo) (h2 : lo < 2 ^ 62) (h3 : -(2 ^ 62) ≤ hi) (h4 : hi < 2 ^ 62)
    (q : R (Itr lo (hi - lo).toNat) H) : wpAny (model X.prog X.w) X.A (pyIter (.ref s.heap.objs.size)) (PIE X pins σ tg R) E { s with heap := s.heap.push { cls := .type "range", data := .fields #[.int lo t, .int hi u, .int 1 v] }, toks := tk } := by
  refine wpAny_pyIter_range (IsRange.new ..) (small_one h1 h2 h3 h4) ?_
  have I1 : Inv X pins σ H { s with heap := s.heap.push { cls := .type "range", data := .fields #[.int lo t, .int hi u, .int 1 v] }, toks := tk } := I.kept fun b o e => Heap.get?_push_of_some _ e
  refine ⟨(s.heap.push { cls := .type "range", data := .fields #[.int lo t, .int hi u, .int 1 v] }).objs.size, [(s.heap.push { cls := .type "range", data := .fields #[.int lo t, .int hi u, .int 1 v] }).objs.size], _, _, H, rfl,
    I1.kept (t' := tk) fun b o e => Heap.get?_push_of_some _ e, turn_range _ lo (hi - lo).toNat, ?_, fun b hb => ?_, q⟩
  · have e1 : lo + ((0 : Nat) : Int) * 1 = lo := by simp
    have e2 : (((hi - lo).toNat : Nat) : Int) - ((0 : Nat) : Int) = Builtin.Range.rangeSize lo hi 1 := by rw [rangeSize_one]; split <;> omega
    show IsRangeIter _ _ (lo + ((0 : Nat) : Int) * 1) ((((hi - lo).toNat : Nat) : Int) - ((0 : Nat) : Int)) 1
    rw [e1, e2]
    exact Heap.get?_push_size _ rfl
  · have e : b = (s.heap.push { cls := .type "range", data := .fields #[.int lo t, .int hi u, .int 1 v] }).objs.size := by simpa using hb
    subst e
    exact I1.fpOk (Nat.le_refl _) (I1.hok.fresh (Nat.le_refl _))
def iRng1 (ta : TA) : TI := fun σ H R => ta σ H fun vs H1 => ∃ j : Int, vs = [.int j] ∧ -(2 ^ 62) ≤ j ∧ j < 2 ^ 62 ∧ R (Itr 0 j.toNat) H1
def iRng2 (ta : TA) : TI := fun σ H R => ta σ H fun vs H1 => ∃ i j : Int, vs = [.int i, .int j] ∧ (-(2 ^ 62) ≤ i ∧ i < 2 ^ 62 ∧ -(2 ^ 62) ≤ j ∧ j < 2 ^ 62) ∧ R (Itr i (j - i).toNat) H1
theorem pi_range1 {a : Expr} {ta : TA} {p pos : Pos} (hg : Gl X "range") (hm : X.mg "range" = none) (ha : PA X [a] ta) (hs : starEach [a] X.env = [(false, eval a X.env)] := by rfl) : PI X tg (.Call (.Name "range" p) [a] [] pos) (iRng1 ta) := by
  intro pins s σ H R I h
  refine Call_ (ld_blt I hg hm boot_range (PyProof.Rows.callWith_type1 (thn (ha pos pins s σ H _ I h) fun us s1 ⟨vs, H1, I1, r1, q1⟩ => ?_) hs rfl))
  obtain ⟨j, e, q1, q2, q⟩ := q1
  subst e
  cases r1 with
  | cons r rr =>
    cases rr
    obtain ⟨t, rfl⟩ := r
    exact call_range_1 (range_it I1 (by omega) (by omega) q1 q2 (by simpa using q))
theorem pi_range2 {a b : Expr} {ta : TA} {p pos : Pos} (hg : Gl X "range") (hm : X.mg "range" = none) (ha : PA X [a, b] ta) (hs : starEach [a, b] X.env = [(false, eval a X.env), (false, eval b X.env)] := by rfl) (hs2 : starEach [b] X.env = [(false, eval b X.env)] := by rfl) :
    PI X tg (.Call (.Name "range" p) [a, b] [] pos) (iRng2 ta) := by
  intro pins s σ H R I h
  refine Call_ (ld_blt I hg hm boot_range (PyProof.Rows.callWith_type1 (thn (ha pos pins s σ H _ I h) fun us s1 ⟨vs, H1, I1, r1, q1⟩ => ?_) (by rw [hs, hs2]) (by rw [hs2]; rfl)))
  obtain ⟨i, j, e, ⟨q1, q2, q3, q4⟩, q⟩ := q1
  subst e
  cases r1 with
  | cons r rr =>
    cases rr with
    | cons r' rr =>
      cases rr
      obtain ⟨t, rfl⟩ := r
      obtain ⟨t', rfl⟩ := r'
      exact call_range_2 (range_it I1 q1 q2 q3 q4 q)

/-! ### for -/
/-- W: the invariant by the turn and a measure; N: what the body is to reach -/
def tFor (wi : TI) (g : TG) (tb : TS) : TS := fun D σ H => wi σ H fun J H1 => ∃ W : Nat → Nat → St → Hp → Prop, (∃ m, W 0 m σ H1) ∧ ∀ i m σ H, W i m σ H →
  (J.stop i H ∧ D.nx σ H) ∨ (J.go i H ∧ ∃ N : St → Hp → Prop, (∀ σ' H', N σ' H' → ∃ m', m' < m ∧ W (i + 1) m' σ' H') ∧ ∀ x H', J.yld i H x H' → g x σ H' fun σ2 H2 => tb { D with nx := N, ct := N, bk := D.nx } σ2 H2)
/-- the records at fp as they stand -/
def pinsAt (fp : List Addr) (h : Heap) : List (Addr × Obj) := fp.filterMap fun b => (h.get? b).map fun o => (b, o)
theorem mem_pinsAt {fp : List Addr} {h : Heap} {b : Addr} {o : Obj} (hb : b ∈ fp) (e : h.get? b = some o) : (b, o) ∈ pinsAt fp h := List.mem_filterMap.mpr ⟨b, hb, by rw [e]; rfl⟩
theorem of_pinsAt {fp : List Addr} {h : Heap} {p : Addr × Obj} (hp : p ∈ pinsAt fp h) : p.1 ∈ fp ∧ h.get? p.1 = some p.2 := by
  obtain ⟨b, hb, e⟩ := List.mem_filterMap.mp hp
  cases q : h.get? b with
  | none => rw [q] at e; cases e
  | some o =>
    rw [q] at e
    have e' : (b, o) = p := Option.some.inj e
    subst e'
    exact ⟨hb, q⟩
theorem Inv.pinned {pins : List (Addr × Obj)} {σ : St} {H : Hp} {s : Shared} {fp : List Addr} (I : Inv X pins σ H s) (hf : ∀ b ∈ fp, FpOk X pins H b) (ho : ∀ b ∈ fp, ∃ o, s.heap.get? b = some o ∧ ∀ v, o.data ≠ .cell v) : Inv X (pins ++ pinsAt fp s.heap) σ H s :=
  I.pins_of fun p hp => (List.mem_append.mp hp).elim (fun z => I.pin p (List.mem_append_right _ z)) fun z => by
    obtain ⟨hb, e⟩ := of_pinsAt z
    obtain ⟨f0, f1, f2, _⟩ := hf p.1 hb
    obtain ⟨o, e', d⟩ := ho p.1 hb
    rw [e] at e'; cases e'
    exact ⟨e, f0, f1, f2, d⟩
theorem Inv.unpinned {pins pl : List (Addr × Obj)} {σ : St} {H : Hp} {s : Shared} (I : Inv X (pins ++ pl) σ H s) : Inv X pins σ H s := I.pins_of fun p hp => I.pin p (List.mem_append_right _ (List.mem_append_left _ hp))
theorem ps_for {iter : Expr} {body : List Stmt} {wi : TI} {g : TG} {tb : TS} {pos : Pos} (hp : PassesOwn (model X.prog X.w) X.A X.env X.xe) (hc : X.calm = true) (hi : PI X tg iter wi) (hg : PG X tg g) (hb : PSs X body tb)
    (hs : ∀ x, foldedSetIterable iter X.env x = pure x := by intro _; rfl) : PS X (.For tg iter body [] pos) (tFor wi g tb) := by
  intro pins s σ H D I h
  refine wpAny_For (thn (hi pins s σ H _ I h) fun v s1 h1 => thn h1 fun itv s2 h2 => ?_) hs
  obtain ⟨it, fp, tn, J, H2, e, I2, T, st2, f2, W, ⟨m0, w0⟩, turn⟩ := h2
  subst e
  -- what stays true of the iterator's objects through the loop
  have stat : ∀ {H' : Hp}, (∀ b ∈ fp, H' b = none) → ∀ b ∈ fp, FpOk X pins H' b := fun hn b hb => ⟨hn b hb, (f2 b hb).2⟩
  refine codeAny_forLoop_any (fun n s' => ∃ i σ' H', Inv X pins σ' H' s' ∧ tn i s'.heap ∧ (∀ b ∈ fp, H' b = none) ∧ W i n σ' H') ?_ m0 ⟨0, σ, H2, I2, st2, fun b hb => (f2 b hb).1, w0⟩
  rintro n s3 ⟨i, σ3, H3, I3, st3, fr3, w3⟩
  rcases turn i n σ3 H3 w3 with ⟨stop, qn⟩ | ⟨go, N, hN, step⟩
  · refine wpAny_passesOwn hp (thn (T.done X rfl rfl rfl hc i pins s3 σ3 H3 X.xe I3 (stat fr3) st3 stop) fun r s4 ⟨hr, I4⟩ => ?_)
    subst hr
    exact wpAny_execs_nil ⟨σ3, H3, I4, qn⟩
  · refine wpAny_passesOwn hp (thn (T.item X rfl rfl rfl hc i pins s3 σ3 H3 X.xe I3 (stat fr3) st3 go) fun r s4 ⟨u, hr, h4⟩ => ?_)
    subst hr
    refine wpAny_passesOwn hp (thn h4 fun _ s5 ⟨x, H5, I5, r5, y5, st5, fr5⟩ => ?_)
    have I5' := I5.pinned (stat fr5) (T.obj _ _ st5)
    refine wpAny_passesOwn hp (thn (hg _ s5 σ3 H5 x u _ I5' r5 (step x H5 y5)) fun _ s6 ⟨σ6, H6, I6, q6⟩ => ?_)
    refine wpAny_passesOwn hp (thn (hb _ s6 σ6 H6 _ I6 q6) fun f s7 q7 => ?_)
    have again : ∀ {σ7 : St} {H7 : Hp}, Inv X (pins ++ pinsAt fp s5.heap) σ7 H7 s7 → N σ7 H7 → ∃ m, m < n ∧ ∃ i σ' H', Inv X pins σ' H' s7 ∧ tn i s7.heap ∧ (∀ b ∈ fp, H' b = none) ∧ W i m σ' H' := fun {σ7 H7} I7 n7 => by
      obtain ⟨m', hm, w7⟩ := hN σ7 H7 n7
      refine ⟨m', hm, i + 1, σ7, H7, I7.unpinned, T.keep _ _ _ st5 fun b hb o e => (I7.pin (b, o) (List.mem_append_right _ (List.mem_append_right _ (mem_pinsAt hb e)))).1, fun b hb => ?_, w7⟩
      obtain ⟨o, e, d⟩ := T.obj _ _ st5 b hb
      exact (I7.pin (b, o) (List.mem_append_right _ (List.mem_append_right _ (mem_pinsAt hb e)))).2.1
    cases f with
    | next => obtain ⟨σ7, H7, I7, n7⟩ := q7; exact again I7 n7
    | cont => obtain ⟨σ7, H7, I7, n7⟩ := q7; exact again I7 n7
    | brk => obtain ⟨σ7, H7, I7, q7⟩ := q7; exact ⟨σ7, H7, I7.unpinned, q7⟩
    | ret v => obtain ⟨x7, σ7, H7, I7, r7, q7⟩ := q7; exact ⟨x7, σ7, H7, I7.unpinned, r7, q7⟩
end

/-! ### the forms one uses -/
/-- over a list that the body leaves as it is -/
theorem for_list {K : PySem.W.Frag} {a : Addr} {xs : List V} {g : TG} {tb : TS} {D : Ends} {σ : St} {H : Hp} (Pv : Nat → St → Hp → Prop) (h0 : Pv 0 σ H) (hl : ∀ i σ H, i ≤ xs.length → Pv i σ H → SqL K H a xs)
    (hs : ∀ i x σ H, xs[i]? = some x → Pv i σ H → g x σ H fun σ2 H2 => tb { D with nx := Pv (i + 1), ct := Pv (i + 1), bk := D.nx } σ2 H2) (hd : ∀ σ H, Pv xs.length σ H → D.nx σ H) :
    ∃ W : Nat → Nat → St → Hp → Prop, (∃ m, W 0 m σ H) ∧ ∀ i m σ H, W i m σ H →
      ((Itl K a).stop i H ∧ D.nx σ H) ∨ ((Itl K a).go i H ∧ ∃ N : St → Hp → Prop, (∀ σ' H', N σ' H' → ∃ m', m' < m ∧ W (i + 1) m' σ' H') ∧ ∀ x H', (Itl K a).yld i H x H' → g x σ H' fun σ2 H2 => tb { D with nx := N, ct := N, bk := D.nx } σ2 H2) := by
  refine ⟨fun i m σ H => m = xs.length - i ∧ i ≤ xs.length ∧ Pv i σ H, ⟨xs.length, by simp, Nat.zero_le _, h0⟩, ?_⟩
  rintro i m σ H ⟨rfl, hi, p⟩
  have q := hl i σ H hi p
  by_cases hlt : i < xs.length
  · refine .inr ⟨⟨xs, xs[i], q, by simp [hlt]⟩, Pv (i + 1), fun σ' H' p' => ⟨xs.length - (i + 1), by omega, rfl, hlt, p'⟩, fun x H' y => ?_⟩
    obtain ⟨e, y⟩ := y
    subst e
    exact hs i x σ _ (y xs q) p
  · have e : i = xs.length := by omega
    subst e
    exact .inl ⟨⟨xs, q, Nat.le_refl _⟩, hd σ H p⟩
theorem for_range {lo : Int} {n : Nat} {g : TG} {tb : TS} {D : Ends} {σ : St} {H : Hp} (Pv : Nat → St → Hp → Prop) (h0 : Pv 0 σ H)
    (hs : ∀ i σ H, i < n → Pv i σ H → g (.int (lo + i)) σ H fun σ2 H2 => tb { D with nx := Pv (i + 1), ct := Pv (i + 1), bk := D.nx } σ2 H2) (hd : ∀ σ H, Pv n σ H → D.nx σ H) :
    ∃ W : Nat → Nat → St → Hp → Prop, (∃ m, W 0 m σ H) ∧ ∀ i m σ H, W i m σ H →
      ((Itr lo n).stop i H ∧ D.nx σ H) ∨ ((Itr lo n).go i H ∧ ∃ N : St → Hp → Prop, (∀ σ' H', N σ' H' → ∃ m', m' < m ∧ W (i + 1) m' σ' H') ∧ ∀ x H', (Itr lo n).yld i H x H' → g x σ H' fun σ2 H2 => tb { D with nx := N, ct := N, bk := D.nx } σ2 H2) := by
  refine ⟨fun i m σ H => m = n - i ∧ i ≤ n ∧ Pv i σ H, ⟨n, by simp, Nat.zero_le _, h0⟩, ?_⟩
  rintro i m σ H ⟨rfl, hi, p⟩
  by_cases hlt : i < n
  · refine .inr ⟨hlt, Pv (i + 1), fun σ' H' p' => ⟨n - (i + 1), by omega, rfl, hlt, p'⟩, fun x H' y => ?_⟩
    obtain ⟨e, y⟩ := y
    subst e y
    exact hs i σ _ hlt p
  · have e : i = n := by omega
    subst e
    exact .inl ⟨Nat.le_refl _, hd σ H p⟩
end L2

namespace L2
open PySem PySem.Spec PyProof.Rows

abbrev R2 := V → V → Hp → VK → Prop
/-- a two-place operation on values: f is binaryOp op, inplaceOp op or compareOp op -/
def OpR (X : Cx) (f : Value → Value → Sem Value) (r : R2) : Prop :=
  ∀ (pins : List (Addr × Obj)) (s : Shared) (σ : St) (H : Hp) (x y : V) (v u : Value) (Q : VK), Inv X pins σ H s → RelV x v → RelV y u → r x y H Q →
    wpAny (model X.prog X.w) X.A (f v u) (EP X pins σ Q) X.xe s
/-- a one-place operation -/
def UnR (X : Cx) (f : Value → Sem Value) (r : V → Hp → VK → Prop) : Prop :=
  ∀ (pins : List (Addr × Obj)) (s : Shared) (σ : St) (H : Hp) (x : V) (v : Value) (Q : VK), Inv X pins σ H s → RelV x v → r x H Q →
    wpAny (model X.prog X.w) X.A (f v) (EP X pins σ Q) X.xe s
/-- a call of a value that is known (a builtin, a type) with values -/
def CallR (X : Cx) (f : Value) (r : List V → Hp → VK → Prop) : Prop :=
  ∀ (pins : List (Addr × Obj)) (s : Shared) (σ : St) (H : Hp) (xs : List V) (us : List Value) (Q : VK), Inv X pins σ H s → Vals xs us → r xs H Q →
    wpAny (model X.prog X.w) X.A (call f us) (EP X pins σ Q) X.xe s

def tOp (r : R2) (ta tb : TE) : TE := fun σ H Q => ta σ H fun x H1 => tb σ H1 fun y H2 => r x y H2 Q
def tUn (r : V → Hp → VK → Prop) (ta : TE) : TE := fun σ H Q => ta σ H fun x H1 => r x H1 Q
/-- ints in, under C, and a value out -/
def rI (C : Int → Int → Prop) (g : Int → Int → V) : R2 := fun x y H Q => ∃ i j, x = .int i ∧ y = .int j ∧ C i j ∧ Q (g i j) H
def rI0 (g : Int → Int → V) : R2 := fun x y H Q => ∃ i j, x = .int i ∧ y = .int j ∧ Q (g i j) H
def rU (g : Int → V) : V → Hp → VK → Prop := fun x H Q => ∃ i, x = .int i ∧ Q (g i) H

section
variable {X : Cx} {a b c : Expr} {ta tb tc : TE} {pos : Pos}

theorem binT (ha : PE X a ta) (hb : PE X b tb) {pins : List (Addr × Obj)} {s : Shared} {σ : St} {H : Hp} {R : V → V → Hp → Prop} (I : Inv X pins σ H s)
    (h : ta σ H fun x H1 => tb σ H1 fun y H2 => R x y H2) {Q : Value → Shared → Prop} {f : Value → Value → Sem Value}
    (hf : ∀ v u s2 x y H2, Inv X pins σ H2 s2 → RelV x v → RelV y u → R x y H2 → wpAny (model X.prog X.w) X.A (f v u) Q X.xe s2) :
    wpAny (model X.prog X.w) X.A (eval a X.env) (fun v s₁ => wpAny (model X.prog X.w) X.A (eval b X.env) (fun u s₂ => wpAny (model X.prog X.w) X.A (f v u) Q X.xe s₂) X.xe s₁) X.xe s := by
  refine thn (ha pins s σ H _ I h) fun v s1 ⟨x, H1, I1, r1, q1⟩ => ?_
  refine thn (hb pins s1 σ H1 _ I1 q1) fun u s2 ⟨y, H2, I2, r2, q2⟩ => ?_
  exact hf v u s2 x y H2 I2 r1 r2 q2

theorem pe_op {op : Operator} {r : R2} (ho : OpR X (binaryOp op) r) (ha : PE X a ta) (hb : PE X b tb) : PE X (.BinOp a op b pos) (tOp r ta tb) := by
  intro pins s σ H Q I h
  exact wpAny_BinOp (binT ha hb I h fun v u s2 x y H2 I2 rx ry q => ho pins s2 σ H2 x y v u Q I2 rx ry q)
theorem pe_un {op : UnaryOp} {r : V → Hp → VK → Prop} (ho : UnR X (unaryOp op) r) (ha : PE X a ta) : PE X (.UnaryOp op a pos) (tUn r ta) := by
  intro pins s σ H Q I h
  exact UnaryOp_ (thn (ha pins s σ H _ I h) fun v s1 ⟨x, H1, I1, r1, q1⟩ => ho pins s1 σ H1 x v Q I1 r1 q1)

/-! ### ints -/
theorem opI {f : Value → Value → Sem Value} {C : Int → Int → Prop} {g : Int → Int → Int}
    (rule : ∀ (i j : Int) (t u : Tok) (s : Shared) (Q : Value → Shared → Prop) (E : Value → Shared → Prop), C i j → Q (.int (g i j) s.toks) { s with toks := s.toks + 1 } → wpAny (model X.prog X.w) X.A (f (.int i t) (.int j u)) Q E s) :
    OpR X f (rI C fun i j => .int (g i j)) := by
  intro pins s σ H x y v u Q I rx ry h
  obtain ⟨i, j, rfl, rfl, hc, q⟩ := h
  obtain ⟨t, rfl⟩ := rx
  obtain ⟨t', rfl⟩ := ry
  exact rule i j t t' s _ _ hc ⟨.int (g i j), H, I.tok _, ⟨_, rfl⟩, q⟩
theorem opI0 {f : Value → Value → Sem Value} {g : Int → Int → Int}
    (rule : ∀ (i j : Int) (t u : Tok) (s : Shared) (Q : Value → Shared → Prop) (E : Value → Shared → Prop), Q (.int (g i j) s.toks) { s with toks := s.toks + 1 } → wpAny (model X.prog X.w) X.A (f (.int i t) (.int j u)) Q E s) :
    OpR X f (rI0 fun i j => .int (g i j)) := by
  intro pins s σ H x y v u Q I rx ry h
  obtain ⟨i, j, rfl, rfl, q⟩ := h
  obtain ⟨t, rfl⟩ := rx
  obtain ⟨t', rfl⟩ := ry
  exact rule i j t t' s _ _ ⟨.int (g i j), H, I.tok _, ⟨_, rfl⟩, q⟩
theorem opB0 {f : Value → Value → Sem Value} {g : Int → Int → Bool}
    (rule : ∀ (i j : Int) (t u : Tok) (s : Shared) (Q : Value → Shared → Prop) (E : Value → Shared → Prop), Q (.bool (g i j)) s → wpAny (model X.prog X.w) X.A (f (.int i t) (.int j u)) Q E s) :
    OpR X f (rI0 fun i j => .bl (g i j)) := by
  intro pins s σ H x y v u Q I rx ry h
  obtain ⟨i, j, rfl, rfl, q⟩ := h
  obtain ⟨t, rfl⟩ := rx
  obtain ⟨t', rfl⟩ := ry
  exact rule i j t t' s _ _ ⟨.bl (g i j), H, I, rfl, q⟩

def CMul (i j : Int) : Prop := (-(2 ^ 64) < i ∧ i < 2 ^ 64) ∨ (-(2 ^ 64) < j ∧ j < 2 ^ 64)
theorem CMul.ok {i j : Int} (h : CMul i j) : IntMulOk i j := by
  rcases h with ⟨h1, h2⟩ | ⟨h1, h2⟩
  · exact .of_left (intBits_le_64 h1 h2)
  · exact .of_right (intBits_le_64 h1 h2)

theorem op_add : OpR X (binaryOp .Add) (rI0 fun i j => .int (i + j)) := opI0 fun _ _ _ _ _ _ _ q => add_int q
theorem op_sub : OpR X (binaryOp .Sub) (rI0 fun i j => .int (i - j)) := opI0 fun _ _ _ _ _ _ _ q => sub_int q
theorem op_mul : OpR X (binaryOp .Mult) (rI CMul fun i j => .int (i * j)) := opI fun _ _ _ _ _ _ _ hc q => mul_int q hc.ok
/-- % by a positive divisor of any size -/
theorem op_mod : OpR X (binaryOp .Mod) (rI (fun _ j => 0 < j) fun i j => .int (i % j)) := opI fun i j _ _ _ _ _ hc q => by
  have h1 : (0 : Int) < j := hc
  exact mod_int' (by omega) (by rw [Int.fmod_eq_emod_of_nonneg i (by omega)]; exact q)


theorem unI {f : Value → Sem Value} {g : Int → Int}
    (rule : ∀ (i : Int) (t : Tok) (s : Shared) (Q : Value → Shared → Prop) (E : Value → Shared → Prop), Q (.int (g i) s.toks) { s with toks := s.toks + 1 } → wpAny (model X.prog X.w) X.A (f (.int i t)) Q E s) :
    UnR X f (rU fun i => .int (g i)) := by
  intro pins s σ H x v Q I rx h
  obtain ⟨i, rfl, q⟩ := h
  obtain ⟨t, rfl⟩ := rx
  exact rule i t s _ _ ⟨.int (g i), H, I.tok _, ⟨_, rfl⟩, q⟩
theorem un_neg : UnR X (unaryOp .USub) (rU fun i => .int (-i)) := unI fun _ _ _ _ _ q => neg_int q

/-! ### bools among ints: n += (a < b) -/
end

/-! ### comparisons -/
/-- the scalars that == tells apart as data does -/
def scal : V → V → Bool
  | .non, .non => true | .non, .int _ => true | .int _, .non => true | .non, .bl _ => true | .bl _, .non => true | .non, .str _ => true | .str _, .non => true
  | .int _, .int _ => true | .bl _, .bl _ => true | .str _, .str _ => true | .byt _, .byt _ => true
  | .int _, .str _ => true | .str _, .int _ => true | .bl _, .str _ => true | .str _, .bl _ => true
  | _, _ => false
def rEq : R2 := fun x y H Q => scal x y = true ∧ Q (.bl (decide (x = y))) H
def rNe : R2 := fun x y H Q => scal x y = true ∧ Q (.bl (!decide (x = y))) H

theorem dec_int {i j : Int} : decide (V.int i = V.int j) = (i == j) := by
  rw [Bool.eq_iff_iff]
  simp
theorem dec_bl {i j : Bool} : decide (V.bl i = V.bl j) = (i == j) := by
  rw [Bool.eq_iff_iff]
  simp
theorem dec_str {i j : Str} : decide (V.str i = V.str j) = (i == j) := by
  rw [Bool.eq_iff_iff]
  simp
theorem dec_byt {i j : Array UInt8} : decide (V.byt i = V.byt j) = (i.toList == j.toList) := by
  rw [Bool.eq_iff_iff]
  cases i
  cases j
  simp

section
variable {X : Cx} {a b c : Expr} {ta tb tc : TE} {pos : Pos}
theorem fin_bl {pins : List (Addr × Obj)} {σ : St} {H : Hp} {s : Shared} {Q : VK} {k k' : Bool} (I : Inv X pins σ H s) (q : Q (.bl k) H) (e : k = k') : EP X pins σ Q (.bool k') s := by
  subst e
  exact ⟨.bl k, H, I, rfl, q⟩
theorem op_eq : OpR X (compareOp .Eq) rEq := by
  intro pins s σ H x y v u Q I rx ry h
  obtain ⟨hs, q⟩ := h
  cases x with
  | non =>
    cases rx
    cases y with
    | non => cases ry; exact PySem.EqNone.eq_none_none (fin_bl I q (by simp))
    | bl j => cases ry; exact PySem.EqNone.eq_none_bool (fin_bl I q (by simp))
    | int j => obtain ⟨t', rfl⟩ := ry; exact PySem.EqNone.eq_none_int (fin_bl I q (by simp))
    | str j => obtain ⟨t', rfl⟩ := ry; exact PySem.EqNone.eq_none_str (fin_bl I q (by simp))
    | _ => exact absurd (show false = true from hs) Bool.false_ne_true
  | bl i =>
    cases rx
    cases y with
    | non => cases ry; exact PySem.EqNone.eq_bool_none (fin_bl I q (by simp))
    | bl j => cases ry; exact eq_bool (fin_bl I q dec_bl)
    | str j => obtain ⟨t', rfl⟩ := ry; exact PySem.EqMixed.eq_bool_str (fin_bl I q (by simp))
    | _ => exact absurd (show false = true from hs) Bool.false_ne_true
  | int i =>
    obtain ⟨t, rfl⟩ := rx
    cases y with
    | non => cases ry; exact PySem.EqNone.eq_int_none (fin_bl I q (by simp))
    | int j => obtain ⟨t', rfl⟩ := ry; exact eq_int (fin_bl I q dec_int)
    | str j => obtain ⟨t', rfl⟩ := ry; exact PySem.EqMixed.eq_int_str (fin_bl I q (by simp))
    | _ => exact absurd (show false = true from hs) Bool.false_ne_true
  | str i =>
    obtain ⟨t, rfl⟩ := rx
    cases y with
    | non => cases ry; exact PySem.EqNone.eq_str_none (fin_bl I q (by simp))
    | bl j => cases ry; exact PySem.EqMixed.eq_str_bool (fin_bl I q (by simp))
    | int j => obtain ⟨t', rfl⟩ := ry; exact PySem.EqMixed.eq_str_int (fin_bl I q (by simp))
    | str j => obtain ⟨t', rfl⟩ := ry; exact eq_str (fin_bl I q dec_str)
    | _ => exact absurd (show false = true from hs) Bool.false_ne_true
  | byt i =>
    obtain ⟨t, rfl⟩ := rx
    cases y with
    | byt j => obtain ⟨t', rfl⟩ := ry; exact PySem.W.eq_bytes (fin_bl I q dec_byt)
    | _ => exact absurd (show false = true from hs) Bool.false_ne_true
  | _ => cases y <;> exact absurd (show false = true from hs) Bool.false_ne_true
theorem op_ne : OpR X (compareOp .NotEq) rNe := by
  intro pins s σ H x y v u Q I rx ry h
  obtain ⟨hs, q⟩ := h
  cases x with
  | non =>
    cases rx
    cases y with
    | non => cases ry; exact PySem.EqNone.ne_none_none (fin_bl I q (by simp))
    | bl j => cases ry; exact PySem.EqNone.ne_none_bool (fin_bl I q (by simp))
    | int j => obtain ⟨t', rfl⟩ := ry; exact PySem.EqNone.ne_none_int (fin_bl I q (by simp))
    | str j => obtain ⟨t', rfl⟩ := ry; exact PySem.EqNone.ne_none_str (fin_bl I q (by simp))
    | _ => exact absurd (show false = true from hs) Bool.false_ne_true
  | bl i =>
    cases rx
    cases y with
    | non => cases ry; exact PySem.EqNone.ne_bool_none (fin_bl I q (by simp))
    | bl j => cases ry; exact ne_bool (fin_bl I q (congrArg not dec_bl))
    | str j => obtain ⟨t', rfl⟩ := ry; exact PySem.EqMixed.ne_bool_str (fin_bl I q (by simp))
    | _ => exact absurd (show false = true from hs) Bool.false_ne_true
  | int i =>
    obtain ⟨t, rfl⟩ := rx
    cases y with
    | non => cases ry; exact PySem.EqNone.ne_int_none (fin_bl I q (by simp))
    | int j => obtain ⟨t', rfl⟩ := ry; exact ne_int (fin_bl I q (congrArg not dec_int))
    | str j => obtain ⟨t', rfl⟩ := ry; exact PySem.EqMixed.ne_int_str (fin_bl I q (by simp))
    | _ => exact absurd (show false = true from hs) Bool.false_ne_true
  | str i =>
    obtain ⟨t, rfl⟩ := rx
    cases y with
    | non => cases ry; exact PySem.EqNone.ne_str_none (fin_bl I q (by simp))
    | bl j => cases ry; exact PySem.EqMixed.ne_str_bool (fin_bl I q (by simp))
    | int j => obtain ⟨t', rfl⟩ := ry; exact PySem.EqMixed.ne_str_int (fin_bl I q (by simp))
    | str j => obtain ⟨t', rfl⟩ := ry; exact ne_str (fin_bl I q (congrArg not dec_str))
    | _ => exact absurd (show false = true from hs) Bool.false_ne_true
  | byt i =>
    obtain ⟨t, rfl⟩ := rx
    cases y with
    | byt j => obtain ⟨t', rfl⟩ := ry; exact PySem.W.ne_bytes (fin_bl I q (congrArg not dec_byt))
    | _ => exact absurd (show false = true from hs) Bool.false_ne_true
  | _ => cases y <;> exact absurd (show false = true from hs) Bool.false_ne_true

theorem op_lt : OpR X (compareOp .Lt) (rI0 fun i j => .bl (decide (i < j))) := opB0 fun _ _ _ _ _ _ _ q => lt_int q
theorem op_le : OpR X (compareOp .LtE) (rI0 fun i j => .bl (decide (i ≤ j))) := opB0 fun _ _ _ _ _ _ _ q => le_int q
theorem op_gt : OpR X (compareOp .Gt) (rI0 fun i j => .bl (decide (j < i))) := opB0 fun _ _ _ _ _ _ _ q => gt_int q
theorem op_ge : OpR X (compareOp .GtE) (rI0 fun i j => .bl (decide (j ≤ i))) := opB0 fun _ _ _ _ _ _ _ q => ge_int q

/-- is None, is not None: the right side a value none -/
theorem op_isN : OpR X (compareOp .Is) (fun x y H Q => y = .non ∧ Q (.bl (decide (x = .non))) H) := by
  intro pins s σ H x y v u Q I rx ry h
  obtain ⟨rfl, q⟩ := h
  cases ry
  refine is_none_gen (fin_bl I q ?_)
  cases x <;> first
    | (cases rx; rfl)
    | (obtain ⟨t, rfl⟩ := rx; rfl)



theorem nomark (b : Expr) {op : CmpOp} (h : op ≠ .In := by decide) (h2 : op ≠ .NotIn := by decide) : behindInMarks op b = false := by
  have e1 : (op == CmpOp.In) = false := by cases op <;> first | rfl | exact absurd rfl h
  have e2 : (op == CmpOp.NotIn) = false := by cases op <;> first | rfl | exact absurd rfl h2
  cases b <;> simp [behindInMarks, e1, e2]
/-- a comparison as a value; hm: nomark b, or (for in, not in) by with_unfolding_all rfl -/
theorem pe_cmpR {op : CmpOp} {r : R2} (ho : OpR X (compareOp op) r) (ha : PE X a ta) (hb : PE X b tb) (hm : behindInMarks op b = false) : PE X (.Compare a [op] [b] pos) (tOp r ta tb) := by
  intro pins s σ H Q I h
  exact wpAny_Compare1 (binT ha hb I h fun v u s2 x y H2 I2 rx ry q => ho pins s2 σ H2 x y v u Q I2 rx ry q) hm
/-- a reading of a value as a test -/
def tTest (t : TE) : TT := fun σ H Q => t σ H fun x H' => ∃ k, x = .bl k ∧ Q k H'
theorem pt_cmpR {op : CmpOp} {r : R2} (ho : OpR X (compareOp op) r) (ha : PE X a ta) (hb : PE X b tb) (hm : behindInMarks op b = false) : PT X (.Compare a [op] [b] pos) (tTest (tOp r ta tb)) := by
  intro pins s σ H Q I h
  refine wpAny_isTrue_Compare1 (thn (ha pins s σ H _ I h) fun v s1 ⟨x, H1, I1, r1, q1⟩ => thn (hb pins s1 σ H1 _ I1 q1) fun u s2 ⟨y, H2, I2, r2, q2⟩ =>
    thn (ho pins s2 σ H2 x y v u _ I2 r1 r2 q2) fun c s3 ⟨z, H3, I3, r3, k, e, q3⟩ => ?_) hm
  subst e
  cases r3
  exact wpAny_truthy_bool ⟨H3, I3, q3⟩
/-- a op1 b op2 c -/
def tChain (r r' : R2) (ta tb tc : TE) : TE := fun σ H Q => ta σ H fun x H1 => tb σ H1 fun y H2 => r x y H2 fun z H3 => ∃ k, z = .bl k ∧
  (if k = true then tc σ H3 fun w' H4 => r' y w' H4 Q else Q (.bl false) H3)
theorem pe_chain {op op' : CmpOp} {r r' : R2} (ho : OpR X (compareOp op) r) (ho' : OpR X (compareOp op') r') (ha : PE X a ta) (hb : PE X b tb) (hc : PE X c tc)
    (hm : lastMarks [op, op'] [b, c] = false := by with_unfolding_all rfl) : PE X (.Compare a [op, op'] [b, c] pos) (tChain r r' ta tb tc) := by
  intro pins s σ H Q I h
  refine Compare_chain (thn (ha pins s σ H _ I h) fun v s1 ⟨x, H1, I1, r1, q1⟩ => chain_link (thn (hb pins s1 σ H1 _ I1 q1) fun u s2 ⟨y, H2, I2, r2, q2⟩ =>
    thn (ho pins s2 σ H2 x y v u _ I2 r1 r2 q2) fun d s3 ⟨z, H3, I3, r3, k, e, q3⟩ => ?_)) hm
  subst e
  cases r3
  refine wpAny_truthy_bool ?_
  cases k with
  | false => exact ite_ff ⟨.bl false, H3, I3, rfl, q3⟩
  | true => exact ite_tt (chain_last (thn (hc pins s3 σ H3 _ I3 q3) fun w' s4 ⟨z', H4, I4, r4, q4⟩ => ho' pins s4 σ H4 y z' u w' Q I4 r2 r4 q4))

/-! ### truth -/
theorem line63 : (sizeLine : Nat) < 2 ^ 63 := by rw [sizeLine_eq]; decide

/-! ### strs and bytes -/


/-! ### scalar builtins, by CallR -/
theorem vals1 {x : V} {us : List Value} (r : Vals [x] us) : ∃ u, us = [u] ∧ RelV x u := by
  cases r with
  | cons r1 r2 => cases r2; exact ⟨_, rfl, r1⟩
theorem vals2 {x y : V} {us : List Value} (r : Vals [x, y] us) : ∃ u w', us = [u, w'] ∧ RelV x u ∧ RelV y w' := by
  cases r with
  | cons r1 r2 =>
    cases r2 with
    | cons r3 r4 => cases r4; exact ⟨_, _, rfl, r1, r3⟩
theorem call_abs : CallR X (.builtin "abs") (fun xs H Q => ∃ i, xs = [.int i] ∧ Q (.int (if i < 0 then -i else i)) H) := by
  intro pins s σ H xs us Q I r h
  obtain ⟨i, rfl, q⟩ := h
  obtain ⟨u, rfl, t, rfl⟩ := vals1 r
  exact call_abs_int fun u tk => ⟨.int (if i < 0 then -i else i), H, I.tok _, ⟨_, rfl⟩, q⟩
theorem call_max2 (hc : X.calm = true) : CallR X (.builtin "max") (fun xs H Q => ∃ i j, xs = [.int i, .int j] ∧ Q (.int (if j > i then j else i)) H) := by
  intro pins s σ H xs us Q I r h
  obtain ⟨i, j, rfl, q⟩ := h
  obtain ⟨u, w', rfl, ⟨t, rfl⟩, ⟨t', rfl⟩⟩ := vals2 r
  refine max_two_ints (I.ok.hd hc) fun h' tk k => ⟨_, H, I.kept k, ?_, q⟩
  by_cases hj : j > i
  · rw [if_pos hj, if_pos hj]; exact ⟨_, rfl⟩
  · rw [if_neg hj, if_neg hj]; exact ⟨_, rfl⟩
theorem call_min2 (hc : X.calm = true) : CallR X (.builtin "min") (fun xs H Q => ∃ i j, xs = [.int i, .int j] ∧ Q (.int (if j < i then j else i)) H) := by
  intro pins s σ H xs us Q I r h
  obtain ⟨i, j, rfl, q⟩ := h
  obtain ⟨u, w', rfl, ⟨t, rfl⟩, ⟨t', rfl⟩⟩ := vals2 r
  refine min_two_ints (I.ok.hd hc) fun h' tk k => ⟨_, H, I.kept k, ?_, q⟩
  by_cases hj : j < i
  · rw [if_pos hj, if_pos hj]; exact ⟨_, rfl⟩
  · rw [if_neg hj, if_neg hj]; exact ⟨_, rfl⟩
end
end L2

namespace L2
open PySem PySem.Spec PyProof.Rows

/-! ### an instance, its attributes a map -/
structure ObjM (h : Heap) (x dx C : Addr) (mA : Str → Option Value) : Prop where
  obj : h.get? x = some (PySem.W.instObj C dx)
  ns : h.Ns1 dx mA
  ne : dx ≠ x

theorem lookIn_ns {h : Heap} {dx : Addr} {mA : Str → Option Value} (n : h.Ns1 dx mA) : ∃ od, h.get? dx = some od ∧ ∀ name, PySem.W.lookIn name od = some (mA name) := by
  obtain ⟨o, es, ep, ho, hd, hk, _, hm⟩ := n
  refine ⟨o, ho, fun name => ?_⟩
  have e := hm name
  unfold nsFind findBy at e
  rw [← Array.find?_toList] at e
  unfold PySem.W.lookIn
  rw [hd]
  dsimp only
  split
  · rename_i y q
    rw [q] at e
    exact congrArg some e
  · rename_i q
    rw [q] at e
    have a : es.toList.any (·.refKey) = false := by
      rw [List.any_eq_false]
      intro y hy
      obtain ⟨z, t, hkey⟩ := hk y (Array.mem_toList_iff.mp hy)
      simp [DictEntry.refKey, hkey]
    have a' : ¬ es.toList.any (·.refKey) = true := by rw [a]; exact Bool.false_ne_true
    rw [if_neg a']
    exact congrArg some e

theorem ObjM.look {h : Heap} {x dx C : Addr} {mA : Str → Option Value} (I : ObjM h x dx C mA) : ∃ od, PySem.W.InstAt h x (PySem.W.instObj C dx) C (some od) ∧ ∀ name, PySem.W.lookIn name od = some (mA name) :=
  let ⟨od, ho, hl⟩ := lookIn_ns I.ns
  ⟨od, ⟨I.obj, rfl, rfl, ho⟩, hl⟩

section
variable {prog : Program} {w : World} {A : Around} {E : Value → Shared → Prop} {s : Shared} {K : PySem.W.Frag} {x dx C f : Addr} {mA : Str → Option Value} {name : Str} {v : Value}

theorem get_map {expr : Bool} {Q : Value → Shared → Prop} (X : K.In s.heap) (I : ObjM s.heap x dx C mA) (hg : PySem.W.plainGet K C name = true) (hh : PySem.W.hasDictIn K C = true)
    (ha : PySem.W.findIn K (.ref C) name = some none) (hv : mA name = some v) (hv' : PySem.W.handedIn v = true) (h : Q v { s with toks := s.toks + 1 }) :
    wpAny (model prog w) A (getAttr (.ref x) name expr) Q E s := by
  obtain ⟨od, J, hl⟩ := I.look
  exact PySem.W.get_value X J (PySem.W.plainGet_of hg).1 (PySem.W.findObj_own hh ha rfl (by rw [hl, hv])) hv' h



theorem set_map {ns : List Str} {Q : Unit → Shared → Prop} (X : K.In s.heap) (I : ObjM s.heap x dx C mA)
    (hs : PySem.W.findIn K (.ref C) "__setattr__" = some (some (.builtin "object.__setattr__"))) (hp : PySem.W.plainOver K C = true) (ht : PySem.W.takerIn K C name = some none) (hh : PySem.W.hasDictIn K C = true)
    (hw : PySem.Within mA ns) (hsz : ns.length ≤ sizeLine)
    (h : ∀ h', ObjM h' x dx C (fun y => if y = name then some v else mA y) → Heap.SameBut dx s.heap h' → Q () { s with heap := h', toks := s.toks + 2 }) :
    wpAny (model prog w) A (setAttr (.ref x) name v) Q E s := by
  obtain ⟨od, J, hl⟩ := I.look
  refine PySem.W.set_plain X J hs (PySem.W.osa_open (s := { s with toks := s.toks + 1 }) (r := none) X J hp ht fun b => ?_)
  obtain ⟨cd, hc, hd'⟩ := PySem.W.any_some hh
  have hx : s.heap.get? x = some ⟨.ref C, some dx, .plain, #[]⟩ := I.obj
  refine wpAny_bind (wpAny_pure (wpAny_bind (wpAny_bind (wpAny_loadPart hx (wpAny_bind (PySem.W.Looks.here (s := { s with toks := s.toks + 1 }) (PySem.W.looks_clsIn X hc) ?_))))))
  rw [hd']
  refine wpAny_pure (a := some dx) (wpAny_bind (wpAny_pure (wpAny_bind ?_)))
  refine wpAny_nsSet1 (s := { s with toks := s.toks + 1 }) I.ns fun h' hn2 hs2 => ?_
  obtain ⟨oD, esD, epD, hoD, hdD, hcD⟩ := hn2.count (PySem.Within.cons name v hw)
  refine wpAny_bind (wpAny_lookBehind hoD (by rw [hdD]; exact pastItsLine_dict (Nat.le_trans hcD (by rw [List.length_cons]; omega))) ?_)
  exact wpAny_pure (h _ ⟨(hs2.2 _ (Ne.symm I.ne)).trans I.obj, hn2, I.ne⟩ hs2)

/-- C(..): the dict at the heap's end, the instance behind it; then its __init__ -/
theorem make_map {R : Result → Shared → Prop} {vs : List Value} {kw : List (Str × Value)} (X : K.In s.heap) (hm : PySem.W.makesIn K C = true)
    (hi : PySem.W.findIn K (.ref C) "__init__" = some (some (.ref f))) (hf : PySem.W.typeIn K (.ref f) = some (.type "function"))
    (h : codeAny (model prog w) (A.under (.builtin "type.__call__" ⟨.ref C :: vs, kw⟩)) (.call (.ref f) ⟨.ref (s.heap.objs.size + 1) :: vs, kw⟩) (PySem.W.InitBack (s.heap.objs.size + 1) R)
      { s with heap := (s.heap.push PySem.W.emptyDict).push (PySem.W.instObj C s.heap.objs.size) }) :
    codeAny (model prog w) A (.call (.ref C) ⟨vs, kw⟩) R s := by
  obtain ⟨hh, g, d, t, os⟩ := s
  exact PySem.W.make_core (PySem.W.makes_of X hm) (PySem.W.looks_findIn X hi) (fun self => PySem.W.bind_fn X self hf) (.inl rfl) h
end

/-! ### the attributes as a list of pairs -/
def putF (f : Str) (v : V) : List (Str × V) → List (Str × V)
  | [] => [(f, v)]
  | (g, x) :: r => if g = f then (g, v) :: r else (g, x) :: putF f v r
theorem lookup_putF (f g : Str) (v : V) : ∀ fs : List (Str × V), (putF f v fs).lookup g = if g = f then some v else fs.lookup g
  | [] => by
    show List.lookup g [(f, v)] = _
    by_cases h : g = f
    · have hb : (g == f) = true := beq_iff_eq.mpr h
      simp only [List.lookup, hb, if_pos h]
    · have hb : (g == f) = false := beq_eq_false_iff_ne.mpr h
      simp only [List.lookup, hb, if_neg h]
  | (k, x) :: r => by
    have ih := lookup_putF f g v r
    rw [show putF f v ((k, x) :: r) = (if k = f then (k, v) :: r else (k, x) :: putF f v r) from rfl]
    by_cases hk : k = f
    · rw [if_pos hk]
      by_cases h : g = k
      · have hb : (g == k) = true := beq_iff_eq.mpr h
        simp only [List.lookup, hb, if_pos (h.trans hk)]
      · have hb : (g == k) = false := beq_eq_false_iff_ne.mpr h
        simp only [List.lookup, hb, if_neg (fun e : g = f => h (e.trans hk.symm))]
    · rw [if_neg hk]
      by_cases h : g = k
      · have hb : (g == k) = true := beq_iff_eq.mpr h
        simp only [List.lookup, hb, if_neg (fun e : g = f => hk (h.symm.trans e))]
      · have hb : (g == k) = false := beq_eq_false_iff_ne.mpr h
        simp only [List.lookup, hb]
        exact ih
theorem keys_putF (f : Str) (v : V) : ∀ fs : List (Str × V), f ∈ (putF f v fs).map (·.1) ∧ ∀ g, g ∈ fs.map (·.1) → g ∈ (putF f v fs).map (·.1)
  | [] => ⟨by simp [putF], fun g h => by simp at h⟩
  | (k, x) :: r => by
    obtain ⟨i1, i2⟩ := keys_putF f v r
    rw [show putF f v ((k, x) :: r) = (if k = f then (k, v) :: r else (k, x) :: putF f v r) from rfl]
    by_cases hk : k = f
    · rw [if_pos hk]
      subst hk
      exact ⟨by simp, fun g h => by simpa using h⟩
    · rw [if_neg hk]
      refine ⟨?_, fun g h => ?_⟩
      · rw [List.map_cons]
        exact List.mem_cons_of_mem _ i1
      · rw [List.map_cons] at h ⊢
        rcases List.mem_cons.mp h with e | e
        · exact List.mem_cons.mpr (.inl e)
        · exact List.mem_cons_of_mem _ (i2 g e)
theorem length_putF (f : Str) (v : V) : ∀ fs : List (Str × V), (putF f v fs).length ≤ fs.length + 1
  | [] => by simp [putF]
  | (k, x) :: r => by
    have ih := length_putF f v r
    rw [show putF f v ((k, x) :: r) = (if k = f then (k, v) :: r else (k, x) :: putF f v r) from rfl]
    by_cases hk : k = f
    · rw [if_pos hk, List.length_cons, List.length_cons]; omega
    · rw [if_neg hk, List.length_cons, List.length_cons]; omega

theorem RelO.some_of {v : V} {o : Option Value} (r : RelO (some v) o) : ∃ u, o = some u ∧ RelV v u := by
  cases o with
  | none => exact (show False from r).elim
  | some u => exact ⟨u, rfl, r⟩
theorem handed_of {v : V} {u : Value} (r : RelV v u) : PySem.W.handedIn u = true := by
  cases v with
  | non => cases (show u = Value.none from r); rfl
  | bl b => cases (show u = Value.bool b from r); rfl
  | int i => obtain ⟨t, e⟩ := (show ∃ t, u = Value.int i t from r); cases e; rfl
  | str x => obtain ⟨t, e⟩ := (show ∃ t, u = Value.str x t from r); cases e; rfl
  | byt b => obtain ⟨t, e⟩ := (show ∃ t, u = Value.bytes b t from r); cases e; rfl
  | flt b => obtain ⟨t, e⟩ := (show ∃ t, u = Value.float b t from r); cases e; rfl
  | ref a => cases (show u = Value.ref a from r); rfl
  | ty n => cases (show u = Value.type n from r); rfl

section
variable {P : Program} {w : World} {H H' : Hp} {h h' : Heap} {a C dx : Addr} {fs fs' : List (Str × V)}
theorem ins_get (hok : HOk P w H h) (e : H a = some (.ins C dx fs)) : ∃ mA, ObjM h a dx C mA ∧ (∀ f, RelO (fs.lookup f) (mA f)) ∧ PySem.Within mA (fs.map (·.1)) ∧ fs.length ≤ 1000 ∧ H dx = some (.own a) := by
  obtain ⟨d, z, ne, ob, mA, n, r, q⟩ := (show ObjOk P w H h a (.ins C dx fs) from hok a _ e)
  exact ⟨mA, ⟨ob, n, ne⟩, r, q, z, d⟩
end

/-! ### what of the text a class must have -/
structure Cls (K : PySem.W.Frag) (C : Addr) : Prop where
  pg : PySem.W.plainGet K C Str.empty = true
  hd : PySem.W.hasDictIn K C = true
  po : PySem.W.plainOver K C = true
  sa : PySem.W.findIn K (.ref C) "__setattr__" = some (some (.builtin "object.__setattr__"))
theorem Cls.get {K : PySem.W.Frag} {C : Addr} (c : Cls K C) (f : Str) : PySem.W.plainGet K C f = true := c.pg
/-- no class of it has the name -/
def NoAttr (K : PySem.W.Frag) (C : Addr) (f : Str) : Prop := PySem.W.findIn K (.ref C) f = some none
theorem NoAttr.taker {K : PySem.W.Frag} {C : Addr} {f : Str} (n : NoAttr K C f) : PySem.W.takerIn K C f = some none := by
  unfold PySem.W.takerIn
  rw [show PySem.W.findIn K (.ref C) f = some none from n]
  rfl

section
variable {X : Cx} {pins : List (Addr × Obj)} {σ : St} {H : Hp} {s : Shared} {a C dx : Addr} {fs : List (Str × V)} {f : Str} {v : V} {A : Around} {E : Value → Shared → Prop}

theorem getattr_ok {b : Bool} {Q : Value → Shared → Prop} (I : Inv X pins σ H s) (e : H a = some (.ins C dx fs)) (c : Cls X.K C) (n : NoAttr X.K C f) (l : fs.lookup f = some v)
    (h : ∀ u s', Inv X pins σ H s' → RelV v u → Q u s') : wpAny (model X.prog X.w) A (getAttr (.ref a) f b) Q E s := by
  obtain ⟨mA, O, r, _, _, _⟩ := ins_get I.hok e
  obtain ⟨u, hu, ru⟩ := RelO.some_of (v := v) (o := mA f) (by rw [← l]; exact r f)
  exact get_map I.kIn O (c.get f) c.hd n hu (handed_of ru) (h u _ (I.tok _) ru)



theorem setattr_ok {y : V} {u : Value} {Q : Unit → Shared → Prop} (I : Inv X pins σ H s) (e : H a = some (.ins C dx fs)) (c : Cls X.K C) (n : NoAttr X.K C f) (hl : fs.length < 1000) (ry : RelV y u)
    (h : ∀ s', Inv X pins σ (upd H a (.ins C dx (putF f y fs))) s' → Q () s') : wpAny (model X.prog X.w) A (setAttr (.ref a) f u) Q E s := by
  obtain ⟨mA, O, r, wi, _, ho⟩ := ins_get I.hok e
  have hz : (fs.map (·.1)).length ≤ sizeLine := by rw [List.length_map, sizeLine_eq]; omega
  refine set_map I.kIn O c.sa c.po n.taker c.hd wi hz fun h' O' sb => h _ ?_
  have hd : ∃ o, h'.get? dx = some o := let ⟨o, _, _, e', _⟩ := O'.ns; ⟨o, e'⟩
  refine I.write (x := a) (e := dx) (by rw [e]; exact True.intro) (.inr ho) (fun b q hb z => (sb.2 b hb).trans z) hd ?_
  refine ⟨by rw [upd_ne O.ne]; exact ho, ?_, O.ne, O'.obj, _, O'.ns, fun g => ?_, fun g hg => ?_⟩
  · have := length_putF f y fs; omega
  · show RelO ((putF f y fs).lookup g) (if g = f then some u else mA g)
    rw [lookup_putF]
    by_cases q : g = f
    · rw [if_pos q, if_pos q]; exact ry
    · rw [if_neg q, if_neg q]; exact r g
  · by_cases q : g = f
    · rw [q]; exact (keys_putF f y fs).1
    · refine (keys_putF f y fs).2 g (wi g fun z => hg ?_)
      show (if g = f then some u else mA g) = none
      rw [if_neg q]; exact z

/-- a new instance, tracked, without attributes -/
theorem Inv.made (I : Inv X pins σ H s) : Inv X pins σ (upd (upd H s.heap.objs.size (.own (s.heap.objs.size + 1))) (s.heap.objs.size + 1) (.ins C s.heap.objs.size []))
    { s with heap := (s.heap.push PySem.W.emptyDict).push (PySem.W.instObj C s.heap.objs.size) } := by
  have e1 : (s.heap.push PySem.W.emptyDict).get? s.heap.objs.size = some PySem.W.emptyDict := Heap.get?_push_size s.heap rfl
  have e2 : ((s.heap.push PySem.W.emptyDict).push (PySem.W.instObj C s.heap.objs.size)).get? (s.heap.objs.size + 1) = some (PySem.W.instObj C s.heap.objs.size) := by
    have := Heap.get?_push_size (s.heap.push PySem.W.emptyDict) (o := PySem.W.instObj C s.heap.objs.size) rfl
    rwa [Heap.size_push] at this
  have e3 : (s.heap.push PySem.W.emptyDict).Ns s.heap.objs.size (fun _ => none) := ⟨PySem.W.emptyDict, #[], _, e1, rfl, (fun e he => absurd he (by simp)), fun _ => rfl⟩
  have I1 := I.laid (a := s.heap.objs.size) (o := .own (s.heap.objs.size + 1)) (h' := s.heap.push PySem.W.emptyDict) (t' := s.toks) (fun b u q => Heap.get?_push_of_some _ q) (Nat.le_refl _) ⟨_, e1⟩
  refine I1.laid (a := s.heap.objs.size + 1) (o := .ins C s.heap.objs.size []) (t' := s.toks) (fun b u q => Heap.get?_push_of_some _ q) (Nat.le_of_eq (Heap.size_push _ _)) ?_
  have ne : s.heap.objs.size ≠ s.heap.objs.size + 1 := Nat.ne_of_lt (Nat.lt_succ_self _)
  refine ⟨by rw [upd_ne ne, upd_same], Nat.zero_le _, ne, e2, fun _ => none, (Heap.Ns1.of_empty e3).at fun o q => Heap.get?_push_of_some _ q, fun _ => True.intro, fun y hy => absurd rfl hy⟩

/-- e.f where nothing but the object is asked: through attributeBase (super) and the last hold -/
theorem attr_of {prog : Program} {w : World} {env : Env} {e : Expr} {f : Str} {pos : Pos} {s : Shared} {Q : Value → Shared → Prop} (hb : attributeBase e f env (eval e env) = eval e env)
    (h : wpAny (model prog w) A (eval e env) (fun o s₁ => wpAny (model prog w) A (getAttr o f true) Q E s₁) E s) : wpAny (model prog w) A (eval (.Attribute e f pos) env) Q E s :=
  Attribute_any_ h (by rw [arm_eval_Attribute, hb])
end

/-! ### readings and rules -/
/-- e.f, an attribute of the instance -/
def tFld (K : PySem.W.Frag) (ta : TE) (f : Str) : TE := fun σ H Q => ta σ H fun x H1 => ∃ a C dx fs v, x = .ref a ∧ H1 a = some (.ins C dx fs) ∧ Cls K C ∧ NoAttr K C f ∧ fs.lookup f = some v ∧ Q v H1
/-- e.f = value -/
def sFld (K : PySem.W.Frag) (ta tv : TE) (f : Str) : TS := fun D σ H => tv σ H fun y H1 => ta σ H1 fun x H2 => ∃ a C dx fs, x = .ref a ∧ H2 a = some (.ins C dx fs) ∧ Cls K C ∧ NoAttr K C f ∧ fs.length < 1000 ∧
  D.nx σ (upd H2 a (.ins C dx (putF f y fs)))

section
variable {X : Cx} {o e value : Expr} {f : Str} {pos pos' tpos : Pos} {ta tv : TE}
theorem pe_fld (he : PE X e ta) (hb : attributeBase e f X.env (eval e X.env) = eval e X.env) : PE X (.Attribute e f pos) (tFld X.K ta f) := by
  intro pins s σ H Q I h
  refine attr_of hb (thn (he pins s σ H _ I h) fun u s1 ⟨x, H1, I1, rx, a, C, dx, fs, v, ex, ea, c, n, l, q⟩ => ?_)
  subst ex
  obtain rfl : u = Value.ref a := rx
  exact getattr_ok I1 ea c n l fun u' s2 I2 ru => ⟨v, H1, I2, ru, q⟩
theorem ps_fld (ha : PE X o ta) (hv : PE X value tv) (hs : swapsWith value (some (.Attribute o f pos')) pos.line X.env = pure false) : PS X (.Assign [.Attribute o f pos'] value pos) (sFld X.K ta tv f) := by
  intro pins s σ H D I h
  refine plainObj_wpAny_Assign_Attribute (thn (hv pins s σ H _ I h) fun u s1 ⟨y, H1, I1, ry, q⟩ => thn (ha pins s1 σ H1 _ I1 q) fun ov s2 ⟨x, H2, I2, rx, a, C, dx, fs, ex, ea, c, n, l, q2⟩ => ?_) hs
  subst ex
  obtain rfl : ov = Value.ref a := rx
  exact setattr_ok I2 ea c n l ry fun s3 I3 => ⟨σ, _, I3, q2⟩

end

/-! ### isinstance -/
section
variable {X : Cx} {pins : List (Addr × Obj)} {σ : St} {H : Hp} {s : Shared} {A : Around} {E : Value → Shared → Prop} {Q : Value → Shared → Prop} {c : Value} {b : Bool}
end
end L2

namespace L2
open PySem PySem.Spec PyProof.Rows

/-! ### room -/
structure Room (k : Nat) (A : Around) : Prop where
  hd : A.handled = none
  dp : A.depth + 3 * k + 5 < recursionLimit
  un : A.units + 16 * k + 200 < cLine
theorem Room.mono {j k : Nat} {A : Around} (r : Room k A) (h : j ≤ k) : Room j A := ⟨r.hd, by have := r.dp; omega, by have := r.un; omega⟩
theorem Room.deeper {k : Nat} {A : Around} (r : Room (k + 1) A) (env : Env) : Room k (A.deeper env) :=
  ⟨r.hd, by have := r.dp; show A.depth + 1 + 3 * k + 5 < _; omega, by have := r.un; show A.units + 3 + 16 * k + 200 < _; omega⟩
theorem make_depth {A : Around} {C : Addr} {us : List Value} {kw : List (Str × Value)} : (A.under (.builtin "type.__call__" ⟨.ref C :: us, kw⟩)).depth = A.depth + 1 := by
  first | rfl | simp [Around.under, Code.weight, Code.isCreation, Code.isGuard, Code.isCaller, Code.frames, Code.isFrame, guardIds]
theorem make_units {A : Around} {C : Addr} {us : List Value} {kw : List (Str × Value)} : (A.under (.builtin "type.__call__" ⟨.ref C :: us, kw⟩)).units = A.units + 1 := by
  first | rfl | simp [Around.under, Code.cUnits, Code.frames, Code.isFrame]
theorem Room.make {k : Nat} {A : Around} (r : Room (k + 1) A) (C : Addr) (us : List Value) (kw : List (Str × Value)) : Room k (A.under (.builtin "type.__call__" ⟨.ref C :: us, kw⟩)) :=
  ⟨r.hd, by have := r.dp; rw [make_depth]; omega, by have := r.un; rw [make_units]; omega⟩
theorem Room.depth {k : Nat} {A : Around} (r : Room k A) : A.depth < recursionLimit := by have := r.dp; omega

/-! ### argument lists and displays -/
def tNil : TA := fun _ H Q => Q [] H
def tCons (ta : TE) (tr : TA) : TA := fun σ H Q => ta σ H fun x H1 => tr σ H1 fun xs H2 => Q (x :: xs) H2
section
variable {X : Cx} {e : Expr} {es : List Expr} {te : TE} {t : TA} {pos : Pos}
theorem pa_nil : PA X [] tNil := fun _ _ _ _ H Q I h => Calls.spliced_nil ⟨[], H, I, .nil, h⟩
theorem pa_cons (ha : PE X e te) (hr : PA X es t) (hs : starEach (e :: es) X.env = (false, eval e X.env) :: starEach es X.env := by rfl) : PA X (e :: es) (tCons te t) := by
  intro pos pins s σ H Q I h
  rw [hs]
  show wpAny _ _ (spliced ((false, eval e X.env) :: backTo pos (starEach es X.env))) _ _ s
  refine Calls.spliced_cons (thn (ha pins s σ H _ I h) fun u s1 ⟨x, H1, I1, r1, q1⟩ => ?_)
  exact thn (hr pos pins s1 σ H1 _ I1 q1) fun us s2 ⟨xs, H2, I2, r2, q2⟩ => ⟨x :: xs, H2, I2, .cons r1 r2, q2⟩

/-- a tuple, a list of written items -/
def tTup (t : TA) : TE := fun σ H Q => t σ H fun xs H1 => xs.length ≤ sizeLine ∧ ∀ p, H1 p = none → Q (.ref p) (upd H1 p (.tup xs))
def tLst (t : TA) : TE := fun σ H Q => t σ H fun xs H1 => xs.length ≤ sizeLine ∧ ∀ p, H1 p = none → Q (.ref p) (upd H1 p (.lst xs))
theorem pe_tup {x1} (h : PA X es t) : PE X (.Tuple es x1 pos) (tTup t) := by
  intro pins s σ H Q I hq
  refine wpAny_Tuple_spliced (thn (h pos pins s σ H _ I hq) fun us s1 ⟨xs, H1, I1, r, z, q⟩ => ⟨by rw [← r.length]; exact z, ?_⟩)
  have hf : H1 s1.heap.objs.size = none := I1.hok.fresh (Nat.le_refl _)
  refine ⟨.ref s1.heap.objs.size, upd H1 s1.heap.objs.size (.tup xs), I1.laid (t' := s1.toks) (fun b u e => Heap.get?_push_of_some _ e) (Nat.le_refl _) ?_, rfl, q _ hf⟩
  exact ⟨z, us, r, ⟨_, Heap.get?_push_size _ rfl, rfl, _, rfl⟩⟩
theorem pe_lst (h : PA X es t) : PE X (.List es pos) (tLst t) := by
  intro pins s σ H Q I hq
  refine wpAny_List_spliced (thn (h pos pins s σ H _ I hq) fun us s1 ⟨xs, H1, I1, r, z, q⟩ => ⟨by rw [← r.length]; exact z, ?_⟩)
  have hf : H1 s1.heap.objs.size = none := I1.hok.fresh (Nat.le_refl _)
  refine ⟨.ref s1.heap.objs.size, upd H1 s1.heap.objs.size (.lst xs), I1.laid (t' := s1.toks) (fun b u e => Heap.get?_push_of_some _ e) (Nat.le_refl _) ?_, rfl, q _ hf⟩
  exact ⟨z, us, 0, r, Heap.get?_push_size _ rfl⟩
end

/-! ### what a def promises -/
/-- a def's promise: the bound arguments in the parameters' order, the heap, the wanted end, the wanted exception -/
abbrev Sp := List V → Hp → VK → XK → Prop
/-- how an exception lies behind a call (file 08 gives it): the callers' frames, abstract heap and state ahead of the call, the wish, the exception, the state -/
abbrev CXT := List Env → Hp → Shared → XK → Value → Shared → Prop

/-- the state at a call -/
structure Env0 (P : Program) (w : World) (K : PySem.W.Frag) (mg : Str → Option Value) (base : Heap) (A : Around) (outer : List Env) (s : Shared) (H : Hp) : Prop where
  frames : A.frames = some outer
  mod : Mod K mg base
  bs : ∀ b o, base.get? b = some o → s.heap.get? b = some o ∧ H b = none
  bsz : base.objs.size ≤ s.heap.objs.size
  funs : s.heap.FunFrames base outer
  frf : ∀ b ∈ frs outer, H b = none
  hok : HOk P w H s.heap
  bare : AllBare s.gens
/-- a call's end -/
def CE (outer : List Env) (P : Program) (w : World) (H : Hp) (s : Shared) (Q : VK) (u : Value) (s' : Shared) : Prop :=
  ∃ v H', s'.os = s.os ∧ AllBare s'.gens ∧ Un (frs outer) [] H H' s.heap s'.heap ∧ HOk P w H' s'.heap ∧ RelV v u ∧ Q v H'
def CR (CX : CXT) (outer : List Env) (P : Program) (w : World) (H : Hp) (s : Shared) (Q : VK) (E : XK) (r : Result) (s' : Shared) : Prop :=
  match r with
  | .ok (.ret u) => CE outer P w H s Q u s'
  | .ok _ => False
  | .error e => CX outer H s E e s'
structure FnOk (P : Program) (w : World) (K : PySem.W.Frag) (mg : Str → Option Value) (base : Heap) (CX : CXT) (k : Nat) (f : Addr) (fd : FuncData) (ps : List Str) (sp : Sp) : Prop where
  len : ∀ vs H Q E, sp vs H Q E → vs.length = ps.length
  run : ∀ (A : Around) (outer : List Env) (s : Shared) (H : Hp) (args : Args) (us : List Value) (vs : List V) (Q : VK) (E : XK), Room k A → Env0 P w K mg base A outer s H → BindsTo s fd args (ps.zip us) → Vals vs us → sp vs H Q E →
    codeAny (model P w) A (.call (.ref f) args) (CR CX outer P w H s Q E) s

theorem Env0.make {P : Program} {w : World} {K : PySem.W.Frag} {mg : Str → Option Value} {base : Heap} {A : Around} {outer : List Env} {s : Shared} {H : Hp} (e : Env0 P w K mg base A outer s H) (C : Addr) (us : List Value) (kw : List (Str × Value)) :
    Env0 P w K mg base (A.under (.builtin "type.__call__" ⟨.ref C :: us, kw⟩)) outer s H := ⟨by first | exact e.frames | (simpa [Around.under, Code.envs, Code.isFrame, pushEnvs] using e.frames), e.mod, e.bs, e.bsz, e.funs, e.frf, e.hok, e.bare⟩

section
variable {X : Cx} {pins : List (Addr × Obj)} {σ : St} {H : Hp} {s s' : Shared}
/-- from a body: what a callee wants -/
theorem Inv.env0 (I : Inv X pins σ H s) : Env0 X.prog X.w X.K X.mg X.base X.A X.stack s H :=
  ⟨I.ok.frames, I.ok.mod, I.bs, Nat.le_trans I.ok.bsz I.sz, I.stack, I.stkFree, I.hok, I.bare⟩
/-- behind a call -/
theorem Inv.after {Q : VK} {u : Value} (I : Inv X pins σ H s) (h : CE X.stack X.prog X.w H s Q u s') : EP X pins σ Q u s' := by
  obtain ⟨v, H', os, bare, un, hok, r, q⟩ := h
  obtain ⟨hh, g, d, t, os'⟩ := s'
  obtain rfl : os' = s.os := os
  exact ⟨v, H', I.call (h' := hh) (g' := g) (d' := d) (t' := t) (ch := []) un hok bare (fun b z => absurd z (by simp)), r, q⟩
end

/-! ### calls -/
/-- f(..): the written arguments, then the defaults dvs; E: what is wanted of an exception -/
def tCall (sp : Sp) (dvs : List V) (E : XK) (t : TA) : TE := fun σ H Q => t σ H fun vs H1 => sp (vs ++ dvs) H1 Q E
/-- C(..): a new instance and its dict, then __init__ -/
def tMake (C : Addr) (sp : Sp) (dvs : List V) (E : XK) (t : TA) : TE := fun σ H Q => t σ H fun vs H1 => ∀ x dx, H1 x = none → H1 dx = none → dx ≠ x →
  sp (.ref x :: (vs ++ dvs)) (upd (upd H1 dx (.own x)) x (.ins C dx [])) (fun v H2 => v = .non ∧ Q (.ref x) H2) E

/-- how the parameters are bound: us the positional arguments, kw the keywords' values by name, ds the defaults that fill up -/
def Binds (K : PySem.W.Frag) (fd : FuncData) (ps : List Str) (ds : List Value) : Prop :=
  ∀ (s : Shared) (us : List Value), K.In s.heap → (us ++ ds).length = ps.length → BindsTo s fd ⟨us, []⟩ (ps.zip (us ++ ds))
/-- every parameter is given -/
theorem Binds.all {K : PySem.W.Frag} {fd : FuncData} {ps : List Str} (h : ∀ us : List Value, us.length = ps.length → bindArgs fd ⟨us, []⟩ = pure (ps.zip us)) : Binds K fd ps [] := fun s us _ hl => by
  rw [List.append_nil] at hl ⊢
  exact .of_eq (h us hl)

/-- an exception of a callee reaches what this body wants of exceptions -/
def Passes (CX : CXT) (X : Cx) (E : XK) : Prop := ∀ (pins : List (Addr × Obj)) (σ : St) (H : Hp) (s : Shared) (e : Value) (s' : Shared), Inv X pins σ H s → CX X.stack H s E e s' → X.xe e s'

section
variable {X : Cx} {CX : CXT} {k : Nat} {f C : Addr} {fd : FuncData} {ps : List Str} {sp : Sp} {dvs : List V} {ds : List Value} {E : XK} {x m : Str} {p pos apos : Pos} {e o : Expr} {es : List Expr} {ta : TE} {t : TA}

/-- the callee runs -/
theorem run_fn {pins : List (Addr × Obj)} {σ : St} {H : Hp} {s : Shared} {Q : VK} {us : List Value} {vs : List V} (F : FnOk X.prog X.w X.K X.mg X.base CX k f fd ps sp) (hr : Room k X.A) (hb : Binds X.K fd ps ds) (hd : Vals dvs ds) (hx : Passes CX X E)
    (I : Inv X pins σ H s) (r : Vals vs us) (h : sp (vs ++ dvs) H Q E) : wpAny (model X.prog X.w) X.A (call (.ref f) us) (EP X pins σ Q) X.xe s := by
  have r2 : Vals (vs ++ dvs) (us ++ ds) := r.append hd
  have hl : (us ++ ds).length = ps.length := by rw [← r2.length]; exact F.len _ _ _ _ h
  refine wpAny_call (codeAny_mono (F.run X.A X.stack s H ⟨us, []⟩ (us ++ ds) (vs ++ dvs) Q E hr I.env0 (hb s us I.kIn hl) r2 h) fun r s' hq => ?_)
  cases r with
  | error e => exact hx pins σ H s e s' I hq
  | ok fl =>
    cases fl with
    | ret u => exact I.after hq
    | next => exact False.elim hq
    | brk => exact False.elim hq
    | cont => exact False.elim hq

theorem pe_call (F : FnOk X.prog X.w X.K X.mg X.base CX k f fd ps sp) (hr : Room k X.A) (hg : Gl X x) (hm : X.mg x = some (.ref f)) (hk : PySem.W.keepIn X.K (.ref f) = true) (hb : Binds X.K fd ps ds) (hd : Vals dvs ds) (hx : Passes CX X E)
    (ha : PA X (e :: es) t) (hdb : (x == ("__debug__" : Str)) = false := by decide) (he : starEach (e :: es) X.env = (false, eval e X.env) :: starEach es X.env := by rfl) (hpl : (backTo pos (starEach es X.env)).any (·.1) = false := by rfl) :
    PE X (.Call (.Name x p) (e :: es) [] pos) (tCall sp dvs E t) := by
  intro pins s σ H Q I h
  refine wpAny_Call_Name_kw (ld_glob I hg hm ?_ hdb)
  refine PySem.W.callWith_K (h₀ := X.base) I.ok.mod.kin hk (thn (ha pos pins s σ H _ I h) fun us s1 ⟨vs, H1, I1, r, q⟩ => ⟨I1.kIn, ?_⟩) he hpl
  exact run_fn F hr hb hd hx I1 r q


/-- what a class must have to be made -/
structure Mk (K : PySem.W.Frag) (C f : Addr) : Prop where
  makes : PySem.W.makesIn K C = true
  init : PySem.W.findIn K (.ref C) "__init__" = some (some (.ref f))
  fn : PySem.W.isFn K (.ref f) = true
  kp : PySem.W.keepIn K (.ref C) = true

theorem run_make {pins : List (Addr × Obj)} {σ : St} {H : Hp} {s : Shared} {Q : VK} {us : List Value} {vs : List V} (M : Mk X.K C f) (F : FnOk X.prog X.w X.K X.mg X.base CX k f fd ps sp) (hr : Room (k + 1) X.A) (hb : Binds X.K fd ps ds) (hd : Vals dvs ds)
    (hx : Passes CX X E) (I : Inv X pins σ H s) (r : Vals vs us)
    (h : ∀ x dx, H x = none → H dx = none → dx ≠ x → sp (.ref x :: (vs ++ dvs)) (upd (upd H dx (.own x)) x (.ins C dx [])) (fun v H2 => v = .non ∧ Q (.ref x) H2) E) :
    wpAny (model X.prog X.w) X.A (call (.ref C) us) (EP X pins σ Q) X.xe s := by
  have hq := h (s.heap.objs.size + 1) s.heap.objs.size (I.hok.fresh (Nat.le_succ _)) (I.hok.fresh (Nat.le_refl _)) (Nat.ne_of_lt (Nat.lt_succ_self _))
  have I2 := Inv.made (C := C) I
  have r2 : Vals (V.ref (s.heap.objs.size + 1) :: (vs ++ dvs)) (Value.ref (s.heap.objs.size + 1) :: (us ++ ds)) := .cons rfl (r.append hd)
  have hl : (Value.ref (s.heap.objs.size + 1) :: us ++ ds).length = ps.length := by
    have e := r2.length
    rw [F.len _ _ _ _ hq] at e
    exact e.symm
  refine wpAny_call (make_map (f := f) I.kIn M.makes M.init (beq_iff_eq.mp M.fn) (codeAny_mono (F.run _ X.stack _ _ ⟨Value.ref (s.heap.objs.size + 1) :: us, []⟩ (Value.ref (s.heap.objs.size + 1) :: (us ++ ds)) _ _ E (hr.make C us [])
    (I2.env0.make C us []) (hb _ (Value.ref (s.heap.objs.size + 1) :: us) I2.kIn hl) r2 hq) fun r s' hq' => ?_))
  cases r with
  | error e => exact hx pins σ _ _ e s' I2 hq'
  | ok fl =>
    cases fl with
    | ret u =>
      obtain ⟨v, H', I3, rv, ev, q3⟩ := I2.after hq'
      subst ev
      exact ⟨rv, ⟨V.ref (s.heap.objs.size + 1), H', I3, rfl, q3⟩⟩
    | next => exact False.elim hq'
    | brk => exact False.elim hq'
    | cont => exact False.elim hq'
theorem pe_make (M : Mk X.K C f) (F : FnOk X.prog X.w X.K X.mg X.base CX k f fd ps sp) (hr : Room (k + 1) X.A) (hg : Gl X x) (hm : X.mg x = some (.ref C)) (hb : Binds X.K fd ps ds) (hd : Vals dvs ds) (hx : Passes CX X E)
    (ha : PA X (e :: es) t) (hdb : (x == ("__debug__" : Str)) = false := by decide) (he : starEach (e :: es) X.env = (false, eval e X.env) :: starEach es X.env := by rfl) (hpl : (backTo pos (starEach es X.env)).any (·.1) = false := by rfl) :
    PE X (.Call (.Name x p) (e :: es) [] pos) (tMake C sp dvs E t) := by
  intro pins s σ H Q I h
  refine wpAny_Call_Name_kw (ld_glob I hg hm ?_ hdb)
  refine PySem.W.callWith_K (h₀ := X.base) I.ok.mod.kin M.kp (thn (ha pos pins s σ H _ I h) fun us s1 ⟨vs, H1, I1, r, q⟩ => ⟨I1.kIn, ?_⟩) he hpl
  exact run_make M F hr hb hd hx I1 r q
theorem pe_make0 (M : Mk X.K C f) (F : FnOk X.prog X.w X.K X.mg X.base CX k f fd ps sp) (hr : Room (k + 1) X.A) (hg : Gl X x) (hm : X.mg x = some (.ref C)) (hb : Binds X.K fd ps ds) (hd : Vals dvs ds) (hx : Passes CX X E)
    (hdb : (x == ("__debug__" : Str)) = false := by decide) : PE X (.Call (.Name x p) [] [] pos) (tMake C sp dvs E tNil) := by
  intro pins s σ H Q I h
  refine wpAny_Call_Name_kw (ld_glob I hg hm ?_ hdb)
  exact PySem.W.callWith_K0 I.kIn M.kp (run_make (us := []) M F hr hb hd hx I .nil h)
end

/-! ### keywords -/
section
variable {X : Cx} {CX : CXT} {k : Nat} {f C : Addr} {fd : FuncData} {ps ks : List Str} {sp : Sp} {E : XK} {x m : Str} {p pos apos kpos : Pos} {e o : Expr} {es : List Expr} {kws : List Keyword} {te ta : TE} {t tk : TA} {nm : Option Str}

variable {g : List Value → List Value → List Value} {gV : List V → List V → List V}
end

/-! ### a def's body keeps its promise -/
/-- names: the parameters first -/
structure FnScope (N P : List Str) (sc : Scope) : Prop where
  kind : sc.kind = .function
  co : sc.isCoroutine = false
  gen : sc.isGenerator = false
  nd : N.Nodup
  pre : N.take P.length = P
  par : ∀ x ∈ P, sc.names.lookup x = some .local ∨ sc.names.lookup x = some .cell
  nofree : ∀ y ∈ sc.names, y.2 ≠ .free

theorem bindL_out {kindOf : Str → Option NameKind} {x : Str} : ∀ {binds : List (Str × Value)} {m : Str → Option Value}, (∀ v, (x, v) ∉ binds) → bindL kindOf binds m x = m x
  | [], _, _ => rfl
  | (n, v) :: r, m, h => by
    unfold bindL
    rw [bindL_out fun w hw => h w (List.mem_cons_of_mem _ hw)]
    split
    · have : x ≠ n := by rintro rfl; exact h v List.mem_cons_self
      simp [this]
    · rfl
theorem bindC_out {kindOf : Str → Option NameKind} {x : Str} : ∀ {binds : List (Str × Value)} {m : Str → Option Value}, (∀ v, (x, v) ∉ binds) → bindC kindOf binds m x = m x
  | [], _, _ => rfl
  | (n, v) :: r, m, h => by
    unfold bindC
    rw [bindC_out fun w hw => h w (List.mem_cons_of_mem _ hw)]
    split
    · rfl
    · have : x ≠ n := by rintro rfl; exact h v List.mem_cons_self
      simp [this]
theorem bindL_get {kindOf : Str → Option NameKind} {x : Str} {v : Value} : ∀ {P : List Str} {vs : List Value} {i : Nat} {m : Str → Option Value}, P.Nodup → P[i]? = some x → vs[i]? = some v → kindOf x = some .local →
    bindL kindOf (P.zip vs) m x = some v
  | [], _, _, _, _, h, _, _ => by simp at h
  | _ :: _, [], _, _, _, _, h, _ => by simp at h
  | p :: P, w :: vs, 0, m, nd, h1, h2, hk => by
    simp at h1 h2; subst h1; subst h2
    show bindL kindOf ((p, w) :: P.zip vs) m p = _
    unfold bindL
    rw [bindL_out fun v hv => (List.nodup_cons.mp nd).1 (List.of_mem_zip hv).1, if_pos hk]
    simp
  | p :: P, w :: vs, i + 1, m, nd, h1, h2, hk => by
    show bindL kindOf ((p, w) :: P.zip vs) m x = _
    unfold bindL
    exact bindL_get (i := i) (List.nodup_cons.mp nd).2 (by simpa using h1) (by simpa using h2) hk
theorem bindC_get {kindOf : Str → Option NameKind} {x : Str} {v : Value} : ∀ {P : List Str} {vs : List Value} {i : Nat} {m : Str → Option Value}, P.Nodup → P[i]? = some x → vs[i]? = some v → kindOf x ≠ some .local →
    bindC kindOf (P.zip vs) m x = some v
  | [], _, _, _, _, h, _, _ => by simp at h
  | _ :: _, [], _, _, _, _, h, _ => by simp at h
  | p :: P, w :: vs, 0, m, nd, h1, h2, hk => by
    simp at h1 h2; subst h1; subst h2
    show bindC kindOf ((p, w) :: P.zip vs) m p = _
    unfold bindC
    rw [bindC_out fun v hv => (List.nodup_cons.mp nd).1 (List.of_mem_zip hv).1, if_neg hk]
    simp
  | p :: P, w :: vs, i + 1, m, nd, h1, h2, hk => by
    show bindC kindOf ((p, w) :: P.zip vs) m x = _
    unfold bindC
    exact bindC_get (i := i) (List.nodup_cons.mp nd).2 (by simpa using h1) (by simpa using h2) hk

/-- the names' values at the entry -/
def start (N : List Str) (vs : List V) : St := vs.map some ++ List.replicate (N.length - vs.length) none

/-- the context of a def's body, at its entry; an exception leaves the frame, then lies as CX says -/
def cxOf (CX : CXT) (P : Program) (w : World) (K : PySem.W.Frag) (mg : Str → Option Value) (base : Heap) (N : List Str) (qual : Str) (scope : Scope) (f : Addr) (cd : Value) (A : Around) (outer : List Env) (s : Shared) (H : Hp) (E : XK) : Cx where
  prog := P
  w := w
  K := K
  mg := mg
  base := base
  A := A.deeper (envOfC qual scope s.heap.objs.size f cd)
  N := N
  s_0 := s
  H_0 := H
  env := envOfC qual scope s.heap.objs.size f cd
  outer := outer
  stack := envOfC qual scope s.heap.objs.size f cd :: outer
  ex := []
  calm := true
  fn := fun _ => true
  pn := []
  xe := fun e s' => wpAny (model P w) (A.deeper (envOfC qual scope s.heap.objs.size f cd)) (leaving (envOfC qual scope s.heap.objs.size f cd) e) (fun _ s'' => CX outer H s E e s'') (fun e' s'' => CX outer H s E e' s'') s'

theorem cell_has {sc : Scope} {n : Nat} {x : Str} (h : sc.names.lookup x = some .cell) : ∃ c, (cellsFrom n sc.names []).lookup x = some c := by
  have q := PySem.W.cellsFrom_some sc.names n [] (.inl h)
  exact Option.isSome_iff_exists.mp q

theorem inv_start {CX : CXT} {P : Program} {w : World} {K : PySem.W.Frag} {mg : Str → Option Value} {base : Heap} {N ps : List Str} {qual : Str} {scope : Scope} {f : Addr} {cd : Value} {A : Around} {outer : List Env} {s s1 : Shared} {H : Hp} {E : XK} {us : List Value} {vs : List V}
    (S : FnScope N ps scope) (hd : A.handled = none) (e0 : Env0 P w K mg base A outer s H) (hl : vs.length = ps.length) (r : Vals vs us)
    (x : InCallC s s.heap.objs.size (bindL (envOfC qual scope s.heap.objs.size f cd).kindOf (ps.zip us) fun _ => none) (cellsFrom (s.heap.objs.size + 1) scope.names []) (bindC (envOfC qual scope s.heap.objs.size f cd).kindOf (ps.zip us) fun _ => none) s1) :
    Inv (cxOf CX P w K mg base N qual scope f cd A outer s H E) [] (start N vs) H s1 := by
  have hpl : ps.length ≤ N.length := by have := congrArg List.length S.pre; rw [List.length_take] at this; omega
  obtain ⟨h1, tk, rfl, hk⟩ := x.done
  have noA : ∀ b : Addr, b ∉ (cxOf CX P w K mg base N qual scope f cd A outer s H E).ex := fun b z => absurd (show b ∈ ([] : List Addr) from z) (by simp)
  refine ⟨⟨e0.mod, S.kind, rfl, rfl, Nat.le_refl _, fun y z c h1 h2 => ?_, fun y hy => ?_, fun y c _ h => ?_, fun _ => hd, Around.frames_deeper e0.frames, .inr ⟨rfl, rfl⟩, fun b z => absurd z (noA b), e0.bs, e0.bsz, fun b _ _ => noA b, fun b z => absurd z (noA b), e0.funs, e0.frf⟩,
    rfl, e0.bare, Un.kept hk, ⟨_, x.toInCall.ns, fun i y v h1 h2 h3 => ?_⟩, fun y c h => ⟨_, x.cell y c h⟩, e0.hok.fresh (Nat.le_refl _), fun y c h => ?_, fun p hp => absurd (show p ∈ ([] : List (Addr × Obj)) from hp) (by simp), e0.hok.kept hk, ?_⟩
  · exact name_of_addr x.apart (PySem.mem_of_lookup h1) (PySem.mem_of_lookup h2)
  · have hy : scope.names.lookup y = some .cell ∨ scope.names.lookup y = some .free := hy
    rcases hy with hy | hy
    · exact cell_has hy
    · exact absurd rfl (S.nofree _ (PySem.mem_of_lookup hy))
  · exact Nat.le_of_lt (x.above y c (PySem.mem_of_lookup h))
  · have hi : i < vs.length := by
      unfold start at h2
      by_cases hi : i < vs.length
      · exact hi
      · rw [List.getElem?_append_right (by simpa using hi)] at h2
        rw [List.getElem?_replicate] at h2
        split at h2 <;> cases h2
    have ha : vs[i]? = some v := by
      unfold start at h2
      rw [List.getElem?_append_left (by simpa using hi), List.getElem?_map] at h2
      cases e : vs[i]? with
      | none => rw [e] at h2; cases h2
      | some a => rw [e] at h2; cases h2; rfl
    obtain ⟨u, hu, rv⟩ := r.get ha
    have hp : ps[i]? = some y := by
      rw [← S.pre, List.getElem?_take_of_lt (by omega)]; exact h1
    have ndP : ps.Nodup := by rw [← S.pre]; exact S.nd.sublist (List.take_sublist _ _)
    refine ⟨u, rv, ?_⟩
    rcases S.par y (List.mem_of_getElem? hp) with k | k
    · exact .inl ⟨k, bindL_get ndP hp hu k⟩
    · obtain ⟨c, e⟩ := cell_has (n := s.heap.objs.size + 1) k
      refine .inr ⟨.inl k, c, e, ?_⟩
      have q := x.cell y c e
      rw [bindC_get ndP hp hu (by show scope.names.lookup y ≠ _; rw [k]; decide)] at q
      exact q
  · exact e0.hok.fresh (Nat.le_of_lt (x.above y c (PySem.mem_of_lookup h)))
  · unfold start
    show _ = N.length
    rw [List.length_append, List.length_map, List.length_replicate]
    omega

/-- THE RULE: a def (or a method) of the text, by its body. The body's reading t is chosen for each entry; it is run at the parameters' values -/
theorem fn_of {CX : CXT} {P : Program} {w : World} {K : PySem.W.Frag} {mg : Str → Option Value} {base : Heap} {k : Nat} {f : Addr} {name qual : Str} {params : Arguments} {body : List Stmt} {scope : Scope} {dV kV doc pm cdv ct oc : Value} {an od : Option Addr}
    {osl : Array (Option Value)} {N ps : List Str} {sp : Sp} (lk : K.lookup f = some ⟨oc, od, .func (PySem.W.fnOf name qual params body scope dV kV doc pm an cdv ct), osl⟩) (hcd : PySem.W.codeIn K cdv qual = true) (S : FnScope N ps scope)
    (len : ∀ vs H Q E, sp vs H Q E → vs.length = ps.length)
    (hbody : ∀ (A : Around) (outer : List Env) (s : Shared) (H : Hp) (vs : List V) (Q : VK) (E : XK), Room k (A.deeper (envOfC qual scope s.heap.objs.size f cdv)) → sp vs H Q E →
      ∃ t, PSs (cxOf CX P w K mg base N qual scope f cdv A outer s H E) body t ∧ t { nx := fun _ H' => Q .non H', rt := Q } (start N vs) H) :
    FnOk P w K mg base CX (k + 1) f (PySem.W.fnOf name qual params body scope dV kV doc pm an cdv ct) ps sp := by
  refine ⟨len, fun A outer s H args us vs Q E hr e0 hb r hsp => ?_⟩
  have hl := len _ _ _ _ hsp
  have KX : K.In s.heap := e0.mod.kin.keeps fun b o e => (e0.bs b o e).1
  have lim : s.heap.NoLimit := e0.mod.nolimit.keeps fun b o e => (e0.bs b o e).1
  have hkind : ∀ y ∈ ps.zip us, scope.names.lookup y.1 = some .local ∨ (scope.names.lookup y.1 = some .cell ∧ ((cellsFrom (s.heap.objs.size + 1) scope.names []).lookup y.1).isSome = true) := fun ⟨n, v⟩ hy => by
    rcases S.par n (List.of_mem_zip hy).1 with q | q
    · exact .inl q
    · exact .inr ⟨q, PySem.W.cellsFrom_some _ _ _ (.inl q)⟩
  refine codeAny_call_function hr.depth (KX _ _ lk) rfl S.co S.gen rfl (PySem.W.codeRec_of KX hcd) (hb _ _ _ _ ?_)
  refine wpAny_newFunctionEnv_cells S.kind hkind fun env he s1 x => ?_
  subst he
  refine ⟨lim.keeps x.toInCall.keep, codeAny_func ?_⟩
  obtain ⟨t, ht, hq⟩ := hbody A outer s H vs Q E (hr.deeper _) hsp
  have I : Inv (cxOf CX P w K mg base N qual scope f cdv A outer s H E) [] (start N vs) H s1 := inv_start S hr.hd e0 hl r x
  refine wpAny_mono (ht [] s1 (start N vs) H _ I hq) (fun fl s' hs => ?_) fun e s' hs => hs
  have fin : ∀ {σ' : St} {H' : Hp} {v : V} {u : Value}, Inv (cxOf CX P w K mg base N qual scope f cdv A outer s H E) [] σ' H' s' → RelV v u → Q v H' → CE outer P w H s Q u s' :=
    fun {σ' H' v u} J rv q => ⟨v, H', J.os, J.bare, J.base, J.hok, rv, q⟩
  cases fl with
  | ret u =>
    obtain ⟨v, σ', H', J, rv, q⟩ := hs
    exact fin J rv q
  | next =>
    obtain ⟨σ', H', J, q⟩ := hs
    exact fin (v := V.non) (u := Value.none) J rfl q
  | brk =>
    obtain ⟨_, _, _, q⟩ := hs
    exact False.elim q
  | cont =>
    obtain ⟨_, _, _, q⟩ := hs
    exact False.elim q
end L2

namespace L2
open PySem PySem.Spec PyProof.Rows
section
variable {X : Cx} {x : Str} {p pos : Pos} {e : Expr} {es : List Expr} {t : TA} {id T : String} {r : List V → Hp → VK → Prop}

def tCB (r : List V → Hp → VK → Prop) (t : TA) : TE := fun σ H Q => t σ H fun vs H1 => r vs H1 Q
/-- f(e, ..), f a built-in function -/
theorem pe_callB (hc : CallR X (.builtin id) r) (hg : Gl X x) (hm : X.mg x = none) (hv : bootBuiltins x = some (.builtin id)) (ha : PA X (e :: es) t) (hn : x ≠ "__name__" := by decide) (hdb : (x == ("__debug__" : Str)) = false := by decide)
    (he : starEach (e :: es) X.env = (false, eval e X.env) :: starEach es X.env := by rfl) (hpl : (backTo pos (starEach es X.env)).any (·.1) = false := by rfl) : PE X (.Call (.Name x p) (e :: es) [] pos) (tCB r t) := by
  intro pins s σ H Q I h
  refine wpAny_Call_Name_kw (ld_blt I hg hm hv ?_ hn hdb)
  exact PyProof.Rows.callWith_builtin1 (thn (ha pos pins s σ H _ I h) fun us s1 ⟨vs, H1, I1, r1, q1⟩ => hc pins s1 σ H1 vs us Q I1 r1 q1) he hpl
/-- T(e, ..), T a built-in type -/
theorem pe_callTy (hc : CallR X (.type T) r) (hg : Gl X x) (hm : X.mg x = none) (hv : bootBuiltins x = some (.type T)) (ha : PA X (e :: es) t) (hn : x ≠ "__name__" := by decide) (hdb : (x == ("__debug__" : Str)) = false := by decide)
    (he : starEach (e :: es) X.env = (false, eval e X.env) :: starEach es X.env := by rfl) (hpl : (backTo pos (starEach es X.env)).any (·.1) = false := by rfl) : PE X (.Call (.Name x p) (e :: es) [] pos) (tCB r t) := by
  intro pins s σ H Q I h
  refine wpAny_Call_Name_kw (ld_blt I hg hm hv ?_ hn hdb)
  exact PyProof.Rows.callWith_type1 (thn (ha pos pins s σ H _ I h) fun us s1 ⟨vs, H1, I1, r1, q1⟩ => hc pins s1 σ H1 vs us Q I1 r1 q1) he hpl
end
end L2

namespace HT
open PySem PyProof.Rows



section
open PySem.SeqAt
open PySem.AutoSeq1 (wpAny_loadPart')
open PySem.MeetsSeq PySem.MeetsSeq2 PySem.MeetsSeq3

end

section
variable {prog : Program} {w : World} {A : Around} {E : Value → Shared → Prop} {s : Shared}



/-! ### t[a:b], not the whole -/
/-- a slice's bound as a place among n (d where it is left out) -/
def sIx (n d : Nat) : Option Int → Nat
  | none => d
  | some v => if v < 0 then (v + (n : Int)).toNat else min v.toNat n

end
end HT

namespace L2
open PySem PySem.Spec PyProof.Rows

/-! ### the parts of a slice -/
abbrev TO := St → Hp → (Option Int → Hp → Prop) → Prop
/-- a slice's part (left out, or an int) -/
def PO (X : Cx) (e : Option Expr) (t : TO) : Prop :=
  ∀ (pins : List (Addr × Obj)) (s : Shared) (σ : St) (H : Hp) (Q : Option Int → Hp → Prop), Inv X pins σ H s → t σ H Q →
    wpAny (model X.prog X.w) X.A (evalPart e X.env) (fun u s' => ∃ o H', Inv X pins σ H' s' ∧ IsPart u o ∧ Q o H') X.xe s
def tNoPart : TO := fun _ H Q => Q none H
def tPart (t : TE) : TO := fun σ H Q => t σ H fun x H1 => ∃ i, x = .int i ∧ Q (some i) H1


section
variable {X : Cx} {e : Expr} {te : TE} {lo hi : Option Expr} {tl th : TO} {pos p2 : Pos}

theorem po_none : PO X none tNoPart := by
  intro pins s σ H Q I h
  rw [evalPart_none]
  exact wpAny_pure ⟨none, H, I, .none, h⟩
theorem po_some (h : PE X e te) : PO X (some e) (tPart te) := by
  intro pins s σ H Q I hw
  rw [evalPart_some]
  refine thn (h pins s σ H _ I hw) fun u s1 ⟨x, H1, I1, r1, q1⟩ => ?_
  obtain ⟨i, rfl, q⟩ := q1
  obtain ⟨t, rfl⟩ := r1
  exact ⟨some i, H1, I1, .int i t, q⟩

/-- what a slice of a value is, by values: the slice object stands at sl -/
def SlR (X : Cx) (r : V → Option Int → Option Int → Hp → VK → Prop) : Prop :=
  ∀ (pins : List (Addr × Obj)) (s : Shared) (σ : St) (H : Hp) (x : V) (v vl vu : Value) (lo hi : Option Int) (sl : Addr) (Q : VK), Inv X pins σ H s → RelV x v → s.heap.IsSliceOf sl vl vu .none → IsPart vl lo → IsPart vu hi → r x lo hi H Q →
    ∃ T id, typeLookup (.type T) "__getitem__" = pure (some (.builtin id)) ∧ s.TypeIs v T ∧ wpAny (model X.prog X.w) X.A (getItem v (.ref sl)) (EP X pins σ Q) X.xe s
def tSl (r : V → Option Int → Option Int → Hp → VK → Prop) (te : TE) (tl th : TO) : TE := fun σ H Q => te σ H fun x H1 => tl σ H1 fun l H2 => th σ H2 fun u H3 => r x l u H3 Q
/-- a[lo:hi], any a -/
theorem pe_slice {r : V → Option Int → Option Int → Hp → VK → Prop} (hr : SlR X r) (he : PE X e te) (hl : PO X lo tl) (hu : PO X hi th) : PE X (.Subscript e (.Slice lo hi none p2) pos) (tSl r te tl th) := by
  intro pins s σ H Q I h
  refine Subscript_ (thn (he pins s σ H _ I h) fun v s1 ⟨x, H1, I1, r1, q1⟩ => ?_)
  refine wpAny_Slice (thn (hl pins s1 σ H1 _ I1 q1) fun vl s2 ⟨l, H2, I2, pl, q2⟩ => thn (hu pins s2 σ H2 _ I2 q2) fun vu s3 ⟨u, H3, I3, pu, q3⟩ => ?_)
  rw [evalPart_none]
  refine wpAny_pure ?_
  have I4 : Inv X pins σ H3 { s3 with heap := s3.heap.push { cls := .type "slice", data := .fields #[vl, vu, .none] } } := I3.kept (t' := s3.toks) fun b ob q => Heap.get?_push_of_some _ q
  obtain ⟨T, id, hT, ht, hg⟩ := hr pins { s3 with heap := s3.heap.push { cls := .type "slice", data := .fields #[vl, vu, .none] } } σ H3 x v vl vu l u s3.heap.objs.size Q I4 r1 (Heap.IsSliceOf.new ..) pl pu q3
  show wpAny (model X.prog X.w) X.A (subscriptTail e (.Slice lo hi none p2) v (.ref s3.heap.objs.size)) (EP X pins σ Q) X.xe { s3 with heap := s3.heap.push { cls := .type "slice", data := .fields #[vl, vu, .none] } }
  exact tail_any (ops := [.ref s3.heap.objs.size, v]) ht hT hg (by with_unfolding_all rfl)

/-- the items of xs[lo:hi] -/
def cutV (xs : List V) (lo hi : Option Int) : List V := (xs.drop (HT.sIx xs.length 0 lo)).take (HT.sIx xs.length xs.length hi - HT.sIx xs.length 0 lo)
theorem cutV_length (xs : List V) (lo hi : Option Int) : (cutV xs lo hi).length ≤ xs.length := by
  unfold cutV
  rw [List.length_take, List.length_drop]
  omega

/-! ### t < u, t + u -/
end
end L2

namespace L2
open PySem PySem.Spec PyProof.Rows

/-! ### places -/
/-- the place that an index of any sign means -/
def ixN (n : Nat) (i : Int) : Option Nat := if 0 ≤ i then (if i < n then some i.toNat else none) else if -(n : Int) ≤ i then some (i + n).toNat else none
def atI {α : Type} (xs : List α) (i : Int) : Option α := (ixN xs.length i).bind fun j => xs[j]?
theorem ixN_seq {n : Nat} {i : Int} {j : Nat} (h : ixN n i = some j) : seqIndex? i n = some j ∧ j < n ∧ -(n : Int) ≤ i ∧ i < n := by
  unfold ixN at h
  by_cases h0 : 0 ≤ i
  · rw [if_pos h0] at h
    by_cases h1 : i < n
    · rw [if_pos h1] at h
      have e : i.toNat = j := Option.some.inj h
      exact ⟨by rw [seqIndex_of h0 h1, e], by omega, by omega, h1⟩
    · rw [if_neg h1] at h; cases h
  · rw [if_neg h0] at h
    by_cases h1 : -(n : Int) ≤ i
    · rw [if_pos h1] at h
      have e : (i + n).toNat = j := Option.some.inj h
      exact ⟨by rw [seqIndex_neg (by omega) h1, e], by omega, h1, by omega⟩
    · rw [if_neg h1] at h; cases h
theorem atI_get {α : Type} {xs : List α} {i : Int} {v : α} (h : atI xs i = some v) : ∃ j, seqIndex? i xs.length = some j ∧ xs[j]? = some v ∧ j < xs.length ∧ -(xs.length : Int) ≤ i ∧ i < xs.length := by
  unfold atI at h
  cases e : ixN xs.length i with
  | none => rw [e] at h; cases h
  | some j =>
    rw [e] at h
    obtain ⟨h1, h2, h3, h4⟩ := ixN_seq e
    exact ⟨j, h1, h, h2, h3, h4⟩
theorem atI_nat {α : Type} {xs : List α} {j : Nat} {v : α} (h : xs[j]? = some v) : atI xs (j : Int) = some v := by
  have hj : j < xs.length := (List.getElem?_eq_some_iff.mp h).1
  have e : ixN xs.length (j : Int) = some j := by
    unfold ixN
    rw [if_pos (by omega), if_pos (by omega)]; simp
  unfold atI; rw [e]; exact h

/-! ### what may be subscripted -/
/-- what stands as an index of a plain subscript -/
def PlainIx (b : Expr) : Prop := ∀ o i, subscripted b false o i = operate [o, i] (getItem o i)
/-- a subscript by values -/
def IxR (X : Cx) (r : R2) : Prop :=
  ∀ (value slice : Expr) (pins : List (Addr × Obj)) (s : Shared) (σ : St) (H : Hp) (x y : V) (v u : Value) (Q : VK), Inv X pins σ H s → RelV x v → RelV y u → r x y H Q →
    subscripted slice false v u = operate [v, u] (getItem v u) → wpAny (model X.prog X.w) X.A (subscriptTail value slice v u) (EP X pins σ Q) X.xe s
/-- a call of a builtin's method by values: the receiver, the arguments -/
def MtR (X : Cx) (id : String) (r : V → List V → Hp → VK → Prop) : Prop :=
  ∀ (pins : List (Addr × Obj)) (s : Shared) (σ : St) (H : Hp) (x : V) (xs : List V) (v : Value) (us : List Value) (Q : VK), Inv X pins σ H s → RelV x v → Vals xs us → r x xs H Q →
    wpAny (model X.prog X.w) X.A (call (.builtin id) (v :: us)) (EP X pins σ Q) X.xe s
section
variable {X : Cx} {a b : Expr} {ta tb : TE} {pos : Pos}
theorem IxR.or {r r' : R2} (h : IxR X r) (h' : IxR X r') : IxR X (fun x y H Q => r x y H Q ∨ r' x y H Q) := by
  intro value slice pins s σ H x y v u Q I rx ry q hs
  rcases q with q | q
  · exact h value slice pins s σ H x y v u Q I rx ry q hs
  · exact h' value slice pins s σ H x y v u Q I rx ry q hs
/-- a[b] -/
theorem pe_ix {r : R2} (hr : IxR X r) (ha : PE X a ta) (hb : PE X b tb) (hs : PlainIx b) : PE X (.Subscript a b pos) (tOp r ta tb) := by
  intro pins s σ H Q I h
  exact Subscript_ (binT ha hb I h fun v u s2 x y H2 I2 rx ry q => hr a b pins s2 σ H2 x y v u Q I2 rx ry q (hs _ _))

def rIxL (K : PySem.W.Frag) : R2 := fun x y H Q => ∃ p xs i v, x = .ref p ∧ y = .int i ∧ SqL K H p xs ∧ atI xs i = some v ∧ Q v H
def rIxT (K : PySem.W.Frag) : R2 := fun x y H Q => ∃ p xs i v, x = .ref p ∧ y = .int i ∧ SqT K H p xs ∧ atI xs i = some v ∧ Q v H
theorem ix_list : IxR X (rIxL X.K) := by
  intro value slice pins s σ H x y v u Q I rx ry h hs
  obtain ⟨p, xs, i, z, rfl, rfl, hq, he, q⟩ := h
  cases rx
  obtain ⟨t, rfl⟩ := ry
  obtain ⟨its, r, pl, hz⟩ := I.list hq
  obtain ⟨j, h1, h2, h3, h4, h5⟩ := atI_get he
  obtain ⟨w, ew, rw'⟩ := r.get h2
  have hl := r.length
  have hn := line63
  have fin : EP X pins σ Q w s := ⟨z, H, I, rw', q⟩
  by_cases h0 : 0 ≤ i
  · have hj : i.toNat = j := by
      rw [seqIndex_of h0 h5] at h1
      exact Option.some.inj h1
    exact item_listR pl.isList h0 (by omega) (by rw [hj]; simpa using ew) fin hs
  · have hj : (i + (its.toArray.size : Int)).toNat = j := by
      rw [seqIndex_neg (by omega) h4] at h1
      rw [List.size_toArray, ← hl]
      exact Option.some.inj h1
    exact subscriptTail_builtinR (x := w) pl.isList.typeIs slot_list_getitem.lookup
      (wpAny_getItem_list_neg (Q := fun r s' => r = w ∧ EP X pins σ Q r s') pl.isList (by omega) (by rw [List.size_toArray] <;> omega) (by omega) (by rw [hj]; simpa using ew) ⟨rfl, fin⟩) hs
theorem ix_tup : IxR X (rIxT X.K) := by
  intro value slice pins s σ H x y v u Q I rx ry h hs
  obtain ⟨p, xs, i, z, rfl, rfl, hq, he, q⟩ := h
  cases rx
  obtain ⟨t, rfl⟩ := ry
  obtain ⟨its, r, pl, hz⟩ := I.tuple hq
  obtain ⟨j, h1, h2, h3, h4, h5⟩ := atI_get he
  obtain ⟨w, ew, rw'⟩ := r.get h2
  have hl := r.length
  have hn := line63
  have fin : EP X pins σ Q w s := ⟨z, H, I, rw', q⟩
  exact subscriptTail_builtinR (x := w) pl.typeIs slot_tuple_getitem.lookup
    (getItem_tuple (j := j) (Q := fun r s' => r = w ∧ EP X pins σ Q r s') pl (by omega) (by omega) (by rw [List.size_toArray, ← hl]; exact h1) (by simpa using ew) ⟨rfl, fin⟩) hs

/-! ### xs[i] = v, any sign -/
/-- the list's object behind a store -/
theorem mapSeq_set (its : List Value) (n j : Nat) (u : Value) : Obj.mapSeq (·.setIfInBounds j u) { cls := .type "list", data := .seq its.toArray n } = { cls := .type "list", data := .seq (its.set j u).toArray n } := by
  simp [Obj.mapSeq]
theorem Inv.lst {pins : List (Addr × Obj)} {σ : St} {H : Hp} {s : Shared} {p : Addr} {xs : List V} (I : Inv X pins σ H s) (h : H p = some (.lst xs)) :
    ∃ (its : List Value) (n : Nat), Vals xs its ∧ s.heap.get? p = some { cls := .type "list", data := .seq its.toArray n } ∧ xs.length ≤ sizeLine := by
  obtain ⟨z, its, n, r, e⟩ := I.hok p _ h
  exact ⟨its, n, r, e, z⟩
/-- the list at p is written by an update of its object -/
theorem Inv.lstUpd {pins : List (Addr × Obj)} {σ : St} {H : Hp} {s : Shared} {p : Addr} {xs ys : List V} {its its' : List Value} {n n' : Nat} {f : Obj → Obj} (I : Inv X pins σ H s) (h : H p = some (.lst xs))
    (ho : s.heap.get? p = some { cls := .type "list", data := .seq its.toArray n }) (hf : f { cls := .type "list", data := .seq its.toArray n } = { cls := .type "list", data := .seq its'.toArray n' }) (r : Vals ys its') (hz : ys.length ≤ sizeLine) (t : Nat) :
    Inv X pins σ (upd H p (.lst ys)) { s with heap := s.heap.update p f, toks := t } := by
  have e : (s.heap.update p f).get? p = some { cls := .type "list", data := .seq its'.toArray n' } := by
    rw [Heap.get?_update_self f ho (by rw [hf] <;> rfl), hf]
  refine I.write (x := p) (e := p) (by rw [h]; trivial) (.inl rfl) (fun b u hb q => (Heap.get?_update_other _ _ (Ne.symm hb)).trans q) ⟨_, e⟩ ?_
  exact ⟨hz, its', n', r, e⟩
def rSetL : V → V → V → Hp → (Hp → Prop) → Prop := fun o i v H Q => ∃ p xs k j, o = .ref p ∧ i = .int k ∧ H p = some (.lst xs) ∧ ixN xs.length k = some j ∧ Q (upd H p (.lst (xs.set j v)))
theorem set_list : PSet X rSetL := by
  intro pins s σ H o i v ov iv u Q I ro ri rv h
  obtain ⟨p, xs, k, j, rfl, rfl, hp, hj, q⟩ := h
  cases ro
  obtain ⟨t, rfl⟩ := ri
  obtain ⟨its, n, r, ho, hz⟩ := I.lst hp
  obtain ⟨h1, h2, h3, h4⟩ := ixN_seq hj
  have hl := r.length
  have hn := line63
  have I' : Inv X pins σ (upd H p (.lst (xs.set j v))) { s with heap := s.heap.update p (Obj.mapSeq (·.setIfInBounds j u)) } :=
    I.lstUpd hp ho (mapSeq_set its n j u) (r.set rv j) (by rw [List.length_set]; exact hz) s.toks
  by_cases h0 : 0 ≤ k
  · have hk : k.toNat = j := by
      rw [seqIndex_of h0 h4] at h1
      exact Option.some.inj h1
    exact PySem.W.ki_setAt ho h0 (by omega) (by rw [List.size_toArray, ← hl]; exact h4) (by rw [hk]; exact ⟨_, I', q⟩)
  · have hk : (k + (its.toArray.size : Int)).toNat = j := by
      rw [seqIndex_neg (by omega) h3] at h1
      rw [List.size_toArray, ← hl]
      exact Option.some.inj h1
    exact PySem.W.ki_setBack ho (by omega) (by rw [List.size_toArray, ← hl]; exact h3) (by omega) (by rw [hk]; exact ⟨_, I', q⟩)

/-! ### slices -/
theorem slice_bounds (lo hi : Option Int) (n : Nat) : (sliceBounds lo hi none n).1 = ((HT.sIx n 0 lo : Nat) : Int) ∧ (sliceBounds lo hi none n).2.1 = ((HT.sIx n n hi : Nat) : Int) ∧ (sliceBounds lo hi none n).2.2 = 1 := by
  refine ⟨?_, ?_, rfl⟩
  · cases lo with
    | none => simp [sliceBounds, HT.sIx]
    | some i =>
      simp only [sliceBounds, HT.sIx, Option.getD_none, show (1 : Int) > 0 by decide, if_true]
      by_cases h : i < 0
      · simp only [h, if_true] <;> omega
      · simp only [h, if_false] <;> omega
  · cases hi with
    | none => simp [sliceBounds, HT.sIx]
    | some i =>
      simp only [sliceBounds, HT.sIx, Option.getD_none, show (1 : Int) > 0 by decide, if_true]
      by_cases h : i < 0
      · simp only [h, if_true] <;> omega
      · simp only [h, if_false] <;> omega
theorem slicePick_cut (its : List Value) (lo hi : Option Int) : slicePick its.toArray lo hi none = ((its.drop (HT.sIx its.length 0 lo)).take (HT.sIx its.length its.length hi - HT.sIx its.length 0 lo)).toArray := by
  obtain ⟨h1, h2, h3⟩ := slice_bounds lo hi its.toArray.size
  unfold slicePick
  rw [h1, h2, h3]
  simp only [sliceRange_one, pick_run, List.size_toArray] <;> rfl
/-- xs[lo:hi] of a list: a new list -/
def rSlL (K : PySem.W.Frag) : V → Option Int → Option Int → Hp → VK → Prop := fun x lo hi H Q => ∃ a xs, x = .ref a ∧ SqL K H a xs ∧ ∀ p, H p = none → Q (.ref p) (upd H p (.lst (cutV xs lo hi)))
theorem sl_list : SlR X (rSlL X.K) := by
  intro pins s σ H x v vl vu lo hi sl Q I rx hs pl pu h
  obtain ⟨a, xs, rfl, hx, q⟩ := h
  cases rx
  obtain ⟨its, r, ht, hz⟩ := I.list hx
  have hlen := r.length
  refine ⟨"list", _, slot_list_getitem.lookup, ht.isList.typeIs, ?_⟩
  refine wpAny_getItem_list_slice ht.isList hs pl pu .none (by simp) ?_ (by rw [List.size_toArray] <;> omega)
  rw [slicePick_cut, ← hlen]
  refine ⟨.ref s.heap.objs.size, _, I.laid (t' := s.toks) (o := .lst (cutV xs lo hi)) (fun b ob q => Heap.get?_push_of_some _ q) (Nat.le_refl _) ?_, rfl, q _ (I.hok.fresh (Nat.le_refl _))⟩
  exact ⟨Nat.le_trans (cutV_length xs lo hi) hz, _, 0, (r.drop (HT.sIx xs.length 0 lo)).take (HT.sIx xs.length xs.length hi - HT.sIx xs.length 0 lo), Heap.get?_push_size _ rfl⟩

/-! ### in, not in: flat items -/
def flatV : V → Bool
  | .non => true
  | .bl _ => true
  | .int _ => true
  | .str _ => true
  | _ => false
/-- == of flat values -/
def eqV : V → V → Bool
  | .non, .non => true
  | .bl a, .bl b => a == b
  | .bl a, .int b => (if a then 1 else 0) == b
  | .int a, .bl b => a == (if b then 1 else 0)
  | .int a, .int b => a == b
  | .str a, .str b => a == b
  | _, _ => false
theorem eqAt_V {A : Around} {s : Shared} {y x : V} {u v : Value} (ry : RelV y u) (rx : RelV x v) (fy : flatV y = true) (fx : flatV x = true) : SeqAt.EqAt A s u v (eqV y x) := by
  cases y with
  | non =>
    cases ry
    cases x with
    | non => cases rx; exact SeqAt.EqAt.same _
    | bl b => cases rx; exact SeqAt.EqAt.none_bool b
    | int b => obtain ⟨t, rfl⟩ := rx; exact SeqAt.EqAt.none_int b t
    | str b => obtain ⟨t, rfl⟩ := rx; exact SeqAt.EqAt.none_str b t
    | _ => exact absurd (show false = true from fx) Bool.false_ne_true
  | bl a =>
    cases ry
    cases x with
    | non => cases rx; exact SeqAt.EqAt.bool_none a
    | bl b => cases rx; exact SeqAt.EqAt.bool_bool a b
    | int b => obtain ⟨t, rfl⟩ := rx; exact SeqAt.EqAt.bool_int a b t
    | str b => obtain ⟨t, rfl⟩ := rx; exact SeqAt.EqAt.bool_str a b t
    | _ => exact absurd (show false = true from fx) Bool.false_ne_true
  | int a =>
    obtain ⟨t', rfl⟩ := ry
    cases x with
    | non => cases rx; exact SeqAt.EqAt.int_none a t'
    | bl b => cases rx; exact SeqAt.EqAt.int_bool a t' b
    | int b => obtain ⟨t, rfl⟩ := rx; exact SeqAt.EqAt.int_int a t' b t
    | str b => obtain ⟨t, rfl⟩ := rx; exact SeqAt.EqAt.int_str a t' b t
    | _ => exact absurd (show false = true from fx) Bool.false_ne_true
  | str a =>
    obtain ⟨t', rfl⟩ := ry
    cases x with
    | non => cases rx; exact SeqAt.EqAt.str_none a t'
    | bl b => cases rx; exact SeqAt.EqAt.str_bool a t' b
    | int b => obtain ⟨t, rfl⟩ := rx; exact SeqAt.EqAt.str_int a t' b t
    | str b => obtain ⟨t, rfl⟩ := rx; exact SeqAt.EqAt.str_str a t' b t
    | _ => exact absurd (show false = true from fx) Bool.false_ne_true
  | _ => exact absurd (show false = true from fy) Bool.false_ne_true
/-- the items' answers, read off the values (a value's own answer does not lean on its token) -/
def eqU (x : V) (u : Value) : Bool := match u with
  | .none => eqV .non x
  | .bool b => eqV (.bl b) x
  | .int i _ => eqV (.int i) x
  | .str z _ => eqV (.str z) x
  | _ => false
theorem eqU_of {x y : V} {u : Value} (r : RelV y u) (f : flatV y = true) : eqU x u = eqV y x := by
  cases y with
  | non => cases r; rfl
  | bl b => cases r; rfl
  | int i => obtain ⟨t, rfl⟩ := r; rfl
  | str z => obtain ⟨t, rfl⟩ := r; rfl
  | _ => exact absurd (show false = true from f) Bool.false_ne_true
theorem any_eqU {x : V} : ∀ {xs : List V} {us : List Value}, Vals xs us → xs.all flatV = true → us.any (eqU x) = xs.any fun y => eqV y x
  | _, _, .nil, _ => rfl
  | y :: xs, u :: us, .cons r t, f => by
    rw [List.all_cons, Bool.and_eq_true] at f
    rw [List.any_cons, List.any_cons, eqU_of r f.1, any_eqU t f.2]
theorem mem_eqAt {A : Around} {s : Shared} {x : V} {v : Value} (rx : RelV x v) (fx : flatV x = true) : ∀ {xs : List V} {us : List Value}, Vals xs us → xs.all flatV = true → ∀ u ∈ us, SeqAt.EqAt A s u v (eqU x u)
  | _, _, .nil, _ => fun u hu => by cases hu
  | y :: xs, u :: us, .cons r t, f => fun u' hu => by
    rw [List.all_cons, Bool.and_eq_true] at f
    rcases List.mem_cons.mp hu with rfl | hu
    · rw [eqU_of r f.1]; exact eqAt_V r rx f.1 fx
    · exact mem_eqAt rx fx t f.2 u' hu
def inV (x : V) (xs : List V) : Bool := xs.any fun y => eqV y x
/-- x in a list or tuple of flat items -/
def rIn (K : PySem.W.Frag) (neg : Bool) : R2 := fun x y H Q => ∃ p xs, y = .ref p ∧ (SqL K H p xs ∨ SqT K H p xs) ∧ flatV x = true ∧ xs.all flatV = true ∧ Q (.bl (if neg then !inV x xs else inV x xs)) H
theorem op_in_seq : OpR X (compareOp .In) (rIn X.K false) := by
  intro pins s σ H x y v u Q I rx ry h
  obtain ⟨p, xs, rfl, hq, fx, fs, q⟩ := h
  cases ry
  rcases hq with hq | hq
  · obtain ⟨its, r, pl, hz⟩ := I.list hq
    refine SeqAt.in_listAt (eqU x) pl.isList (fun w hw => mem_eqAt rx fx r fs w (by simpa using hw)) ⟨.bl _, H, I, rfl, ?_⟩
    rw [show its.toArray.any (eqU x) = its.any (eqU x) by simp, any_eqU r fs]
    exact q
  · obtain ⟨its, r, pl, hz⟩ := I.tuple hq
    refine SeqAt.in_tupleAt (eqU x) pl (fun w hw => mem_eqAt rx fx r fs w (by simpa using hw)) ⟨.bl _, H, I, rfl, ?_⟩
    rw [show its.toArray.any (eqU x) = its.any (eqU x) by simp, any_eqU r fs]
    exact q

/-! ### len, list(x), tuple(x) of any list or tuple that is read -/
theorem call_len_seq : CallR X (.builtin "len") (fun xs H Q => ∃ p ys, xs = [.ref p] ∧ (SqL X.K H p ys ∨ SqT X.K H p ys) ∧ Q (.int ys.length) H) := by
  intro pins s σ H xs us Q I r h
  obtain ⟨p, ys, rfl, hq, q⟩ := h
  obtain ⟨u, rfl, rx⟩ := vals1 r
  cases rx
  have hn := line63
  rcases hq with hq | hq
  · obtain ⟨its, r', pl, hz⟩ := I.list hq
    have hlen := r'.length
    exact Calls.call_len_list pl.isList (by simp only [List.size_toArray] <;> omega) ⟨.int ys.length, H, I.tok _, ⟨s.toks + 1, by rw [List.size_toArray, hlen]⟩, q⟩
  · obtain ⟨its, r', pl, hz⟩ := I.tuple hq
    have hlen := r'.length
    exact len_tuple pl (by simp only [List.size_toArray] <;> omega) ⟨.int ys.length, H, I.tok _, ⟨s.toks + 1, by rw [List.size_toArray, hlen]⟩, q⟩

/-! ### the call of a builtin's method: o.m(..) -/
/-- the value is of that builtin type -/
def tyV (K : PySem.W.Frag) (T : String) (x : V) (H : Hp) : Prop := match x with
  | .str _ => T = "str"
  | .int _ => T = "int"
  | .ref p => (T = "list" ∧ ∃ xs, SqL K H p xs) ∨ (T = "tuple" ∧ ∃ o, K.lookup p = some o ∧ o.cls = .type "tuple" ∧ o.dict = none) ∨
      (T = "dict" ∧ ((∃ kvs, H p = some (.dK kvs)) ∨ ∃ kvs, H p = some (.dT kvs))) ∨ (T = "set" ∧ ∃ S n, H p = some (.set S n))
  | _ => False
theorem tyV_is {pins : List (Addr × Obj)} {σ : St} {H : Hp} {s : Shared} {T : String} {x : V} {v : Value} (I : Inv X pins σ H s) (r : RelV x v) (ty : tyV X.K T x H) :
    s.TypeIs v T ∧ ∀ a, v = .ref a → ∃ ob, s.heap.get? a = some ob ∧ ob.dict = none := by
  cases x with
  | str z =>
    obtain ⟨t, rfl⟩ := r
    cases (show T = "str" from ty)
    exact ⟨typeIs_str s z t, fun _ e => nomatch e⟩
  | int i =>
    obtain ⟨t, rfl⟩ := r
    cases (show T = "int" from ty)
    exact ⟨typeIs_int s i t, fun _ e => nomatch e⟩
  | ref p =>
    cases r
    rcases ty with ⟨rfl, xs, hq⟩ | ⟨rfl, o, hk, hc, hd⟩ | ⟨rfl, hk⟩ | ⟨rfl, S, n, hk⟩
    · obtain ⟨its, _, pl, _⟩ := I.list hq
      refine ⟨pl.isList.typeIs, fun a e => ?_⟩
      cases e
      obtain ⟨o, n, e, c, hd, _⟩ := pl
      exact ⟨o, e, hd⟩
    · refine ⟨⟨o, I.kIn p o hk, hc⟩, fun a e => ?_⟩
      cases e
      exact ⟨o, I.kIn _ o hk, hd⟩
    · have z : ∃ o, s.heap.get? p = some o ∧ o.ExactDict := by
        rcases hk with ⟨kvs, hk⟩ | ⟨kvs, hk⟩
        · obtain ⟨_, _, _, _, o, _, _, e, ex, _⟩ := I.hok p _ hk
          exact ⟨o, e, ex⟩
        · obtain ⟨_, _, _, _, o, _, _, e, ex, _⟩ := I.hok p _ hk
          exact ⟨o, e, ex⟩
      obtain ⟨o, e, ex⟩ := z
      refine ⟨⟨o, e, ex.1⟩, fun a e2 => ?_⟩
      cases e2
      exact ⟨o, e, ex.2.1⟩
    · obtain ⟨o, _, _, _, e, ex, _⟩ := I.hok p _ hk
      refine ⟨⟨o, e, ex.1⟩, fun a e2 => ?_⟩
      cases e2
      exact ⟨o, e, ex.2.1⟩
  | _ => exact False.elim ty
def tBM (K : PySem.W.Frag) (T : String) (r : V → List V → Hp → VK → Prop) (to : TE) (t : TA) : TE := fun σ H Q => to σ H fun x H1 => tyV K T x H1 ∧ t σ H1 fun xs H2 => r x xs H2 Q
variable {o e : Expr} {es : List Expr} {to : TE} {t : TA} {name : Str} {apos cpos : Pos} {T id : String} {r : V → List V → Hp → VK → Prop}
theorem pe_bm (pa : PlainAttrs T) (slot : Slot T name id) (hty : typeOf (.builtin id) = pure (.type "method_descriptor")) (hm : MtR X id r) (ho : PE X o to) (ha : PA X (e :: es) t)
    (hbase : attributeBase o name X.env (eval o X.env) = eval o X.env := by rfl)
    (hfew : ((backTo cpos (starEach (e :: es) X.env)).all (fun x => !x.1) && (backToKw cpos (keywordEach [] X.env)).all (fun x => x.1.isSome)
      && decide ((e :: es).length + ([] : List Keyword).length + (if ([] : List Keyword).isEmpty then 0 else 1) < 30)) = true := by rfl)
    (hline : (apos.endLine == cpos.line) = true := by rfl) (hs : starEach (e :: es) X.env = (false, eval e X.env) :: starEach es X.env := by rfl) (hplain : (backTo cpos (starEach es X.env)).any (·.1) = false := by rfl) :
    PE X (.Call (.Attribute o name apos) (e :: es) [] cpos) (tBM X.K T r to t) := by
  intro pins s σ H Q I h
  refine wpAny_Call_method_late hbase hfew hline rfl (thn (ho pins s σ H _ I h) fun v s1 ⟨x, H1, I1, r1, ty, q1⟩ => ?_)
  obtain ⟨h1, h2⟩ := tyV_is I1 r1 ty
  refine ⟨T, id, pa, slot, hty, h1, h2, ?_⟩
  have hA := ha cpos pins s1 σ H1 _ I1 q1
  rw [hs] at hA ⊢
  refine Calls.callWith_builtin (by show (false || (backTo cpos (starEach es X.env)).any (·.1)) = false; rw [hplain] <;> rfl) (Calls.evalArgs_plain ?_)
  exact thn hA fun us s2 ⟨vs, H2, I2, r2, q2⟩ => hm pins s2 σ H2 x vs v us Q I2 r1 r2 q2
/- xs.append(e), list.index on a module's tuple .. are MtR facts of 06m -/
end
end L2

namespace L2
open PySem PySem.Spec PyProof.Rows

def MtM (X : Cx) (id : String) (r : V → List V → Hp → VK → Prop) : Prop :=
  ∀ (pins : List (Addr × Obj)) (s : Shared) (σ : St) (H : Hp) (x : V) (xs : List V) (v : Value) (us : List Value) (Q : VK), Inv X pins σ H s → RelV x v → Vals xs us → r x xs H Q →
    wpAny (model X.prog X.w) X.A (call (.builtin id) (v :: us)) (EP X pins σ Q) X.xe s

/-! ### lists of values -/
theorem Vals.one : ∀ {x : V} {us : List Value}, Vals [x] us → ∃ u, us = [u] ∧ RelV x u
  | _, _, .cons r .nil => ⟨_, rfl, r⟩
theorem Vals.rep {xs : List V} {us : List Value} (h : Vals xs us) : ∀ k : Nat, Vals (List.replicate k xs).flatten (List.replicate k us).flatten
  | 0 => .nil
  | k + 1 => by
    rw [List.replicate_succ, List.replicate_succ, List.flatten_cons, List.flatten_cons]
    exact Vals.append h (Vals.rep h k)
theorem foldl_rep (its : List Value) : ∀ (k : Nat) (acc : List Value),
    List.foldl (fun x1 x2 => x1 ++ x2) acc.toArray (List.replicate k its.toArray) = (acc ++ (List.replicate k its).flatten).toArray
  | 0, acc => by simp
  | k + 1, acc => by
    have e : acc.toArray ++ its.toArray = (acc ++ its).toArray := by simp
    have e2 : (acc ++ its) ++ (List.replicate k its).flatten = acc ++ (List.replicate (k + 1) its).flatten := by
      rw [List.replicate_succ, List.flatten_cons, List.append_assoc]
    rw [← e2, ← foldl_rep its k (acc ++ its), ← e, List.replicate_succ, List.foldl_cons]

section
variable {X : Cx} {pins : List (Addr × Obj)} {σ : St} {H : Hp} {s : Shared} {l b : Addr} {xs ys zs : List V}

/-! ### the two steps: a tracked list is rewritten, a new list is laid -/
theorem Inv.lset {its its' : List Value} {n : Nat} {f : Array Value → Array Value} {t' : Nat} (I : Inv X pins σ H s) (hH : H l = some (.lst xs))
    (e : s.heap.get? l = some { cls := .type "list", data := .seq its.toArray n }) (hf : f its.toArray = its'.toArray) (hv : Vals ys its') (hz : ys.length ≤ sizeLine) :
    Inv X pins σ (upd H l (.lst ys)) { s with heap := s.heap.update l (Obj.mapSeq f), toks := t' } := by
  have q := PySem.IsL.update e f
  rw [hf] at q
  refine I.write (x := l) (e := l) (by rw [hH]; exact trivial) (.inl rfl) (fun b' u hb hu => (Heap.get?_update_other s.heap (Obj.mapSeq f) (Ne.symm hb)).trans hu) ⟨_, q⟩ ?_
  exact ⟨hz, its', _, hv, q⟩
theorem Inv.lnew {its : List Value} {t' : Nat} (I : Inv X pins σ H s) (hv : Vals ys its) (hz : ys.length ≤ sizeLine) :
    Inv X pins σ (upd H s.heap.objs.size (.lst ys)) { s with heap := s.heap.push { cls := .type "list", data := .seq its.toArray }, toks := t' } :=
  I.laid (fun _ _ q => Heap.get?_push_of_some _ q) (Nat.le_refl _) ⟨hz, its, 0, hv, Heap.get?_push_size _ rfl⟩
theorem Inv.fresh (I : Inv X pins σ H s) : H s.heap.objs.size = none := I.hok.fresh (Nat.le_refl _)
theorem Inv.lstM (I : Inv X pins σ H s) (hH : H l = some (.lst xs)) : xs.length ≤ sizeLine ∧ ∃ (its : List Value) (n : Nat), Vals xs its ∧ xs.length = its.length ∧ s.heap.get? l = some { cls := .type "list", data := .seq its.toArray n } := by
  obtain ⟨z, its, n, r, e⟩ := I.hok l _ hH
  exact ⟨z, its, n, r, r.length, e⟩

theorem notLongL {n : Nat} (h : n ≤ sizeLine) : Builtin.List.listTooLong n = false := by
  unfold Builtin.List.listTooLong
  exact decide_eq_false (by omega)
end

section
variable {X : Cx}

/-! ### methods -/
def rAppend : V → List V → Hp → VK → Prop := fun x vs H Q => ∃ l xs y, x = .ref l ∧ vs = [y] ∧ H l = some (.lst xs) ∧ xs.length < sizeLine ∧ Q .non (upd H l (.lst (xs ++ [y])))
theorem mt_append : MtM X "list.append" rAppend := by
  intro pins s σ H x vs v us Q I rx rv h
  obtain ⟨l, xs, y, rfl, rfl, hH, hz, q⟩ := h
  cases rx
  obtain ⟨u, rfl, ru⟩ := rv.one
  obtain ⟨z, its, n, r, hl, e⟩ := I.lstM hH
  refine call_meets F.slot_list_append ⟨_, e, rfl⟩ F.entry_list_append (F.args_list_append_2 _ _) (PySem.list_append l its.toArray n u (by rw [List.size_toArray]; omega)) ⟨e, ?_⟩
  refine ⟨.non, _, I.lset (its' := its ++ [u]) hH e (by simp) (r.append (.cons ru .nil)) ?_, rfl, q⟩
  rw [List.length_append, List.length_singleton]
  omega

def rExtend : V → List V → Hp → VK → Prop := fun x vs H Q => ∃ l b xs zs, x = .ref l ∧ vs = [.ref b] ∧ H l = some (.lst xs) ∧ H b = some (.lst zs) ∧ xs.length + zs.length ≤ sizeLine ∧ Q .non (upd H l (.lst (xs ++ zs)))
theorem mt_extend : MtM X "list.extend" rExtend := by
  intro pins s σ H x vs v us Q I rx rv h
  obtain ⟨l, b, xs, zs, rfl, rfl, hH, hB, hz, q⟩ := h
  cases rx
  obtain ⟨u, rfl, ru⟩ := rv.one
  cases ru
  obtain ⟨z, its, n, r, hl, e⟩ := I.lstM hH
  obtain ⟨z2, its2, n2, r2, hl2, e2⟩ := I.lstM hB
  have hsz : its.toArray.size + its2.toArray.size ≤ sizeLine := by rw [List.size_toArray, List.size_toArray]; omega
  have hlong : ¬ (!its.toArray.isEmpty && Builtin.List.listTooLong (its.toArray.size + its2.toArray.size)) = true := by
    rw [notLongL hsz, Bool.and_false]
    exact Bool.false_ne_true
  refine call_meets F.slot_list_extend ⟨_, e, rfl⟩ F.entry_list_extend (F.args_list_extend_2 _ _)
    (AutoSeq1.list_extend_list_list_0 l its.toArray n b its2.toArray n2 hlong (by rw [List.size_toArray]; omega) (by omega)) ⟨e, e2, ?_⟩
  refine ⟨.non, _, I.lset (its' := its ++ its2) hH e (by simp) (r.append r2) ?_, rfl, q⟩
  rw [List.length_append]
  omega





/-! ### list + list, list += list, list * int -/
def rCat : R2 := fun x y H Q => ∃ l b xs zs, x = .ref l ∧ y = .ref b ∧ H l = some (.lst xs) ∧ H b = some (.lst zs) ∧ xs.length + zs.length ≤ sizeLine ∧ ∀ p, H p = none → Q (.ref p) (upd H p (.lst (xs ++ zs)))
theorem op_cat : OpR X (binaryOp .Add) rCat := by
  intro pins s σ H x y v u Q I rx ry h
  obtain ⟨l, b, xs, zs, rfl, rfl, hH, hB, hz, q⟩ := h
  cases rx
  cases ry
  obtain ⟨z, its, n, r, hl, e⟩ := I.lstM hH
  obtain ⟨z2, its2, n2, r2, hl2, e2⟩ := I.lstM hB
  refine PySem.P.add_list e e2 ?_ (by rw [List.size_toArray, List.size_toArray]; omega)
  have ea : its.toArray ++ its2.toArray = (its ++ its2).toArray := by simp
  rw [ea]
  exact ⟨.ref _, _, I.lnew (t' := s.toks) (r.append r2) (by rw [List.length_append]; omega), rfl, q _ I.fresh⟩
/-- a list times an int (a negative one is nothing) -/
def rRep : R2 := fun x y H Q => ∃ l k xs, x = .ref l ∧ y = .int k ∧ H l = some (.lst xs) ∧ -(2 ^ 63) ≤ k ∧ k < 2 ^ 63 ∧ xs.length * k.toNat ≤ sizeLine ∧
  ∀ p, H p = none → Q (.ref p) (upd H p (.lst (List.replicate k.toNat xs).flatten))
theorem len_rep {α : Type} (xs : List α) (k : Nat) : (List.replicate k xs).flatten.length = k * xs.length := by
  induction k with
  | zero => simp
  | succ k ih => rw [List.replicate_succ, List.flatten_cons, List.length_append, ih, Nat.succ_mul, Nat.add_comm]
theorem op_rep : OpR X (binaryOp .Mult) rRep := by
  intro pins s σ H x y v u Q I rx ry h
  obtain ⟨l, k, xs, rfl, rfl, hH, h1, h2, hz, q⟩ := h
  cases rx
  obtain ⟨t, rfl⟩ := ry
  obtain ⟨z, its, n, r, hl, e⟩ := I.lstM hH
  have hlen : its.toArray.size * k.toNat ≤ sizeLine := by rw [List.size_toArray, ← hl]; exact hz
  have hcap : ¬ its.toArray.size * k.toNat > (2 ^ 63 - 1) / 8 := by
    have : (sizeLine : Nat) ≤ (2 ^ 63 - 1) / 8 := by decide
    omega
  have hfit : ¬ (!Builtin.List.listFitsIndex k) = true := by
    rw [fitsIndex_both h1 h2]
    exact Bool.false_ne_true
  have hlong : ¬ Builtin.List.listTooLong (its.toArray.size * k.toNat) = true := by
    rw [notLongL hlen]
    exact Bool.false_ne_true
  have hnew : List.foldl (fun x1 x2 => x1 ++ x2) #[] (List.replicate (if its.toArray.isEmpty = true then 0 else k.toNat) its.toArray) = (List.replicate k.toNat its).flatten.toArray := by
    have f0 : ∀ m : Nat, List.foldl (fun x1 x2 => x1 ++ x2) #[] (List.replicate m its.toArray) = (List.replicate m its).flatten.toArray := fun m => by
      have := foldl_rep its m []
      rw [List.nil_append] at this
      exact this
    rw [f0]
    cases its with
    | nil => simp
    | cons a r' => rw [if_neg (by simp)]
  refine wpAny_binaryOp_repeat_ref (T := "list") (U := "int") (by decide) ⟨_, e, rfl⟩ (fun s' => typeIs_int s' k t) noFill_list_mul F.fills_int_mul F.slot_int_rmul repeat_list F.slot_int_index.lookup
    (call_meets F.slot_int_rmul (typeIs_int s k t) F.entry_int_rmul (F.args_int_rmul_2 _ _) (int___rmul___int_list k t l its.toArray n)
      ⟨e, rfl, ⟨_, e, rfl⟩, call_meets F.slot_list_mul ⟨_, e, rfl⟩ F.entry_list_mul (F.args_list_mul_2 _ _) (AutoListH.list___mul___list_int_3 l its.toArray n k t hfit hcap hlong) ⟨e, ?_⟩⟩)
  rw [hnew]
  exact ⟨.ref _, _, I.lnew (t' := s.toks) (r.rep k.toNat) (by rw [len_rep, Nat.mul_comm]; exact hz), rfl, q _ I.fresh⟩

/-! ### del xs[i] -/
end

/-! ### xs[a:b] = ys -/
section
variable {prog : Program} {w : World} {A : Around} {E : Value → Shared → Prop} {s : Shared}
set_option maxRecDepth 100000 in
end

section
variable {X : Cx}
end
end L2

namespace L2
open PySem PySem.Spec PyProof.Rows

theorem Vals.ints : ∀ {ns : List Int} {us : List Value}, Vals (ns.map V.int) us → IntsAre us ns
  | [], us, h => by
    rw [List.map_nil] at h
    cases h
    exact IntsAre.nil
  | n :: ns, us, h => by
    rw [List.map_cons] at h
    cases h with
    | cons r t =>
      obtain ⟨k, rfl⟩ := r
      exact IntsAre.cons n k (Vals.ints t)
theorem Vals.bls : ∀ {bs : List Bool} {us : List Value}, Vals (bs.map V.bl) us → us = bs.map Value.bool
  | [], us, h => by
    rw [List.map_nil] at h
    cases h
    rfl
  | b :: bs, us, h => by
    rw [List.map_cons] at h
    cases h with
    | cons r t =>
      cases r
      rw [Vals.bls t, List.map_cons]
theorem Vals.ref1 {a : Addr} {us : List Value} (r : Vals [V.ref a] us) : us = [Value.ref a] := by
  cases r with
  | cons r t =>
    cases t
    cases r
    rfl

/-! ### the library's walks over a list of ints, kept objects alone -/
section
variable {prog : Program} {w : World} {A : Around} {E : Value → Shared → Prop} {s : Shared} {l : Addr} {its : List Value} {ns : List Int} {Q : Value → Shared → Prop}
end

/-! ### the calls, by values (CallR of 03t; MtR of 06l) -/
section
variable {X : Cx}

/-! sorted, sort (fewer than 64 items: the library's own bound) -/
end

/-! ### list.index, flat items -/
section
variable {X : Cx}
end

/-! ### type(x) of an own instance; is, is not of a module's class -/
section
variable {X : Cx}
end

/-! ### any(xs), all(xs) of a list of bools -/
theorem iter_any {prog : Program} {w : World} {A : Around} {E : Value → Shared → Prop} {s : Shared} {l : Addr} {items : Array Value} {Q : Value → Shared → Prop} (hl : s.heap.IsList l items)
    (h : ∀ s₂ : Shared, s₂ = { s with heap := s.heap.push { cls := .type "list_iterator", data := .fields #[.ref l, .int 0 0] } } →
      (s₂.heap.IsListIter s.heap.objs.size l 0 ∧ s₂.heap.IsList l items) → l ≠ s.heap.objs.size → Q (.ref s.heap.objs.size) s₂) : wpAny (model prog w) A (pyIter (.ref l)) Q E s := by
  have hlt : l < s.heap.objs.size := by obtain ⟨_, e, _⟩ := hl; exact Heap.lt_size e
  exact wpAny_pyIter_list hl (h _ rfl ⟨⟨_, Heap.get?_push_size _ rfl, rfl, rfl⟩, hl.push _⟩ (Nat.ne_of_lt hlt))
theorem truth_bools {prog : Program} {w : World} {A : Around} {bs : List Bool} {its : List Value} (e : its = bs.map Value.bool) :
    TruthOf prog w A (fun i v => its.toArray[i]? = some v) (fun i => bs.getD i false) := fun i v s Q E hv hq => by
  have hv' : its[i]? = some v := by simpa using hv
  rw [e, List.getElem?_map] at hv'
  obtain ⟨b, hb, rfl⟩ := Option.map_eq_some_iff.mp hv'
  have hg : bs.getD i false = b := by rw [List.getD_eq_getElem?_getD, hb] <;> rfl
  have hq' : Q (bs.getD i false) s := hq
  rw [hg] at hq'
  exact wpAny_truthy_bool hq'
theorem any_range : ∀ bs : List Bool, (List.range bs.length).any (fun i => bs.getD i false) = bs.any id
  | [] => rfl
  | b :: bs => by
    rw [List.length_cons, List.range_succ_eq_map, List.any_cons, List.any_map, List.any_cons, ← any_range bs]
    all_goals rfl
theorem all_range : ∀ bs : List Bool, (List.range bs.length).all (fun i => bs.getD i false) = bs.all id
  | [] => rfl
  | b :: bs => by
    rw [List.length_cons, List.range_succ_eq_map, List.all_cons, List.all_map, List.all_cons, ← all_range bs]
    all_goals rfl
section
variable {X : Cx}
def rAll (K : PySem.W.Frag) : List V → Hp → VK → Prop := fun vs H Q => ∃ (a : Addr) (bs : List Bool), vs = [V.ref a] ∧ SqL K H a (bs.map V.bl) ∧ Q (.bl (bs.all id)) H
theorem cr_all (hc : X.calm = true) : CallR X (.builtin "all") (rAll X.K) := by
  intro pins s σ H vs us Q I r h
  obtain ⟨a, bs, rfl, hs, q⟩ := h
  obtain ⟨its, rv, hl, _⟩ := I.list hs
  rw [Vals.ref1 r]
  have hb := rv.bls
  refine call_all_walk (iter_any hl.isList fun s₂ e2 st hne => ?_)
  subst e2
  refine ⟨_, _, _, _, _, _, _, rfl, Walks.list (A := X.A.in1) (I.ok.hd hc) _ a hne its.toArray, st, truth_bools hb, fun h' tk hk => ?_⟩
  refine ⟨.bl _, H, I.kept fun b o eo => hk b o (fun hmem => ?_) (Heap.get?_push_of_some _ eo), ?_, q⟩
  · rcases List.mem_cons.mp hmem with e1 | hmem
    · exact absurd (e1 ▸ Heap.lt_size eo) (Nat.lt_irrefl _)
    · cases hmem
  · show Value.bool _ = Value.bool _
    rw [← all_range, hb, List.size_toArray, List.length_map]
end

/-! ### == and != of data at any depth: none, bools, ints, texts, lists, tuples -/
section
variable {X : Cx} {pins : List (Addr × Obj)} {σ : St} {H : Hp} {s : Shared}
end
section
variable {X : Cx}
end
end L2

namespace L2
open PySem PySem.Spec PyProof.Rows
abbrev CellAt (h : Heap) (c : Addr) (v : Option Value) : Prop := h.IsCell c v
def relS (scope sc : Scope) : Scope :=
  { scope with names := scope.names.map fun (n, k) => if (k == .free && sc.kind == .function && sc.names.lookup n == some .cell) then (n, .cell) else (n, k) }

def cloFrom (cells : List (Str × Addr)) : List (Str × NameKind) → List (Str × Addr) → List (Str × Addr)
  | [], acc => acc
  | (n, k) :: r, acc => if k == .free then cloFrom cells r ((n, (cells.lookup n).getD 0) :: acc) else cloFrom cells r acc

theorem closure_loop (env : Env) (f : Str × NameKind → List (Str × Addr) → Sem (ForInStep (List (Str × Addr))))
    (hf : ∀ n k c, f (n, k) c = if k == .free then (do let a ← cellOf env n; pure (.yield ((n, a) :: c))) else pure (.yield c)) :
    ∀ (names : List (Str × NameKind)) (acc : List (Str × Addr)), (∀ y ∈ names, y.2 = .free → ∃ c, env.cells.lookup y.1 = some c) → forIn names acc f = pure (cloFrom env.cells names acc)
  | [], acc, _ => by rw [List.forIn_nil]; rfl
  | (n, k) :: r, acc, h => by
    rw [List.forIn_cons, hf]
    have ih := fun acc => closure_loop env f hf r acc fun y hy => h y (List.mem_cons_of_mem _ hy)
    unfold cloFrom
    by_cases hk : (k == NameKind.free) = true
    · rw [if_pos hk, if_pos hk]
      obtain ⟨c, hc⟩ := h (n, k) List.mem_cons_self (by simpa using hk)
      have e : cellOf env n = pure c := by unfold cellOf; rw [hc]
      rw [e]
      have e2 : (env.cells.lookup n).getD 0 = c := by rw [hc]; rfl
      rw [e2]
      exact ih _
    · rw [if_neg hk, if_neg hk]
      exact ih _
theorem closure_ok {scope : Scope} {env : Env} (h : ∀ y ∈ scope.names, y.2 = .free → ∃ c, env.cells.lookup y.1 = some c) : closureFor scope env = pure (cloFrom env.cells scope.names []) := by
  simp only [closureFor]
  rw [closure_loop env _ (fun n k c => rfl) scope.names [] h]
  rfl

theorem mem_lookup {α : Type} : ∀ {l : List (Str × α)} {n : Str} {c : α}, (n, c) ∈ l → ∃ c', l.lookup n = some c'
  | (k, v) :: r, n, c, h => by
    rw [List.lookup_cons]
    cases hb : n == k with
    | true => exact ⟨_, rfl⟩
    | false =>
      rcases List.mem_cons.mp h with e | h
      · cases e; simp at hb
      · exact mem_lookup h

theorem cloFrom_mem {cells : List (Str × Addr)} : ∀ {names : List (Str × NameKind)} {acc : List (Str × Addr)} {n : Str} {c : Addr}, (n, c) ∈ cloFrom cells names acc → (n, c) ∈ acc ∨ ((n, .free) ∈ names ∧ c = (cells.lookup n).getD 0)
  | [], _, _, _, h => .inl h
  | (m, k) :: r, acc, n, c, h => by
    unfold cloFrom at h
    split at h
    · rename_i hk
      have hk : k = .free := by simpa using hk
      rcases cloFrom_mem h with h | ⟨h1, h2⟩
      · rcases List.mem_cons.mp h with e | h
        · cases e; exact .inr ⟨hk ▸ List.mem_cons_self, rfl⟩
        · exact .inl h
      · exact .inr ⟨List.mem_cons_of_mem _ h1, h2⟩
    · rcases cloFrom_mem h with h | ⟨h1, h2⟩
      · exact .inl h
      · exact .inr ⟨List.mem_cons_of_mem _ h1, h2⟩
theorem cloFrom_acc {cells : List (Str × Addr)} : ∀ {names : List (Str × NameKind)} {acc : List (Str × Addr)} {p : Str × Addr}, p ∈ acc → p ∈ cloFrom cells names acc
  | [], _, _, h => h
  | (m, k) :: r, acc, p, h => by
    unfold cloFrom
    split
    · exact cloFrom_acc (List.mem_cons_of_mem _ h)
    · exact cloFrom_acc h
theorem cloFrom_has {cells : List (Str × Addr)} : ∀ {names : List (Str × NameKind)} {acc : List (Str × Addr)} {n : Str}, (n, .free) ∈ names → (n, (cells.lookup n).getD 0) ∈ cloFrom cells names acc
  | (m, k) :: r, acc, n, h => by
    unfold cloFrom
    rcases List.mem_cons.mp h with e | h
    · cases e
      exact cloFrom_acc List.mem_cons_self
    · split
      · exact cloFrom_has h
      · exact cloFrom_has h

theorem cells_mem : ∀ {names : List (Str × NameKind)} {h : Heap} {acc : List (Str × Addr)} {x : Str} {c : Addr}, (x, c) ∈ cellsFrom h.objs.size names acc →
    (x, c) ∈ acc ∨ ((x, .cell) ∈ names ∧ h.objs.size ≤ c ∧ CellAt (pushCells h names) c none)
  | [], _, _, _, _, h => .inl h
  | (n, k) :: r, h, acc, x, c, hm => by
    unfold cellsFrom at hm
    unfold pushCells
    split at hm
    · rename_i hk
      rw [if_pos hk]
      have hk : k = .cell := by simpa using hk
      rw [← Heap.size_push h { cls := .type "cell", data := .cell none }] at hm
      rcases cells_mem hm with hm | ⟨h1, h2, h3⟩
      · rcases List.mem_cons.mp hm with e | hm
        · cases e
          exact .inr ⟨hk ▸ List.mem_cons_self, Nat.le_refl _, _, pushCells_keeps r _ _ _ (Heap.get?_push_size _ rfl), rfl⟩
        · exact .inl hm
      · rw [Heap.size_push] at h2
        exact .inr ⟨List.mem_cons_of_mem _ h1, Nat.le_of_succ_le h2, h3⟩
    · rename_i hk
      rw [if_neg hk]
      rcases cells_mem hm with hm | ⟨h1, h2, h3⟩
      · exact .inl hm
      · exact .inr ⟨List.mem_cons_of_mem _ h1, h2, h3⟩
theorem cells_acc : ∀ {names : List (Str × NameKind)} {n : Nat} {acc : List (Str × Addr)} {p : Str × Addr}, p ∈ acc → p ∈ cellsFrom n names acc
  | [], _, _, _, h => h
  | (m, k) :: r, n, acc, p, h => by
    unfold cellsFrom
    split
    · exact cells_acc (List.mem_cons_of_mem _ h)
    · exact cells_acc h
theorem cells_has : ∀ {names : List (Str × NameKind)} {n : Nat} {acc : List (Str × Addr)} {x : Str}, (x, .cell) ∈ names → ∃ c, (x, c) ∈ cellsFrom n names acc
  | (m, k) :: r, n, acc, x, h => by
    unfold cellsFrom
    rcases List.mem_cons.mp h with e | h
    · cases e
      exact ⟨n, cells_acc List.mem_cons_self⟩
    · split
      · exact cells_has h
      · exact cells_has h
theorem cells_inj : ∀ {names : List (Str × NameKind)} {h : Heap} {acc : List (Str × Addr)} {x y : Str} {c : Addr}, (∀ p ∈ acc, p.2 < h.objs.size) → (∀ x y c, (x, c) ∈ acc → (y, c) ∈ acc → x = y) →
    (x, c) ∈ cellsFrom h.objs.size names acc → (y, c) ∈ cellsFrom h.objs.size names acc → x = y
  | [], _, _, _, _, _, _, hi, h1, h2 => hi _ _ _ h1 h2
  | (n, k) :: r, h, acc, x, y, c, hl, hi, h1, h2 => by
    unfold cellsFrom at h1 h2
    split at h1
    · rename_i hk
      rw [if_pos hk] at h2
      rw [← Heap.size_push h { cls := .type "cell", data := .cell none }] at h1 h2
      refine cells_inj (h := h.push _) (fun p hp => ?_) (fun x y c a b => ?_) h1 h2
      · rw [Heap.size_push]
        rcases List.mem_cons.mp hp with rfl | hp
        · exact Nat.lt_succ_self _
        · exact Nat.lt_succ_of_lt (hl p hp)
      · rcases List.mem_cons.mp a with e | a <;> rcases List.mem_cons.mp b with e' | b
        · cases e; cases e'; rfl
        · cases e; exact absurd (hl _ b) (Nat.lt_irrefl _)
        · cases e'; exact absurd (hl _ a) (Nat.lt_irrefl _)
        · exact hi _ _ _ a b
    · rename_i hk
      rw [if_neg hk] at h2
      exact cells_inj hl hi h1 h2

theorem newEnv_comp {M : Model} {A : Around} {E : Value → Shared → Prop} {s : Shared} {scope : Scope} {globals : Addr} {closure : List (Str × Addr)} {qual : Str} {func : Option Addr} {code : Value} {around : Env} {builtins : Addr} {Q : Env → Shared → Prop}
    (h : Q (newEnv scope s.heap.objs.size globals (cellsFrom (s.heap.objs.size + 1) scope.names closure) qual func code (some around) builtins)
      { s with heap := pushCells (s.heap.push { cls := .type "dict", data := .dict #[] }) scope.names }) :
    wpAny M A (newFunctionEnv scope globals closure [] qual func code (some around) builtins) Q E s := by
  simp only [newFunctionEnv, Option.isSome_some, if_true]
  refine wpAny_bind (wpAny_alloc ?_)
  refine wpAny_bind (wpAny_layCells _ (fun n k c => rfl) scope.names closure _ _ ?_)
  rw [show ({ s with heap := s.heap.push { cls := .type "dict", data := .dict #[] } } : Shared).heap.objs.size = s.heap.objs.size + 1 from Heap.size_push ..]
  rw [List.forIn_nil]
  exact wpAny_bind (wpAny_pure (wpAny_pure h))

/-- every name of the written scope, in the scope that runs -/
theorem lookup_relS {sc : Scope} : ∀ {names : List (Str × NameKind)} {x : Str} {k : NameKind},
    (names.map fun (n, k) => if (k == NameKind.free && sc.kind == .function && sc.names.lookup n == some .cell) then (n, NameKind.cell) else (n, k)).lookup x = some k →
    ∃ k', names.lookup x = some k' ∧ (k = k' ∨ (k' = .free ∧ k = .cell))
  | [], _, _, h => by simp at h
  | (n, k₀) :: r, x, k, h => by
    have ih := @lookup_relS sc r x k
    have h' : List.lookup x ((if (k₀ == NameKind.free && sc.kind == .function && sc.names.lookup n == some .cell) = true then (n, NameKind.cell) else (n, k₀)) :: (r.map _)) = some k := h
    cases hx : x == n with
    | true =>
      simp only [List.lookup_cons, hx]
      by_cases hc : (k₀ == NameKind.free && sc.kind == .function && sc.names.lookup n == some .cell) = true
      · rw [if_pos hc] at h'
        simp only [List.lookup_cons, hx] at h'
        cases h'
        simp only [Bool.and_eq_true, beq_iff_eq] at hc
        exact ⟨k₀, rfl, .inr ⟨hc.1.1, rfl⟩⟩
      · rw [if_neg hc] at h'
        simp only [List.lookup_cons, hx] at h'
        cases h'
        exact ⟨_, rfl, .inl rfl⟩
    | false =>
      simp only [List.lookup_cons, hx]
      by_cases hc : (k₀ == NameKind.free && sc.kind == .function && sc.names.lookup n == some .cell) = true
      · rw [if_pos hc] at h'
        simp only [List.lookup_cons, hx] at h'
        exact ih h'
      · rw [if_neg hc] at h'
        simp only [List.lookup_cons, hx] at h'
        exact ih h'



/-- the names of a comprehension's block: its own (with their places in N), or captured -/
structure BlkOk (N : List Str) (sc scope : Scope) (own : List (Str × Nat)) : Prop where
  kind : scope.kind = .function
  uniq : ∀ y ∈ scope.names, scope.names.lookup y.1 = some y.2
  ix : ∀ p ∈ own, N[p.2]? = some p.1
  free : ∀ y ∈ scope.names, y.2 = .free → sc.names.lookup y.1 = some .cell ∨ sc.names.lookup y.1 = some .free
  own : ∀ y ∈ scope.names, y.2 = .local ∨ y.2 = .cell → y.1 ∈ own.map (·.1) ∨ y.1 ∉ N
/-- the slots of the block's own names forgotten -/
def wipe (σ : St) : List Nat → St
  | [] => σ
  | v :: vs => (wipe σ vs).set v none
theorem wipe_length (σ : St) : ∀ vs : List Nat, (wipe σ vs).length = σ.length
  | [] => rfl
  | v :: vs => by unfold wipe; rw [List.length_set, wipe_length σ vs]
theorem wipe_some {σ : St} {i : Nat} {x : V} : ∀ {vs : List Nat}, (wipe σ vs)[i]? = some (some x) → σ[i]? = some (some x) ∧ i ∉ vs
  | [], h => ⟨h, by simp⟩
  | v :: vs, h => by
    unfold wipe at h
    by_cases hi : v = i
    · subst hi
      by_cases hv : v < (wipe σ vs).length
      · rw [List.getElem?_set_self hv] at h; cases h
      · rw [List.getElem?_eq_none (by simpa using hv)] at h; cases h
    · rw [List.getElem?_set_ne hi] at h
      obtain ⟨h1, h2⟩ := wipe_some h
      exact ⟨h1, by simp only [List.mem_cons, not_or]; exact ⟨fun e => hi e.symm, h2⟩⟩

/-- the context of a block that starts at s, its iterator's objects at fp -/
abbrev Cx.blk (X : Cx) (s : Shared) (H : Hp) (scope : Scope) (cenv : Env) (fp : List Addr) : Cx := { X with s_0 := s, H_0 := H, env := cenv, outer := X.stack, ex := fp, fn := fun x => scope.names.lookup x == some .cell, pn := [], xe := fun _ _ => False }
section
variable {X : Cx} {pins : List (Addr × Obj)} {σ : St} {H : Hp} {s : Shared}
theorem block_start {scope : Scope} {own : List (Str × Nat)} {fp : List Addr} (I : Inv X pins σ H s) (ok : BlkOk X.N X.env.scope scope own) (hN : X.N.Nodup) (hfp : ∀ b ∈ fp, FpOk X pins H b ∧ b < s.heap.objs.size) :
    Inv (X.blk s H scope (compEnvC scope (cellsFrom (s.heap.objs.size + 1) scope.names (cloFrom X.env.cells scope.names [])) s.heap.objs.size X.env) fp) [] (wipe σ (own.map (·.2))) H { s with heap := pushCells (s.heap.push { cls := .type "dict", data := .dict #[] }) scope.names } := by
  have hfree : ∀ y ∈ scope.names, y.2 = .free → ∃ c, X.env.cells.lookup y.1 = some c := fun y hy e => by
    rcases ok.free y hy e with k | k
    · exact I.ok.has _ (.inl k)
    · exact I.ok.has _ (.inr k)
  generalize hcenv : compEnvC scope (cellsFrom (s.heap.objs.size + 1) scope.names (cloFrom X.env.cells scope.names [])) s.heap.objs.size X.env = cenv
  have kp : ∀ b o, s.heap.get? b = some o → (pushCells (s.heap.push { cls := .type "dict", data := .dict #[] }) scope.names).get? b = some o := fun b o e => pushCells_keeps _ _ _ _ (Heap.get?_push_of_some _ e)
  have hL : cenv.locals = s.heap.objs.size := by rw [← hcenv]; rfl
  have hcl : cenv.cells = cellsFrom (s.heap.objs.size + 1) scope.names (cloFrom X.env.cells scope.names []) := by rw [← hcenv]; rfl
  have hsc : cenv.scope = relS scope X.env.scope := by rw [← hcenv]; rfl
  rw [← Heap.size_push s.heap { cls := .type "dict", data := .dict #[] }] at hcl
  have cm : ∀ {y c}, (y, c) ∈ cloFrom X.env.cells scope.names [] → X.env.cells.lookup y = some c ∧ c < s.heap.objs.size := fun {y c} hm => by
    rcases cloFrom_mem hm with hm | ⟨h1, rfl⟩
    · cases hm
    · obtain ⟨c, hc⟩ := hfree _ h1 rfl
      rw [hc]
      obtain ⟨w, z⟩ := I.cell _ _ hc
      exact ⟨rfl, z.lt⟩
  have mem : ∀ {y c}, cenv.cells.lookup y = some c → (X.env.cells.lookup y = some c ∧ c < s.heap.objs.size) ∨ (s.heap.objs.size + 1 ≤ c ∧ CellAt (pushCells (s.heap.push { cls := .type "dict", data := .dict #[] }) scope.names) c none) := fun {y c} e => by
    rw [hcl] at e
    rcases cells_mem (PySem.mem_of_lookup e) with hm | ⟨_, h2, h3⟩
    · exact .inl (cm hm)
    · rw [Heap.size_push] at h2; exact .inr ⟨h2, h3⟩
  have look : ∀ {y}, scope.names.lookup y = some .free → ∃ c, cenv.cells.lookup y = some c ∧ X.env.cells.lookup y = some c := fun {y} hl => by
    have hy : (y, NameKind.free) ∈ scope.names := PySem.mem_of_lookup hl
    obtain ⟨c', e'⟩ := mem_lookup (cells_acc (names := scope.names) (n := (s.heap.push { cls := .type "dict", data := .dict #[] }).objs.size) (cloFrom_has (cells := X.env.cells) (acc := []) hy))
    rw [← hcl] at e'
    refine ⟨c', e', ?_⟩
    rw [hcl] at e'
    rcases cells_mem (PySem.mem_of_lookup e') with hm | ⟨h1, _, _⟩
    · exact (cm hm).1
    · have := ok.uniq _ h1
      rw [hl] at this; cases this
  have okB : (X.blk s H scope cenv fp).Ok := by
    refine ⟨I.ok.mod, by show cenv.scope.kind = _; rw [hsc]; exact ok.kind, by show cenv.globals = _; rw [← hcenv]; exact I.ok.glob, by show cenv.builtins = _; rw [← hcenv]; exact I.ok.blt, by show s.heap.objs.size ≤ cenv.locals; rw [hL]; exact Nat.le_refl _,
      fun y z c e1 e2 => ?_, fun y hy => ?_, fun y c z e => ?_, I.ok.hd, I.ok.frames, .inl rfl, fun b hb => ⟨?_, fun y c e z => ?_⟩, I.bs, Nat.le_trans I.ok.bsz I.sz, fun b o e hb => ?_, fun b hb z => ?_, I.stack, I.stkFree⟩
    · have e1 : cenv.cells.lookup y = some c := e1
      have e2 : cenv.cells.lookup z = some c := e2
      rw [hcl] at e1 e2
      refine cells_inj (fun p hp => ?_) (fun y z c a b => I.ok.inj y z c (cm a).1 (cm b).1) (PySem.mem_of_lookup e1) (PySem.mem_of_lookup e2)
      rw [Heap.size_push]
      exact Nat.lt_succ_of_lt (cm (y := p.1) (c := p.2) hp).2
    · show ∃ c, cenv.cells.lookup y = some c
      have key : ∀ k, cenv.kindOf y = some k → (k = .cell ∨ k = .free) → ∃ c, cenv.cells.lookup y = some c := fun k hk hk' => by
        unfold Env.kindOf at hk
        rw [hsc] at hk
        obtain ⟨k', e, r⟩ := lookup_relS hk
        have : k' = .cell ∨ k' = .free := by
          rcases r with rfl | ⟨rfl, _⟩
          · exact hk'
          · exact .inr rfl
        rcases this with rfl | rfl
        · obtain ⟨c, hm⟩ := cells_has (n := (s.heap.push { cls := .type "dict", data := .dict #[] }).objs.size) (acc := cloFrom X.env.cells scope.names []) (PySem.mem_of_lookup e)
          obtain ⟨c', e'⟩ := mem_lookup hm
          exact ⟨c', by rw [hcl]; exact e'⟩
        · obtain ⟨c, h1, _⟩ := look e
          exact ⟨c, h1⟩
      rcases hy with hy | hy
      · exact key _ hy (.inl rfl)
      · exact key _ hy (.inr rfl)
    · have z : (scope.names.lookup y == some NameKind.cell) = true := z
      have z : scope.names.lookup y = some .cell := by simpa using z
      have e : cenv.cells.lookup y = some c := e
      rw [hcl] at e
      rcases cells_mem (PySem.mem_of_lookup e) with hm | ⟨_, h2, _⟩
      · rcases cloFrom_mem hm with hm | ⟨h1, _⟩
        · cases hm
        · have q := ok.uniq _ h1
          rw [z] at q; cases q
      · rw [Heap.size_push] at h2
        exact Nat.le_of_succ_le h2
    · show b ≠ cenv.locals
      rw [hL]; exact Nat.ne_of_lt (hfp b hb).2
    · have e : cenv.cells.lookup y = some c := e
      rcases mem e with ⟨h1, _⟩ | ⟨h1, _⟩
      · exact (hfp b hb).1.2.2.2.2.1 y c h1 z
      · have h2 : s.heap.objs.size + 1 ≤ b := by rw [← z]; exact h1
        exact absurd (Nat.lt_of_lt_of_le (hfp b hb).2 (Nat.le_of_succ_le h2)) (Nat.lt_irrefl _)
    · rcases (hfp b hb).1.2.2.2.1 with z | z
      · exact I.ok.noex b o e z
      · exact absurd (Nat.lt_of_lt_of_le (Heap.lt_size e) (Nat.le_trans I.ok.bsz z)) (Nat.lt_irrefl _)
    · rcases List.mem_cons.mp (I.stkSub b z) with z | z
      · exact (hfp b hb).1.2.1 z
      · exact (hfp b hb).1.2.2.1 z
  refine ⟨okB, rfl, I.bare, Un.kept kp, ⟨fun _ => none, ?_, fun i y av e1 e2 e3 => ?_⟩, fun y c e => ?_, ?_, fun y c e => ?_, fun p hp => ?_, I.hok.kept kp, by rw [wipe_length]; exact I.len⟩
  · show Heap.Ns _ cenv.locals _
    rw [hL]
    exact Heap.Ns.keeps (Heap.Ns.new ..) fun b o e => pushCells_keeps _ _ _ _ e
  · obtain ⟨e2, hne⟩ := wipe_some e2
    have hfr : scope.names.lookup y = some .free ∧ (cenv.kindOf y = some .cell ∨ cenv.kindOf y = some .free) := by
      have key : ∀ k, cenv.scope.names.lookup y = some k → k = .local ∨ k = .cell ∨ k = .free → scope.names.lookup y = some .free ∧ (cenv.kindOf y = some .cell ∨ cenv.kindOf y = some .free) := fun k hk hk' => by
        have hk0 := hk
        rw [hsc] at hk
        obtain ⟨k', e, r⟩ := lookup_relS hk
        have no : ¬ (k' = .local ∨ k' = .cell) := fun hh => by
          rcases ok.own _ (PySem.mem_of_lookup e) hh with e' | e'
          · obtain ⟨p, hp, hpy⟩ := List.mem_map.mp e'
            have e3 := ok.ix p hp
            have : p.1 = y := hpy
            rw [this] at e3
            exact hne (List.mem_map.mpr ⟨p, hp, nodup_ix hN e3 e1⟩)
          · exact e' (List.mem_of_getElem? e1)
        rcases r with rfl | ⟨rfl, rfl⟩
        · rcases hk' with rfl | rfl | rfl
          · exact absurd (.inl rfl) no
          · exact absurd (.inr rfl) no
          · exact ⟨e, .inr hk0⟩
        · exact ⟨e, .inl hk0⟩
      have e3 : Vis cenv.scope y := e3
      rcases e3 with e3 | e3 | e3
      · exact key _ e3 (.inl rfl)
      · exact key _ e3 (.inr (.inl rfl))
      · exact key _ e3 (.inr (.inr rfl))
    obtain ⟨m, hn, hl⟩ := I.loc
    have hvis : Vis X.env.scope y := (ok.free _ (PySem.mem_of_lookup hfr.1) rfl).elim (fun k => .inr (.inl k)) (fun k => .inr (.inr k))
    obtain ⟨w, r, q⟩ := hl i y av e1 e2 hvis
    refine ⟨w, r, .inr ⟨hfr.2, ?_⟩⟩
    obtain ⟨c, h1, h2⟩ := look hfr.1
    rcases q with ⟨k, _⟩ | ⟨_, c', e', z⟩
    · have k : X.env.scope.names.lookup y = some .local := k
      rcases ok.free _ (PySem.mem_of_lookup hfr.1) rfl with k' | k' <;> rw [show X.env.scope.names.lookup y = _ from k'] at k <;> cases k
    · rw [h2] at e'; cases e'
      exact ⟨c, h1, z.keeps kp⟩
  · have e : cenv.cells.lookup y = some c := e
    rcases mem e with ⟨h1, _⟩ | ⟨_, z⟩
    · obtain ⟨w, z⟩ := I.cell y c h1
      exact ⟨w, z.keeps kp⟩
    · exact ⟨_, z⟩
  · show H cenv.locals = none
    rw [hL]; exact I.hok.fresh (Nat.le_refl _)
  · have e : cenv.cells.lookup y = some c := e
    rcases mem e with ⟨h1, _⟩ | ⟨h1, _⟩
    · exact I.freeC y c h1
    · exact I.hok.fresh (Nat.le_of_succ_le h1)
  · exact absurd (show p ∈ ([] : List (Addr × Obj)) ++ [] from hp) (by simp)

/-- an item appended to a tracked list -/
theorem app_ok {E : Value → Shared → Prop} {D : Addr} {xs : List V} {y : V} {v : Value} {Q : Value → Shared → Prop} (I : Inv X pins σ H s) (hD : H D = some (.lst xs)) (hz : xs.length < sizeLine) (r : RelV y v)
    (h : ∀ s', Inv X pins σ (upd H D (.lst (xs ++ [y]))) s' → Q .none s') : wpAny (model X.prog X.w) X.A (call (.builtin "list.append") [.ref D, v]) Q E s := by
  obtain ⟨hz', its, n, ri, e⟩ := I.hok D _ hD
  have hl := ri.length
  refine append_at (hsz := by rw [List.size_toArray]; omega) e fun h' sb ho' => ?_
  refine h { s with heap := h' } (I.write (t' := s.toks) (by rw [hD]; trivial) (.inl rfl) (fun b u hb q => (sb.2 b hb).trans q) ⟨_, ho'⟩ ⟨by rw [List.length_append]; exact hz, its ++ [v], n + 1, ri.append (.cons r .nil), ?_⟩)
  rw [ho']
  simp

/-- a clause's tests -/
def PTs (X : Cx) (ifs : List Expr) (t : TT) : Prop :=
  ∀ (pins : List (Addr × Obj)) (s : Shared) (σ : St) (H : Hp) (Q : Bool → Hp → Prop), Inv X pins σ H s → t σ H Q →
    wpAny (model X.prog X.w) X.A (forIn ifs true fun c r => if r = true then do let ok ← isTrue c X.env (eval c X.env); pure (ForInStep.yield ok) else pure (ForInStep.yield r)) (TP X pins σ Q) X.xe s
def tYes : TT := fun _ H Q => Q true H
theorem pts_nil : PTs X [] tYes := fun _ _ _ H _ I h => wpAny_tests_nil ⟨H, I, h⟩
theorem pts_one {c : Expr} {t : TT} (h : PT X c t) : PTs X [c] t := fun pins s σ H Q I hw => wpAny_tests_one (h pins s σ H Q I hw)
end

theorem thnF {α : Type} {t : Sem α} {Q Q' : α → Shared → Prop} {M : Model} {A : Around} {E : Value → Shared → Prop} {s : Shared} (h : wpAny M A t Q (fun _ _ => False) s) (hQ : ∀ a s, Q a s → Q' a s) : wpAny M A t Q' E s := wpAny_mono h hQ fun _ _ z => False.elim z

/-- the loop of a list comprehension's block, the target of any form (codeAny_compLoop_tests asks a target that no tuple goes to; statement and proof follow it, PyProof/CompMap.lean:41-61, with the step letOwnedTupleGo kept) -/
theorem compLoop_any {prog : Program} {w : World} {A : Around} {R : Result → Shared → Prop} {s : Shared} {elt target iter : Expr} {ifs : List Expr} {scope : Scope} {pos : Pos} {it acc : Value} {env : Env} (I : Nat → Shared → Prop)
    (turn : ∀ n s, I n s → wpAny (model prog w) A (pyNext it) (fun r s₁ => match r with
      | none => R (.ok .next) s₁
      | some v => wpAny (model prog w) A (letOwnedTupleGo target it v) (fun _ s₁' => wpAny (model prog w) A (assign target env v) (fun _ s₂ =>
          wpAny (model prog w) A (forIn ifs true fun c r => if r = true then do let ok ← isTrue c env (eval c env); pure (ForInStep.yield ok) else pure (ForInStep.yield r)) (fun ok s₃ =>
            if ok = true then wpAny (model prog w) A (eval elt env) (fun x s₄ =>
              wpAny (model prog w) A (call (.builtin "list.append") [acc, x]) (fun _ s₅ => ∃ m, m < n ∧ I m s₅) (notedBy (model prog w) A env fun e s' => R (.error e) s') s₄) (notedBy (model prog w) A env fun e s' => R (.error e) s') s₃
            else ∃ m, m < n ∧ I m s₃) (notedBy (model prog w) A env fun e s' => R (.error e) s') s₂) (notedBy (model prog w) A env fun e s' => R (.error e) s') s₁') (notedBy (model prog w) A env fun e s' => R (.error e) s') s₁) (notedBy (model prog w) A env fun e s' => R (.error e) s') s)
    (n : Nat) (h : I n s) :
    codeAny (model prog w) A (.compLoop (.ListComp elt [⟨target, iter, ifs, 0⟩] scope pos) 0 it acc env) R s := by
  refine codeAny_loop rfl I (fun n s hI => ?_) n h
  show wpAny _ A ((compTurn (.ListComp elt [⟨target, iter, ifs, 0⟩] scope pos) 0 it acc env).onRaise (fun x => do noteFrame x env; theTreesLotGoes x)) _ _ s
  refine wpAny_noted ?_
  rw [compTurn_list]
  refine wpAny_bind (wpAny_standAt (wpAny_bind (wpAny_mono (turn n s hI) (fun r s₁ h₁ => ?_) fun _ _ h' => h')))
  cases r with
  | none => exact wpAny_pure h₁
  | some v =>
    refine wpAny_bind (wpAny_mono h₁ (fun _ s₁' h₁' => ?_) fun _ _ h' => h')
    refine wpAny_bind (wpAny_mono h₁' (fun _ s₂ h₂ => wpAny_bind (wpAny_mono h₂ (fun ok s₃ h₃ => ?_) fun _ _ h' => h')) fun _ _ h' => h')
    cases ok with
    | false => exact wpAny_pure ⟨rfl, h₃⟩
    | true =>
      exact wpAny_bind (wpAny_bind (wpAny_mono h₃ (fun x s₄ h₄ => wpAny_bind (wpAny_mono h₄ (fun _ s₅ h₅ => wpAny_pure (wpAny_pure ⟨rfl, h₅⟩)) fun _ _ h' => h')) fun _ _ h' => h'))

section
variable {X : Cx}
/-- [elt for target in iter if ..]: D the new list; W by the turn and a measure, Nx what a turn is to reach -/
def tLc (wi : TI) (g : TG) (tt : TT) (te : TE) (vs : List Nat) : TE := fun σ H Q => wi σ H fun J H1 => ∀ D, H1 D = none → ∃ W : Nat → Nat → Hp → Prop, (∃ m, W 0 m (upd H1 D (.lst []))) ∧ ∀ i m H, W i m H →
  (J.stop i H ∧ Q (.ref D) H) ∨ (J.go i H ∧ ∃ Nx : Hp → Prop, (∀ H', Nx H' → ∃ m', m' < m ∧ W (i + 1) m' H') ∧ ∀ x H', J.yld i H x H' → g x (wipe σ vs) H' fun σ2 H2 => wipe σ2 vs = wipe σ vs ∧ tt σ2 H2 fun b H3 =>
    if b = true then te σ2 H3 fun y H4 => ∃ acc, H4 D = some (.lst acc) ∧ acc.length < sizeLine ∧ Nx (upd H4 D (.lst (acc ++ [y]))) else Nx H3)
theorem lc_core {pins : List (Addr × Obj)} {s : Shared} {σ : St} {H : Hp} {Q : VK} {elt tg iter : Expr} {ifs : List Expr} {scope : Scope} {own : List (Str × Nat)} {pos pos' : Pos} {wi : TI} {g : TG} {tt : TT} {te : TE} {use : Option (Value → Sem Unit)} {Qf : Value → Shared → Prop}
    (hc : X.calm = true) (hN : X.N.Nodup) (I : Inv X pins σ H s) (hi : PI X tg iter wi) (ok : BlkOk X.N X.env.scope scope own)
    (hg : ∀ (s : Shared) (H : Hp) (C : Addr) (cl : List (Str × Addr)) (fp : List Addr), PG (X.blk s H scope (compEnvC scope cl C X.env) fp) tg g) (ht : ∀ (s : Shared) (H : Hp) (C : Addr) (cl : List (Str × Addr)) (fp : List Addr), PTs (X.blk s H scope (compEnvC scope cl C X.env) fp) ifs tt)
    (he : ∀ (s : Shared) (H : Hp) (C : Addr) (cl : List (Str × Addr)) (fp : List Addr), PE (X.blk s H scope (compEnvC scope cl C X.env) fp) elt te) (hs : ∀ x, foldedSetIterable iter X.env x = pure x)
    (h : tLc wi g tt te (own.map (·.2)) σ H Q)
    (hRR : ∀ D C s' m H', Inv X pins σ H' s' → Q (.ref D) H' → s'.heap.Ns C m → FpOk X pins H' C → compPost (model X.prog X.w) X.A X.xe use Qf (.ref D) C (.ok .next) s') :
    wpAny (model X.prog X.w) X.A (comprehension (.ListComp elt [⟨tg, iter, ifs, 0⟩] scope pos) scope X.env pos' (newList []) false (eval iter X.env) use) Qf X.xe s := by
  have hfree : ∀ y ∈ scope.names, y.2 = .free → ∃ c, X.env.cells.lookup y.1 = some c := fun y hy e => by
    rcases ok.free y hy e with k | k
    · exact I.ok.has _ (.inl k)
    · exact I.ok.has _ (.inr k)
  refine wpAny_comprehension_free (use := use) rfl hs (closure_ok hfree) ok.kind (fun y hy e => by rw [ok.uniq y hy, e])
    (thn (hi pins s σ H _ I h) fun xv s1 hx => thn hx fun itv s2 h2 => ?_)
  obtain ⟨it, fp, tn, J, H2, e, I2, T, st2, f2, q⟩ := h2
  subst e
  refine wpAny_newObj_type (newEnv_comp ?_) (by show 0 ≤ sizeLine; decide)
  generalize hD : s2.heap.objs.size = D
  have hDn : H2 D = none := I2.hok.fresh (Nat.le_of_eq hD)
  obtain ⟨W, ⟨m0, w0⟩, turn⟩ := q D hDn
  -- the new list
  generalize hs3 : ({ s2 with heap := s2.heap.push { cls := .type "list", data := .seq ([] : List Value).toArray } } : Shared) = s3
  have I3 : Inv X pins σ (upd H2 D (.lst [])) s3 := by
    rw [← hs3]
    refine I2.laid (t' := s2.toks) (fun b o e => Heap.get?_push_of_some _ e) (Nat.le_of_eq hD) ⟨Nat.zero_le _, [], 0, .nil, ?_⟩
    rw [← hD]
    exact Heap.get?_push_size _ rfl
  have h3 : s3.heap = s2.heap.push { cls := .type "list", data := .seq ([] : List Value).toArray } := by rw [← hs3]
  have sz : ∀ b ∈ fp, b < s2.heap.objs.size := fun b hb => by
    obtain ⟨o, e, _⟩ := T.obj _ _ st2 b hb
    exact Heap.lt_size e
  have f3 : ∀ b ∈ fp, FpOk X pins (upd H2 D (.lst [])) b ∧ b < s3.heap.objs.size := fun b hb => by
    have hlt := sz b hb
    refine ⟨⟨?_, (f2 b hb).2⟩, by rw [h3, Heap.size_push]; exact Nat.lt_succ_of_lt hlt⟩
    rw [upd_ne (by rw [← hD]; exact Nat.ne_of_lt hlt)]
    exact (f2 b hb).1
  have st3 : tn 0 s3.heap := T.keep _ _ _ st2 fun b _ o e => by rw [h3]; exact Heap.get?_push_of_some _ e
  have I4 := block_start I3 ok hN f3
  have pg := hg s3 (upd H2 D (.lst [])) s3.heap.objs.size (cellsFrom (s3.heap.objs.size + 1) scope.names (cloFrom X.env.cells scope.names [])) fp
  have pt := ht s3 (upd H2 D (.lst [])) s3.heap.objs.size (cellsFrom (s3.heap.objs.size + 1) scope.names (cloFrom X.env.cells scope.names [])) fp
  have pe := he s3 (upd H2 D (.lst [])) s3.heap.objs.size (cellsFrom (s3.heap.objs.size + 1) scope.names (cloFrom X.env.cells scope.names [])) fp
  show codeAny _ _ (.compStart (.ListComp elt [⟨tg, iter, ifs, 0⟩] scope pos) 0 (.ref it) (.ref D) (compEnvC scope (cellsFrom (s3.heap.objs.size + 1) scope.names (cloFrom X.env.cells scope.names [])) s3.heap.objs.size X.env)) (compPost (model X.prog X.w) X.A X.xe use Qf (.ref D) s3.heap.objs.size) { s3 with heap := pushCells (s3.heap.push { cls := .type "dict", data := .dict #[] }) scope.names }
  have nfp : ∀ b ∈ fp, (upd H2 D (.lst [])) b = none := fun b hb => (f3 b hb).1.1
  generalize hce : compEnvC scope (cellsFrom (s3.heap.objs.size + 1) scope.names (cloFrom X.env.cells scope.names [])) s3.heap.objs.size X.env = ce at I4 pg pt pe ⊢
  have cL : ce.locals = s3.heap.objs.size := by subst hce; rfl
  generalize hH3 : upd H2 D (.lst []) = H3 at I3 I4 pg pt pe w0 nfp f3
  generalize hs4 : ({ s3 with heap := pushCells (s3.heap.push { cls := .type "dict", data := .dict #[] }) scope.names } : Shared) = s4 at I4 ⊢
  have st4 : tn 0 s4.heap := T.keep _ _ _ st3 fun b _ o e => by rw [← hs4]; exact pushCells_keeps _ _ _ _ (Heap.get?_push_of_some _ e)
  have stat : ∀ {σ' : St} {H' : Hp} {s' : Shared}, Inv (X.blk s3 H3 scope ce fp) [] σ' H' s' → (∀ b ∈ fp, H' b = none) → ∀ b ∈ fp, FpOk (X.blk s3 H3 scope ce fp) [] H' b := fun {σ' H' s'} I' hn b hb =>
    ⟨hn b hb, (I'.ok.exf b hb).1, I'.ok.exfs b hb, .inl hb, fun x c e => (I'.ok.exf b hb).2 x c e, fun p hp => absurd (show p ∈ ([] : List (Addr × Obj)) ++ [] from hp) (by simp)⟩
  have loop : codeAny (model X.prog X.w) X.A (.compLoop (.ListComp elt [⟨tg, iter, ifs, 0⟩] scope pos) 0 (.ref it) (.ref D) ce) (compPost (model X.prog X.w) X.A X.xe use Qf (.ref D) s3.heap.objs.size) s4 := by
    refine compLoop_any (fun n s' => ∃ i H', Inv (X.blk s3 H3 scope ce fp) [] (wipe σ (own.map (·.2))) H' s' ∧ tn i s'.heap ∧ (∀ b ∈ fp, H' b = none) ∧ W i n H') ?_ m0 ⟨0, H3, I4, st4, nfp, w0⟩
    rintro n s5 ⟨i, H5, I5, st5, n5, w5⟩
    rcases turn i n H5 w5 with ⟨stop, qq⟩ | ⟨go, Nx, hNx, step⟩
    · have td := T.done (X.blk s3 H3 scope ce fp) rfl rfl rfl hc i [] s5 _ H5 (fun _ _ => False) I5 (stat I5 n5) st5 stop
      refine thnF td fun r s6 ⟨hr, I6⟩ => ?_
      subst hr
      -- back in the def's context
      have I7 : Inv X pins σ H5 s6 := I3.call' (ch := fp) I6.os I6.base I6.hok I6.bare fun b hb => ⟨(f3 b hb).1.2.2.2.1, (f3 b hb).1.2.1, (f3 b hb).1.2.2.2.2.1, (f3 b hb).1.2.2.2.2.2⟩
      have nC : H5 s3.heap.objs.size = none := by
        have z : H5 ce.locals = none := I6.free
        rw [cL] at z
        exact z
      obtain ⟨m, hn, _⟩ := I6.loc
      have hn : s6.heap.Ns ce.locals m := hn
      rw [cL] at hn
      exact hRR D s3.heap.objs.size s6 m H5 I7 qq hn (I3.fpOk (Nat.le_refl _) nC)
    · have ti := T.item (X.blk s3 H3 scope ce fp) rfl rfl rfl hc i [] s5 _ H5 (fun _ _ => False) I5 (stat I5 n5) st5 go
      refine thnF ti fun r s6 ⟨u, hr, h6⟩ => ?_
      subst hr
      refine thnF h6 fun _ s7 ⟨x, H7, I7, r7, y7, st7, n7⟩ => ?_
      have I7' := I7.pinned (stat I7 n7) (T.obj _ _ st7)
      refine thnF (pg _ s7 _ H7 x u _ I7' r7 (step x H7 y7)) fun _ s8 ⟨σ8, H8, I8, hw8, q8⟩ => ?_
      refine thnF (pt _ s8 σ8 H8 _ I8 q8) fun b s9 ⟨H9, I9, q9⟩ => ?_
      -- the turn's end
      have fin : ∀ {s' : Shared} {H' : Hp}, Inv (X.blk s3 H3 scope ce fp) ([] ++ pinsAt fp s7.heap) σ8 H' s' → Nx H' → ∃ m, m < n ∧ ∃ i H', Inv (X.blk s3 H3 scope ce fp) [] (wipe σ (own.map (·.2))) H' s' ∧ tn i s'.heap ∧ (∀ b ∈ fp, H' b = none) ∧ W i m H' := fun {s' H'} I' nx => by
        obtain ⟨m', hm, w'⟩ := hNx H' nx
        have pin' : ∀ b ∈ fp, ∀ o, s7.heap.get? b = some o → s'.heap.get? b = some o ∧ H' b = none := fun b hb o e =>
          let z := I'.pin (b, o) (List.mem_append_right _ (List.mem_append_right _ (mem_pinsAt hb e)))
          ⟨z.1, z.2.1⟩
        have hl : (wipe σ (own.map (·.2))).length = σ8.length := by rw [← hw8, wipe_length]
        refine ⟨m', hm, i + 1, H', (I'.unpinned (pins := [])).weak hl (fun j v e => ?_), T.keep _ _ _ st7 fun b hb o e => (pin' b hb o e).1, fun b hb => ?_, w'⟩
        · rw [← hw8] at e
          exact (wipe_some e).1
        · obtain ⟨o, e, _⟩ := T.obj _ _ st7 b hb
          exact (pin' b hb o e).2
      cases b with
      | false =>
        simp only [Bool.false_eq_true, if_false] at q9 ⊢
        exact fin I9 q9
      | true =>
        simp only [if_true] at q9 ⊢
        refine thnF (pe _ s9 σ8 H9 _ I9 q9) fun z s10 ⟨yv, H10, I10, r10, acc, hD10, hz10, nx⟩ => ?_
        exact app_ok (X := X.blk s3 H3 scope ce fp) I10 hD10 hz10 r10 fun s11 I11 => fin I11 nx
  exact codeAny_compStart_list loop (T.self X.A 0 _ _ _ st4 loop)
/-- as a value -/
theorem pe_lc {elt tg iter : Expr} {ifs : List Expr} {scope : Scope} {own : List (Str × Nat)} {pos : Pos} {wi : TI} {g : TG} {tt : TT} {te : TE} (hc : X.calm = true) (hN : X.N.Nodup) (hi : PI X tg iter wi) (ok : BlkOk X.N X.env.scope scope own)
    (hg : ∀ (s : Shared) (H : Hp) (C : Addr) (cl : List (Str × Addr)) (fp : List Addr), PG (X.blk s H scope (compEnvC scope cl C X.env) fp) tg g) (ht : ∀ (s : Shared) (H : Hp) (C : Addr) (cl : List (Str × Addr)) (fp : List Addr), PTs (X.blk s H scope (compEnvC scope cl C X.env) fp) ifs tt)
    (he : ∀ (s : Shared) (H : Hp) (C : Addr) (cl : List (Str × Addr)) (fp : List Addr), PE (X.blk s H scope (compEnvC scope cl C X.env) fp) elt te) (hs : ∀ x, foldedSetIterable iter X.env x = pure x := by intro _; rfl) :
    PE X (.ListComp elt [⟨tg, iter, ifs, 0⟩] scope pos) (tLc wi g tt te (own.map (·.2))) := by
  intro pins s σ H Q I h
  rw [eval_ListComp]
  refine lc_core hc hN I hi ok hg ht he hs h fun D C s' m H' I' q hn f => ⟨m, hn, fun h'' sb => ?_⟩
  obtain ⟨f0, f1, f2, f3, f4, f5⟩ := f
  exact ⟨.ref D, H', I'.turned (t' := s'.toks) (fun b o hb e => (sb.2 b hb).trans e) f0 f1 f3 f4 f5, rfl, q⟩
/-- name = [..] on one line, the name a local -/
theorem ps_setLc {i : Nat} {y : Str} {py : Pos} {elt tg iter : Expr} {ifs : List Expr} {scope : Scope} {own : List (Str × Nat)} {pos spos : Pos} {wi : TI} {g : TG} {tt : TT} {te : TE} (hc : X.calm = true) (hN : X.N.Nodup) (hy : X.N[i]? = some y) (hyl : X.env.scope.names.lookup y = some .local)
    (hsw : swapsWith (.ListComp elt [⟨tg, iter, ifs, 0⟩] scope pos) (some (.Name y py)) spos.line X.env = pure true) (hi : PI X tg iter wi) (ok : BlkOk X.N X.env.scope scope own)
    (hg : ∀ (s : Shared) (H : Hp) (C : Addr) (cl : List (Str × Addr)) (fp : List Addr), PG (X.blk s H scope (compEnvC scope cl C X.env) fp) tg g) (ht : ∀ (s : Shared) (H : Hp) (C : Addr) (cl : List (Str × Addr)) (fp : List Addr), PTs (X.blk s H scope (compEnvC scope cl C X.env) fp) ifs tt)
    (he : ∀ (s : Shared) (H : Hp) (C : Addr) (cl : List (Str × Addr)) (fp : List Addr), PE (X.blk s H scope (compEnvC scope cl C X.env) fp) elt te) (hs : ∀ x, foldedSetIterable iter X.env x = pure x := by intro _; rfl) :
    PS X (.Assign [.Name y py] (.ListComp elt [⟨tg, iter, ifs, 0⟩] scope pos) spos) (tAsg (tLc wi g tt te (own.map (·.2))) (gName i)) := by
  intro pins s σ H D I h
  rw [exec_Assign_Name_used _ _ _ _ hsw]
  refine wpAny_bind (wpAny_standAt (wpAny_bind ?_))
  show wpAny _ X.A (do let _ ← comprehension (.ListComp elt [⟨tg, iter, ifs, 0⟩] scope pos) scope X.env (firstIterPos [⟨tg, iter, ifs, 0⟩] pos) (newList []) false (eval iter X.env) (some (assign (.Name y py) X.env))) _ _ s
  have h : tLc wi g tt te (own.map (·.2)) σ H (fun x H1 => gName i x σ H1 D.nx) := h
  refine wpAny_bind (thn (lc_core (Qf := fun _ s' => SP X pins D .next s') hc hN I hi ok hg ht he hs h fun L C s' m H' I' q hn f => ?_) fun _ s' hq => wpAny_pure (wpAny_pure hq))
  show wpAny _ _ (assign (.Name y py) X.env (.ref L)) _ _ _
  refine wpAny_assign_Name (store_ok2 (v := V.ref L) I' hN hy (.inl hyl) rfl (fun s2 I2 ⟨a, sb, ha⟩ => ?_) (.inr hyl))
  obtain ⟨f0, f1, f2, f3, f4, f5⟩ := f
  have haC : C ≠ a := by
    rcases ha with z | z
    · rw [z]; exact f1
    · exact fun e => f4 y a z e.symm
  refine ⟨m, hn.sameBut sb haC, fun h3 sb3 => ?_⟩
  exact ⟨_, H', I2.turned (t' := s2.toks) (fun b o hb e => (sb3.2 b hb).trans e) f0 f1 f3 f4 f5, q⟩
theorem sw_true {elt : Expr} {gs : List Comprehension} {scope : Scope} {pos py : Pos} {y : Str} {l : Nat} {env : Env} (hk : env.scope.kind = .function) (hy : env.scope.names.lookup y = some .local) (hl : (py.line == pos.line) = true)
    (ha : (scope.names.any fun (n, k) => n == y && (k == .local || k == .cell)) = false) : swapsWith (.ListComp elt gs scope pos) (some (.Name y py)) l env = pure true := by
  have ky : env.kindOf y = some .local := hy
  have hb : env.blockKind = .function := by unfold Env.blockKind; rw [hk]; rfl
  unfold swapsWith
  simp only [hb, ky, ha, Expr.pos, hl]
  rfl
end

/-! ### the forms one uses -/
/-- over a range: Pv by the turn and the heap (the new list at D within) -/
theorem lc_range {lo : Int} {n : Nat} {g : TG} {tt : TT} {te : TE} {vs : List Nat} {σ : St} {H1 : Hp} {D : Addr} {Qd : Hp → Prop} (Pv : Nat → Hp → Prop) (h0 : Pv 0 (upd H1 D (.lst [])))
    (hs : ∀ i H, i < n → Pv i H → g (.int (lo + i)) (wipe σ vs) H fun σ2 H2 => wipe σ2 vs = wipe σ vs ∧ tt σ2 H2 fun b H3 =>
      if b = true then te σ2 H3 fun y H4 => ∃ acc, H4 D = some (.lst acc) ∧ acc.length < sizeLine ∧ Pv (i + 1) (upd H4 D (.lst (acc ++ [y]))) else Pv (i + 1) H3) (hd : ∀ H, Pv n H → Qd H) :
    ∃ W : Nat → Nat → Hp → Prop, (∃ m, W 0 m (upd H1 D (.lst []))) ∧ ∀ i m H, W i m H →
      ((Itr lo n).stop i H ∧ Qd H) ∨ ((Itr lo n).go i H ∧ ∃ Nx : Hp → Prop, (∀ H', Nx H' → ∃ m', m' < m ∧ W (i + 1) m' H') ∧ ∀ x H', (Itr lo n).yld i H x H' → g x (wipe σ vs) H' fun σ2 H2 => wipe σ2 vs = wipe σ vs ∧ tt σ2 H2 fun b H3 =>
        if b = true then te σ2 H3 fun y H4 => ∃ acc, H4 D = some (.lst acc) ∧ acc.length < sizeLine ∧ Nx (upd H4 D (.lst (acc ++ [y]))) else Nx H3) := by
  refine ⟨fun i m H => m = n - i ∧ i ≤ n ∧ Pv i H, ⟨n, by simp, Nat.zero_le _, h0⟩, ?_⟩
  rintro i m H ⟨rfl, hi, p⟩
  by_cases hlt : i < n
  · refine .inr ⟨hlt, Pv (i + 1), fun H' p' => ⟨n - (i + 1), by omega, rfl, hlt, p'⟩, fun x H' y => ?_⟩
    obtain ⟨e, y⟩ := y
    subst e y
    exact hs i _ hlt p
  · have e : i = n := by omega
    subst e
    exact .inl ⟨Nat.le_refl _, hd H p⟩
/-- over a list that the block leaves as it is -/
theorem lc_list {K : PySem.W.Frag} {a : Addr} {xs : List V} {g : TG} {tt : TT} {te : TE} {vs : List Nat} {σ : St} {H1 : Hp} {D : Addr} {Qd : Hp → Prop} (Pv : Nat → Hp → Prop) (h0 : Pv 0 (upd H1 D (.lst []))) (hl : ∀ i H, i ≤ xs.length → Pv i H → SqL K H a xs)
    (hs : ∀ i x H, xs[i]? = some x → Pv i H → g x (wipe σ vs) H fun σ2 H2 => wipe σ2 vs = wipe σ vs ∧ tt σ2 H2 fun b H3 =>
      if b = true then te σ2 H3 fun y H4 => ∃ acc, H4 D = some (.lst acc) ∧ acc.length < sizeLine ∧ Pv (i + 1) (upd H4 D (.lst (acc ++ [y]))) else Pv (i + 1) H3) (hd : ∀ H, Pv xs.length H → Qd H) :
    ∃ W : Nat → Nat → Hp → Prop, (∃ m, W 0 m (upd H1 D (.lst []))) ∧ ∀ i m H, W i m H →
      ((Itl K a).stop i H ∧ Qd H) ∨ ((Itl K a).go i H ∧ ∃ Nx : Hp → Prop, (∀ H', Nx H' → ∃ m', m' < m ∧ W (i + 1) m' H') ∧ ∀ x H', (Itl K a).yld i H x H' → g x (wipe σ vs) H' fun σ2 H2 => wipe σ2 vs = wipe σ vs ∧ tt σ2 H2 fun b H3 =>
        if b = true then te σ2 H3 fun y H4 => ∃ acc, H4 D = some (.lst acc) ∧ acc.length < sizeLine ∧ Nx (upd H4 D (.lst (acc ++ [y]))) else Nx H3) := by
  refine ⟨fun i m H => m = xs.length - i ∧ i ≤ xs.length ∧ Pv i H, ⟨xs.length, by simp, Nat.zero_le _, h0⟩, ?_⟩
  rintro i m H ⟨rfl, hi, p⟩
  have q := hl i H hi p
  by_cases hlt : i < xs.length
  · refine .inr ⟨⟨xs, xs[i], q, by simp [hlt]⟩, Pv (i + 1), fun H' p' => ⟨xs.length - (i + 1), by omega, rfl, hlt, p'⟩, fun x H' y => ?_⟩
    obtain ⟨e, y⟩ := y
    subst e
    exact hs i x _ (y xs q) p
  · have e : i = xs.length := by omega
    subst e
    exact .inl ⟨⟨xs, q, Nat.le_refl _⟩, hd H p⟩
def blkC (N : List Str) (sc scope : Scope) (own : List (Str × Nat)) : Bool :=
  (match scope.kind with | .function => true | _ => false) && (scope.names.all fun y => decide (scope.names.lookup y.1 = some y.2)) && (own.all fun p => decide (N[p.2]? = some p.1)) &&
    (scope.names.all fun y => match y.2 with
      | .free => (match sc.names.lookup y.1 with | some .cell => true | some .free => true | _ => false)
      | .local => decide (y.1 ∈ own.map (·.1)) || decide (y.1 ∉ N)
      | .cell => decide (y.1 ∈ own.map (·.1)) || decide (y.1 ∉ N)
      | _ => true)
theorem blkOk_by {N : List Str} {sc scope : Scope} {own : List (Str × Nat)} (h : blkC N sc scope own = true) : BlkOk N sc scope own := by
  unfold blkC at h
  simp only [Bool.and_eq_true, List.all_eq_true, decide_eq_true_eq] at h
  obtain ⟨⟨⟨h1, h2⟩, h3⟩, h4⟩ := h
  refine ⟨?_, h2, h3, fun y hy e => ?_, fun y hy e => ?_⟩
  · split at h1
    · assumption
    · cases h1
  · have q := h4 y hy
    simp only [e] at q
    split at q <;> first | exact .inl (by assumption) | exact .inr (by assumption) | cases q
  · have q := h4 y hy
    rcases e with e | e <;> (simp only [e, Bool.or_eq_true, decide_eq_true_eq] at q; exact q)
end L2

namespace L2
open PySem PySem.Spec PyProof.Rows


section
variable {prog : Program} {w : World} {A : Around} {R : Result → Shared → Prop} {s : Shared} {elt t0 i0 t1 i1 : Expr} {ifs0 ifs1 : List Expr} {scope : Scope} {pos : Pos} {it acc : Value} {env : Env}
end

section
variable {X : Cx}
end
end L2

namespace L2
open PySem PySem.Spec PyProof.Rows

/-! ### lists of pairs as tables -/
section
variable {κ : Type} [DecidableEq κ]



end


/-! ### a tracked dict, its keys ints and texts or tuples of these -/


section
variable {P : Program} {w : World} {H : Hp} {h : Heap} {a : Addr}
end



section
variable {X : Cx} {pins : List (Addr × Obj)} {σ : St} {H : Hp} {s : Shared} {a : Addr} {y v : V} {u r : Value} {o : Option V} {A : Around} {E : Value → Shared → Prop}


end

section
variable {X : Cx} {pins : List (Addr × Obj)} {σ : St} {H : Hp} {s : Shared} {a : Addr} {kvs : List (Key × V)} {k : Key} {u : Value} {A : Around} {E : Value → Shared → Prop}
end


/-! ### readings and rules -/



section
variable {X : Cx} {o i e value : Expr} {pos pos' tpos : Pos} {td ty tv : TE}
end


/-! ### displays -/
section
variable {X : Cx} {pos : Pos}
end




/-! ### methods -/


section
variable {X : Cx} {pins : List (Addr × Obj)} {σ : St} {H : Hp} {s : Shared} {a : Addr} {y d : V} {u r : Value} {o : Option V} {A : Around} {E : Value → Shared → Prop}
end

section
variable {X : Cx} {o e f : Expr} {apos cpos : Pos} {td ty tx : TE}
end

/-! ### dict(d): a copy -/
section
variable {X : Cx} {pins : List (Addr × Obj)} {σ : St} {H : Hp} {s : Shared} {a : Addr} {kvs : List (Key × V)} {A : Around} {E : Value → Shared → Prop}
end


section
variable {X : Cx} {pins : List (Addr × Obj)} {σ : St} {H : Hp} {s : Shared} {a : Addr} {y : V} {u : Value} {A : Around} {E : Value → Shared → Prop}
end
end L2

namespace L2
open PySem PySem.Spec PyProof.Rows


section
variable {prog : Program} {w : World} {A : Around} {E : Value → Shared → Prop}


end

section
variable {X : Cx}
end
end L2

namespace L2
open PySem PySem.Spec PyProof.Rows


section
variable {X : Cx} {pins : List (Addr × Obj)} {σ : St} {H : Hp} {s : Shared} {h' : Heap}
/-- several records of ours have turned -/
theorem Inv.turnedL {t' : Nat} {ch : List Addr} (I : Inv X pins σ H s) (k : ∀ b o, b ∉ ch → s.heap.get? b = some o → h'.get? b = some o) (hf : ∀ b ∈ ch, FpOk X pins H b) : Inv X pins σ H { s with heap := h', toks := t' } := by
  have nit : ∀ b u, H b = some u → b ∉ ch := fun b u e z => by
    have q := (hf b z).1
    rw [q] at e; cases e
  refine I.step (g' := s.gens) (d' := s.drawn) (ch := ch) (fun b hb => ⟨(hf b hb).2.2.2.1, (hf b hb).2.1, (hf b hb).2.2.2.2.1, (hf b hb).2.2.2.2.2⟩) (fun b o _ _ hc e _ => k b o hc e) (fun b o _ _ hc e _ => ⟨o.slots, k b o hc e⟩)
    (fun _ _ _ _ n => n) (fun b o hc e => ⟨o, k b o hc e⟩) (fun _ _ e => e) (fun _ _ _ e => e) (fun b ps e => ⟨#[], by rw [e]; simp⟩) (fun m hm => ?_) (fun b u e => ?_) I.bare
  · obtain ⟨o, es, ep, ho, r⟩ := hm
    exact ⟨o, es, ep, k _ o (fun z => (hf _ z).2.1 rfl) ho, r⟩
  · refine (I.hok b u e).stay (fun c v hc q => k c v ?_ q) (fun _ q => q) fun _ _ q => q
    rcases hc with z | z
    · rw [z]; exact nit b u e
    · exact nit c _ z
/-- .. and one new object is laid -/
theorem Inv.turnedNew {t' : Nat} {ch : List Addr} {T : Addr} {ob : HO} (I : Inv X pins σ H s) (k : ∀ b o, b ∉ ch → s.heap.get? b = some o → h'.get? b = some o) (hf : ∀ b ∈ ch, FpOk X pins H b) (hT : s.heap.objs.size ≤ T)
    (new : ObjOk X.prog X.w (upd H T ob) h' T ob) : Inv X pins σ (upd H T ob) { s with heap := h', toks := t' } := by
  have hn : H T = none := I.hok.fresh hT
  have nit : ∀ b u, H b = some u → b ∉ ch := fun b u e z => by
    have q := (hf b z).1
    rw [q] at e; cases e
  refine I.step (g' := s.gens) (d' := s.drawn) (ch := ch) (fun b hb => ⟨(hf b hb).2.2.2.1, (hf b hb).2.1, (hf b hb).2.2.2.2.1, (hf b hb).2.2.2.2.2⟩) (fun b o _ _ hc e _ => k b o hc e) (fun b o _ _ hc e _ => ⟨o.slots, k b o hc e⟩)
    (fun b o _ e n => ?_) (fun b o hc e => ⟨o, k b o hc e⟩) (fun b xs e => ?_) (fun b o u e => ?_) (fun b ps e => ⟨#[], ?_⟩) (fun m hm => ?_) (fun b u e => ?_) I.bare
  · rw [upd_ne (Nat.ne_of_lt (Nat.lt_of_lt_of_le (Heap.lt_size e) hT))]; exact n
  · rw [upd_ne (ne_of_none e hn)]; exact e
  · rw [upd_ne (ne_of_none e hn)]; exact e
  · rw [upd_ne (ne_of_none e hn), e]; simp
  · obtain ⟨o, es, ep, ho, r⟩ := hm
    exact ⟨o, es, ep, k _ o (fun z => (hf _ z).2.1 rfl) ho, r⟩
  · by_cases hb : b = T
    · subst hb
      rw [upd_same] at e
      cases e
      exact new
    · rw [upd_ne hb] at e
      refine (I.hok b u e).stay (fun c v hc q => k c v ?_ q) (fun c q => by rw [upd_ne (ne_of_none q hn)]; exact q) fun c xs q => by rw [upd_ne (ne_of_none q hn)]; exact q
      rcases hc with z | z
      · rw [z]; exact nit b u e
      · exact nit c _ z

/-! ### locking a thing while a statement runs -/
end
section
variable {X : Cx}

/-! ### one iterator just laid -/
end

/-! ### range with a step -/
section
variable {X : Cx} {tg : Expr}
end

/-! ### reversed(list) -/
section
variable {X : Cx} {tg : Expr}
end

/-! ### a str -/

/-! ### a dict's keys: any dict's entries -/
section
variable {prog : Program} {w : World} {A : Around} {E : Value → Shared → Prop} {s : Shared}
end

/-! ### a locked dict -/
section
variable {X : Cx} {pins : List (Addr × Obj)} {σ : St} {H : Hp} {s : Shared} {d : Addr} {o : Obj}
end

section
variable {P : Program} {w : World} {K : PySem.W.Frag} {tg : Expr} {d : Addr} {o : Obj} {es : Array DictEntry} {ep : Nat}
end

/-! ### for k in d, d.keys(), d.values(), d.items() -/
section
variable {X : Cx} {tg e : Expr} {td : TE} {apos cpos : Pos}
end

/-! ### enumerate(list) -/
/-! ### zip(list, list) -/
theorem boot_zip5 : bootBuiltins "zip" = some (.type "zip") := by decide +kernel
/-- the lists at a and b as they stand at each turn, the items in new pairs -/
def Itz (K : PySem.W.Frag) (a b : Addr) : It :=
  ⟨fun i H => ∃ (xs ys : List V) (x y : V), SqL K H a xs ∧ SqL K H b ys ∧ xs[i]? = some x ∧ ys[i]? = some y,
    fun i H v H' => ∃ T x y, v = .ref T ∧ H T = none ∧ H' = upd H T (.tup [x, y]) ∧ (∀ xs, SqL K H a xs → xs[i]? = some x) ∧ ∀ ys, SqL K H b ys → ys[i]? = some y,
    fun i H => ∃ xs ys : List V, SqL K H a xs ∧ SqL K H b ys ∧ (xs.length ≤ i ∨ ys.length ≤ i)⟩
theorem turn_zip {P : Program} {w : World} {K : PySem.W.Frag} {elts : List Expr} {kk : Nat} {tpos : Pos} {a b z TI TO i1 i2 : Addr} (D : ZipApart z TI TO i1 i2 a b) :
    Turn P w K (.Tuple elts kk tpos) (Itz K a b) [z, TI, TO, i1, i2] z (fun i h => IsZip h z TI TO .none ∧ IsPair h TI (.ref i1) (.ref i2) ∧ (∃ x y, IsPair h TO x y) ∧ h.IsListIter i1 a i ∧ h.IsListIter i2 b i) where
  mem := by simp
  obj := fun i h st c hc => by
    obtain ⟨hz, hTI, ⟨x, y, hTO⟩, ⟨o1, e1, _, d1⟩, ⟨o2, e2, _, d2⟩⟩ := st
    have e' : c = z ∨ c = TI ∨ c = TO ∨ c = i1 ∨ c = i2 := by simpa using hc
    rcases e' with q | q | q | q | q
    · rw [q]; exact ⟨_, hz, fun v q => nomatch q⟩
    · rw [q]; exact ⟨_, hTI, fun v q => nomatch q⟩
    · rw [q]; exact ⟨_, hTO, fun v q => nomatch q⟩
    · rw [q]; exact ⟨o1, e1, fun v q => by rw [d1] at q; cases q⟩
    · rw [q]; exact ⟨o2, e2, fun v q => by rw [d2] at q; cases q⟩
  keep := fun i h h' st k => by
    obtain ⟨hz, hTI, ⟨x, y, hTO⟩, h1, h2⟩ := st
    exact ⟨k z (by simp) _ hz, k TI (by simp) _ hTI, ⟨x, y, k TO (by simp) _ hTO⟩, h1.at fun o q => k i1 (by simp) o q, h2.at fun o q => k i2 (by simp) o q⟩
  item := by
    intro X hP hw hK hc i pins s σ H E I hf st hg
    subst hP hw hK
    obtain ⟨hz, hTI, ⟨x0, y0, hTO⟩, h1, h2⟩ := st
    obtain ⟨xs, ys, x, y, hqx, hqy, hx, hy⟩ := hg
    obtain ⟨its, rv, p, _⟩ := I.list hqx
    obtain ⟨its2, rv2, p2, _⟩ := I.list hqy
    obtain ⟨u, hu, ru⟩ := rv.get hx
    obtain ⟨u2, hu2, ru2⟩ := rv2.get hy
    have hzl : z < s.heap.objs.size := Heap.lt_size hz
    refine wpAny_pyNext_zip_item D hz hTI hTO h1 h2 p.isList p2.isList (x := u) (y := u2) (by simpa using hu) (by simpa using hu2) fun h' z' TO' h1' h2' hT hsz hk => ?_
    refine ⟨_, rfl, wpAny_letOwnedTupleGo_zip (s := { s with heap := h' }) z' fun h'' z'' sb => ?_⟩
    have hT2 : h''.get? s.heap.objs.size = some { cls := .type "tuple", data := .seq #[u, u2] } := (sb.2 _ (Nat.ne_of_gt hzl)).trans hT
    have new : ObjOk X.prog X.w (upd H s.heap.objs.size (.tup [x, y])) h'' s.heap.objs.size (.tup [x, y]) :=
      ⟨by show 2 ≤ sizeLine; decide, [u, u2], .cons ru (.cons ru2 .nil), ⟨_, hT2, rfl, _, rfl⟩⟩
    have I1 : Inv X pins σ (upd H s.heap.objs.size (.tup [x, y])) { s with heap := h'' } :=
      I.turnedNew (t' := s.toks) (ch := [z, TI, TO, i1, i2]) (fun c o hb q => (sb.2 c (fun q' => hb (by simp [q']))).trans (hk c o (fun q' => hb (by simp [q'])) (fun q' => hb (by simp [q'])) (fun q' => hb (by simp [q'])) (fun q' => hb (by simp [q'])) q)) hf (Nat.le_refl _) new
    refine ⟨.ref s.heap.objs.size, _, I1, rfl, ⟨_, x, y, rfl, I.hok.fresh (Nat.le_refl _), rfl, fun l hl => by rw [I.list_inj hl hqx]; exact hx, fun l hl => by rw [I.list_inj hl hqy]; exact hy⟩, ⟨z'', ?_, ⟨u, u2, ?_⟩, ?_, ?_⟩, fun c hcm => ?_⟩
    · exact (sb.2 _ D.TIz).trans (hk _ _ D.TIz D.TITO D.TIi1 D.TIi2 hTI)
    · exact (sb.2 _ D.TOz).trans TO'
    · exact h1'.at fun o q => (sb.2 _ D.i1z).trans q
    · exact h2'.at fun o q => (sb.2 _ D.i2z).trans q
    · have hlt : c < s.heap.objs.size := by
        have e' : c = z ∨ c = TI ∨ c = TO ∨ c = i1 ∨ c = i2 := by simpa using hcm
        rcases e' with q | q | q | q | q
        · rw [q]; exact hzl
        · rw [q]; exact Heap.lt_size hTI
        · rw [q]; exact Heap.lt_size hTO
        · rw [q]; obtain ⟨_, e1, _⟩ := h1; exact Heap.lt_size e1
        · rw [q]; obtain ⟨_, e2, _⟩ := h2; exact Heap.lt_size e2
      rw [upd_ne (Nat.ne_of_lt hlt)]
      exact (hf c hcm).1
  done := by
    intro X hP hw hK hc i pins s σ H E I hf st hg
    subst hP hw hK
    obtain ⟨hz, hTI, ⟨x0, y0, hTO⟩, h1, h2⟩ := st
    obtain ⟨xs, ys, hqx, hqy, hend⟩ := hg
    obtain ⟨its, rv, p, _⟩ := I.list hqx
    obtain ⟨its2, rv2, p2, _⟩ := I.list hqy
    have l1 := rv.length
    have l2 := rv2.length
    have he : its.toArray[i]? = none ∨ its2.toArray[i]? = none := by
      rcases hend with q | q
      · exact .inl (by simp; omega)
      · exact .inr (by simp; omega)
    exact wpAny_pyNext_zip_end (I.ok.hd hc) D hz hTI hTO h1 h2 p.isList p2.isList he fun h' hk => ⟨rfl, I.turnedL (t' := s.toks) (ch := [z, TI, TO, i1, i2]) (fun c o hb q =>
      hk c o (fun q' => hb (by simp [q'])) (fun q' => hb (by simp [q'])) (fun q' => hb (by simp [q'])) (fun q' => hb (by simp [q'])) q) hf⟩
  self := fun A i s Q E st h => wpAny_pyIter_zip st.1 h
def iZip (K : PySem.W.Frag) (ta : TA) : TI := fun σ H R => ta σ H fun vs H1 => ∃ a b xs ys, vs = [.ref a, .ref b] ∧ SqL K H1 a xs ∧ SqL K H1 b ys ∧ R (Itz K a b) H1
theorem pi_zip {X : Cx} {e e2 : Expr} {ta : TA} {p pos tpos : Pos} {elts : List Expr} {kk : Nat} (hg : Gl X "zip") (hm : X.mg "zip" = none) (ha : PA X [e, e2] ta)
    (hs : starEach [e, e2] X.env = (false, eval e X.env) :: starEach [e2] X.env := by rfl) (hpl : (backTo pos (starEach [e2] X.env)).any (·.1) = false := by rfl) :
    PI X (.Tuple elts kk tpos) (.Call (.Name "zip" p) [e, e2] [] pos) (iZip X.K ta) := by
  intro pins s σ H R I h
  refine Call_ (ld_blt I hg hm boot_zip5 (PyProof.Rows.callWith_type1 (thn (ha pos pins s σ H _ I h) fun us s1 ⟨vs, H1, I1, r1, q1⟩ => ?_) hs hpl))
  obtain ⟨a, b, xs, ys, ex, hqx, hqy, q⟩ := q1
  subst ex
  cases r1 with
  | cons r rr =>
    cases rr with
    | cons r' rr =>
      cases rr
      cases r
      cases r'
      obtain ⟨its, rv, p1, _⟩ := I1.list hqx
      obtain ⟨its2, rv2, p2, _⟩ := I1.list hqy
      have la : a < s1.heap.objs.size := p1.lt
      have lb : b < s1.heap.objs.size := p2.lt
      refine call_zip_2 p1.isList p2.isList fun h' hz hTI hTO h1 h2 hsz hk => wpAny_pyIter_zip hz ?_
      have I2 : Inv X pins σ H1 { s1 with heap := h' } := I1.kept (t' := s1.toks) hk
      refine ⟨s1.heap.objs.size + 4, [s1.heap.objs.size + 4, s1.heap.objs.size + 2, s1.heap.objs.size + 3, s1.heap.objs.size, s1.heap.objs.size + 1], _, _, H1, rfl, I2, turn_zip (PySem.W.ktu_apart s1.heap.objs.size a b la lb), ⟨hz, hTI, ⟨_, _, hTO⟩, h1, h2⟩, fun c hcm => ?_, q⟩
      have e' : c = s1.heap.objs.size + 4 ∨ c = s1.heap.objs.size + 2 ∨ c = s1.heap.objs.size + 3 ∨ c = s1.heap.objs.size ∨ c = s1.heap.objs.size + 1 := by simpa using hcm
      have hle : s1.heap.objs.size ≤ c := by
        rcases e' with z | z | z | z | z
        · rw [z]; exact Nat.le_add_right _ _
        · rw [z]; exact Nat.le_add_right _ _
        · rw [z]; exact Nat.le_add_right _ _
        · rw [z]; exact Nat.le_refl _
        · rw [z]; exact Nat.le_add_right _ _
      exact I1.fpOk hle (I1.hok.fresh hle)
end L2

section 
namespace Bits
open PySem PyProof.Rows








end Bits
end 

section 
namespace TL
open PySem PySem.Builtin PySem.Builtin.Str PySem.StrLaws


/-! ### the list functions -/




/-! ### the model's split and partition are these -/




/-! ### computing spl and par -/


/-! ### digits -/

/-! ### words: x.split() -/
end TL
end 

namespace L2
open PySem PySem.Spec PyProof.Rows




section
variable {X : Cx} {pins : List (Addr × Obj)} {σ : St} {H : Hp} {s : Shared} {Q : VK}
end

section
variable {X : Cx}





/-! ### of a text alone -/

/-! ### of a text and a text -/

end

section
variable {X : Cx} {o e : Expr} {to te : TE}

end
end L2

namespace L2
open PySem PySem.Spec PyProof.Rows

section
variable {X : Cx}
end

/-! ### slices of a text -/


end L2

namespace Att
open PySem PySem.W PySem.Calls PyProof.Rows

/-! ### the script -/



/-! ### the attachment: holds_open's last premise (the goal 'hc' behind k_head) from a wpAny of the law's body -/



/-! ### rules over ANY heap (no ledger) from facts about the written part K: the library's own take a ledger (News) for what they write -/
section
variable {prog : Program} {w : World} {A : Around} {E : Value → Shared → Prop} {s : Shared} {K : Frag}





/-! the whole heap as the ledger: makes every rule that writes through a ledger a rule over any heap -/

end
end Att

namespace L2
open PySem PySem.Spec PyProof.Rows



end L2

namespace L2
open PySem PySem.Spec PyProof.Rows


end L2

/- THE LAST THEOREM (shape; LID, My.* are yours):
   My.Adr: a structure of the addresses that your layer names (classes, functions); My.Txt K t: a structure (Prop) of the equations over K;
   My.txt_mk : {K} {implicit addresses ..} (e1 : nsIn K mainGlobals "law" = some (some (.ref f))) (e2 : K.lookup f = some ⟨oc, od, .func (fnOf "law" "law" params body scope dV kV doc pm an cdv ct), sl⟩) (e3 : codeIn K cdv "law" = true) .. : ∃ t, My.Txt K t

set_option maxRecDepth 100000 in
set_option maxHeartbeats 0 in
theorem PySem.Challenge.cw_LID_holds : PySem.Challenge.rw_LID.Holds := by
  w_on; o_law; k_head; (case hw => w_witness2)
  k_fill
  refine L2.walk_of (l := PySem.Challenge.rw_LID) (n := 63) (k := 40) (x := "script") (CX := fun w => ..) (sp := fun _ => My.sp_law) rfl (by decide) rfl ⟨rfl, by decide, by decide⟩ (fun w h Y => PySem.W.kIn_of Y) ?F ?S ?C
  case F =>
    intro w mg fa h KX G hmg
    have T : ∃ t, My.Txt (L2.KOf KX) t := by
      dsimp only [L2.KOf]                          -- K must stand as «<heap const> w.params» for k_is
      refine' My.txt_mk ?e1 ?e2 ?e3 ..
      (case e1 => PySem.W.k_is)                    -- in the order: a name -> its address -> its object -> its parts
      (case e2 => PySem.W.k_is)
      ..
    obtain ⟨t, T⟩ := T
    have e0 := hmg.symm.trans (PySem.W.mg_of KX G T.law)
    cases e0                                       -- fa is the law's own address
    exact ⟨_, fun s u => .of_eq rfl, fun base kb nb => My.law_fn T kb nb⟩     -- if «.of_eq rfl» comes too early: refine' ⟨_, ?b, fun base kb nb => My.law_fn T kb nb⟩; exact fun s u => .of_eq rfl
  case S => exact fun w H a ns hl hO hS => ..
  case C => exact ..
(the tactic k_is has no namespace: write k_is) -/

/-! SHORT WORDS over the layer: a def of the text, its body, what a loop and a test want. -/
namespace L2
open PySem PySem.Spec PyProof.Rows

/-! ### the text by places -/
/-- the j-th statement of a class's body -/
def inClass (s : Stmt) (j : Nat) : Stmt := match s with
  | .ClassDef _ _ _ body _ _ _ _ _ _ _ => body.getD j (.Pass ⟨0, 0, 0, 0⟩)
  | _ => .Pass ⟨0, 0, 0, 0⟩
def defArgs (s : Stmt) : Arguments := match s with
  | .FunctionDef _ a _ _ _ _ _ _ _ _ => a
  | _ => { posonlyargs := [], args := [], vararg := none, kwonlyargs := [], kw_defaults := [], kwarg := none, defaults := [] }
def defBody (s : Stmt) : List Stmt := match s with
  | .FunctionDef _ _ b _ _ _ _ _ _ _ => b
  | _ => []
def defScope (s : Stmt) : Scope := match s with
  | .FunctionDef _ _ _ _ _ _ sc _ _ _ => sc
  | _ => { kind := .function, names := [], isGenerator := false, isCoroutine := false }

/-! ### no exception leaves a def -/
abbrev CX0 : CXT := fun _ _ _ _ _ _ => False
abbrev E0 : XK := fun _ _ _ => False
theorem pass0 {X : Cx} : Passes CX0 X E0 := fun _ _ _ _ _ _ _ h => h.elim

/-! ### a def (or method) of the text as it stands behind the top -/
structure Fun (K : PySem.W.Frag) (x qual : Str) (st : Stmt) (f : Addr) (fd : FuncData) : Prop where
  ex : ∃ (oc : Value) (od : Option Addr) (kV doc pm : Value) (an : Option Addr) (cdv ct : Value) (osl : Array (Option Value)),
    fd = PySem.W.fnOf x qual (defArgs st) (defBody st) (defScope st) .none kV doc pm an cdv ct ∧ K.lookup f = some ⟨oc, od, .func fd, osl⟩ ∧ PySem.W.codeIn K cdv qual = true
  kp : PySem.W.keepIn K (.ref f) = true
section
variable {P : Program} {w : World} {K : PySem.W.Frag} {mg : Str → Option Value} {base : Heap}
/-- THE RULE for a def: its body as a term of rules, and the reading of that term -/
theorem Fun.ok {x qual : Str} {st : Stmt} {f : Addr} {fd : FuncData} {N ps : List Str} {k : Nat} {sp : Sp} (F : Fun K x qual st f fd) (S : FnScope N ps (defScope st)) (len : ∀ vs H Q E, sp vs H Q E → vs.length = ps.length)
    (hbody : ∀ (cdv : Value) (A : Around) (outer : List Env) (s : Shared) (H : Hp) (vs : List V) (Q : VK) (E : XK), Room k (A.deeper (envOfC qual (defScope st) s.heap.objs.size f cdv)) → sp vs H Q E →
      ∃ t, PSs (cxOf CX0 P w K mg base N qual (defScope st) f cdv A outer s H E).nox (defBody st) t ∧ t { nx := fun _ H' => Q .non H', rt := Q } (start N vs) H) : FnOk P w K mg base CX0 (k + 1) f fd ps sp := by
  obtain ⟨oc, od, kV, doc, pm, an, cdv, ct, osl, rfl, lk, hcd⟩ := F.ex
  refine fn_of lk hcd S len fun A outer s H vs Q E hr hsp => ?_
  obtain ⟨t, h, q⟩ := hbody cdv A outer s H vs Q E hr hsp
  exact ⟨t, h.nox, q⟩
/-- how its arguments bind (no defaults): h is «fun _ _ _ _ _ _ us hl => match us, hl with | [_, _], _ => rfl», one _ a parameter -/
theorem Fun.binds {x qual : Str} {st : Stmt} {f : Addr} {fd : FuncData} {ps : List Str} (F : Fun K x qual st f fd)
    (h : ∀ (kV doc pm : Value) (an : Option Addr) (cdv ct : Value) (us : List Value), us.length = ps.length → bindArgs (PySem.W.fnOf x qual (defArgs st) (defBody st) (defScope st) .none kV doc pm an cdv ct) ⟨us, []⟩ = pure (ps.zip us)) : Binds K fd ps [] := by
  obtain ⟨oc, od, kV, doc, pm, an, cdv, ct, osl, rfl, lk, hcd⟩ := F.ex
  exact .all (h kV doc pm an cdv ct)
end

/-! ### expressions in short: the name that stands in the i-th slot -/
section
variable {X : Cx}
theorem pv (i : Nat) {x : Str} {pos : Pos} (hN : X.N[i]? = some x := by rfl) (hv : Vis X.env.scope x := by first | exact Or.inl rfl | exact Or.inr (Or.inl rfl) | exact Or.inr (Or.inr rfl)) (hd : (x == ("__debug__" : Str)) = false := by decide)
    (hcd : (x == ("__classdict__" : Str)) = false := by decide) : PE X (.Name x pos) (tVar i) := pe_var hN hv hd hcd
end

/-! ### tests -/
theorem iteF {A B : Prop} (h : B) : if false = true then A else B := by
  rw [if_neg Bool.false_ne_true]
  exact h
theorem iteT {A B : Prop} (h : A) : if true = true then A else B := by
  rw [if_pos rfl]
  exact h

/-! ### heaps -/
/-- all that was tracked is as it was -/
def Same (H H' : Hp) : Prop := ∀ b o, H b = some o → H' b = some o
theorem Same.refl (H : Hp) : Same H H := fun _ _ h => h
theorem Same.trans {H H1 H2 : Hp} (a : Same H H1) (b : Same H1 H2) : Same H H2 := fun c o h => b c o (a c o h)
theorem Same.free {H H' : Hp} (e : Same H H') {l : Addr} (h : H' l = Option.none) : H l = Option.none := by
  cases q : H l with
  | none => rfl
  | some o =>
    rw [e l o q] at h
    cases h
theorem Same.seq {K : PySem.W.Frag} {H H' : Hp} {a : Addr} {xs : List V} (e : Same H H') (h : SqL K H a xs) : SqL K H' a xs := by
  rcases h with (h | ⟨o, h⟩) | h
  · exact .inl (.inl (e _ _ h))
  · exact .inl (.inr ⟨o, e _ _ h⟩)
  · exact .inr h

/-! ### a dict's pairs: keys that differ -/
section
variable {κ : Type} [DecidableEq κ]
theorem nd_snoc : ∀ {l : List κ} {k : κ}, l.Nodup → ¬ k ∈ l → (l ++ [k]).Nodup
  | [], k, _, _ => by simp
  | a :: r, k, h, hk => by
    obtain ⟨h1, h2⟩ := List.nodup_cons.mp h
    show (a :: (r ++ [k])).Nodup
    refine List.nodup_cons.mpr ⟨fun m => ?_, nd_snoc h2 fun m => hk (List.mem_cons.mpr (Or.inr m))⟩
    rcases List.mem_append.mp m with q | q
    · exact h1 q
    · exact hk (List.mem_cons.mpr (Or.inl (List.mem_singleton.mp q).symm))
end
/-! ### lists -/
theorem at_of {xs : List V} {z : Int} {j : Nat} {v : V} (e : z = (j : Int)) (h : xs[j]? = some v) : atI xs z = some v := by
  rw [e]
  exact atI_nat h
/-- a new instance and its __init__ leave all that was tracked as it was -/
theorem Same.made {H H1 : Hp} {x dx C : Addr} (nx : H x = Option.none) (nd : H dx = Option.none) (k : ∀ b o, (upd (upd H dx (.own x)) x (.ins C dx [])) b = some o → b ≠ x → H1 b = some o) : Same H H1 := fun b o e =>
  k b o (by rw [upd_ne (ne_of_none e nx), upd_ne (ne_of_none e nd)]; exact e) (ne_of_none e nx)
end L2
end
section
set_option Elab.async false
set_option linter.all false
set_option maxRecDepth 100000
set_option maxHeartbeats 2000000
section
set_option Elab.async false
set_option linter.all false
set_option maxRecDepth 100000
set_option maxHeartbeats 2000000
namespace L2
open PySem PySem.Spec PyProof.Rows
open PySem.W (WData Codec OpenSpec Well WellAll ReadsW ReadsAllW)
/-! ### an answer as data -/
mutual
/-- x stands for the datum d, lists and tuples all the way -/
inductive Dw (K : PySem.W.Frag) (H : Hp) : V → WData → Prop
  | non : Dw K H .non .none
  | bl (b : Bool) : Dw K H (.bl b) (.bool b)
  | int (i : Int) : Dw K H (.int i) (.int i)
  | str (x : Str) : Dw K H (.str x) (.str x)
  | byt (b : Array UInt8) : Dw K H (.byt b) (.bytes b.toList)
  | lst {a : Addr} {xs : List V} {ds : List WData} : SqL K H a xs → DwAll K H xs ds → Dw K H (.ref a) (.list ds)
  | tup {a : Addr} {xs : List V} {ds : List WData} : SqT K H a xs → DwAll K H xs ds → Dw K H (.ref a) (.tuple ds)
inductive DwAll (K : PySem.W.Frag) (H : Hp) : List V → List WData → Prop
  | nil : DwAll K H [] []
  | cons {v : V} {vs : List V} {d : WData} {ds : List WData} : Dw K H v d → DwAll K H vs ds → DwAll K H (v :: vs) (d :: ds)
end
theorem dw_ints {K : PySem.W.Frag} {H : Hp} : ∀ ns : List Int, DwAll K H (ns.map V.int) (ns.map WData.int)
  | [] => .nil
  | n :: r => .cons (.int n) (dw_ints r)
theorem ints_dw {K : PySem.W.Frag} {H : Hp} : ∀ (ns : List Int) (xs : List V), DwAll K H xs (ns.map WData.int) → xs = ns.map V.int
  | [], xs, h => by
    cases h
    rfl
  | n :: r, xs, h => by
    cases h with
    | cons h1 h2 =>
      cases h1
      rw [ints_dw r _ h2] <;> rfl
section
variable {P : Program} {w : World} {K : PySem.W.Frag} {H : Hp} {h : Heap} {R : PySem.W.WRecords} {cl : Str → Option Addr}
theorem sqL_at {a : Addr} {xs : List V} (hok : HOk P w H h) (KX : K.In h) (q : SqL K H a xs) : ∃ (its : List Value) (o : Obj) (n : Nat), Vals xs its ∧ h.get? a = some o ∧ o.cls = .type "list" ∧ o.data = .seq its.toArray n := by
  rcases q with q | ⟨o, its, n, e, hc, _, hd, _, hv⟩
  · obtain ⟨_, its, n, hv, e⟩ := (show ObjOk P w H h a (.lst xs) from q.ok hok)
    exact ⟨its, _, n, hv, e, rfl, rfl⟩
  · exact ⟨its.toList, o, n, hv, KX _ _ e, hc, by simp [hd]⟩
theorem sqT_at {a : Addr} {xs : List V} (hok : HOk P w H h) (KX : K.In h) (q : SqT K H a xs) : ∃ (its : List Value) (o : Obj) (n : Nat), Vals xs its ∧ h.get? a = some o ∧ o.cls = .type "tuple" ∧ o.data = .seq its.toArray n := by
  rcases q with q | ⟨o, its, n, e, hc, hd, _, hv⟩
  · obtain ⟨_, its, hv, o, e, hc, n, hd⟩ := (show ObjOk P w H h a (.tup xs) from q.ok hok)
    exact ⟨its, o, n, hv, e, hc, hd⟩
  · exact ⟨its.toList, o, n, hv, KX _ _ e, hc, by simp [hd]⟩
mutual
theorem Dw.reads (hok : HOk P w H h) (KX : K.In h) : ∀ (d : WData) (v : V) (u : Value), Dw K H v d → RelV v u → ∃ as, ReadsW R cl h u d as
  | .none, _, _, x, r => by
    cases x
    cases r
    exact ⟨_, ReadsW.none⟩
  | .bool b, _, _, x, r => by
    cases x
    cases r
    exact ⟨_, ReadsW.bool b⟩
  | .int i, _, _, x, r => by
    cases x
    obtain ⟨t, rfl⟩ := r
    exact ⟨_, ReadsW.int i t⟩
  | .str s, _, _, x, r => by
    cases x
    obtain ⟨t, rfl⟩ := r
    exact ⟨_, ReadsW.str s t⟩
  | .bytes b, _, _, x, r => by
    cases x
    obtain ⟨t, rfl⟩ := r
    exact ⟨_, ReadsW.bytes _ t⟩
  | .list ds, _, _, x, r => by
    cases x with
    | lst hs ha =>
      cases r
      obtain ⟨its, o, n, rv, ho, hc, hd⟩ := sqL_at hok KX hs
      obtain ⟨as, hr⟩ := Dw.readsAll hok KX ds _ its ha rv
      exact ⟨_, ReadsW.list ho hc hd hr⟩
  | .tuple ds, _, _, x, r => by
    cases x with
    | tup hs ha =>
      cases r
      obtain ⟨its, o, n, rv, ho, hc, hd⟩ := sqT_at hok KX hs
      obtain ⟨as, hr⟩ := Dw.readsAll hok KX ds _ its ha rv
      exact ⟨_, ReadsW.tuple ho hc hd hr⟩
  | .float _, _, _, x, _ => by cases x
  | .dict _, _, _, x, _ => by cases x
  | .bytearray _, _, _, x, _ => by cases x
  | .set _, _, _, x, _ => by cases x
  | .frozenset _, _, _, x, _ => by cases x
  | .obj _ _, _, _, x, _ => by cases x
theorem Dw.readsAll (hok : HOk P w H h) (KX : K.In h) : ∀ (ds : List WData) (vs : List V) (us : List Value), DwAll K H vs ds → Vals vs us → ∃ as, ReadsAllW R cl h us ds as
  | [], _, _, x, r => by
    cases x
    cases r
    exact ⟨_, ReadsAllW.nil⟩
  | d :: ds, _, _, x, r => by
    cases x with
    | cons h1 h2 =>
      cases r with
      | cons r1 r2 =>
        obtain ⟨as, q1⟩ := Dw.reads hok KX d _ _ h1 r1
        obtain ⟨bs, q2⟩ := Dw.readsAll hok KX ds _ _ h2 r2
        exact ⟨_, ReadsAllW.cons q1 q2⟩
end
end
/-! ### the arguments -/
mutual
/-- data that a codec tells -/
def plW : WData → Bool
  | .none => true
  | .bool _ => true
  | .int _ => true
  | .str _ => true
  | .bytes _ => true
  | .list xs => plWs xs
  | .tuple xs => plWs xs
  | _ => false
def plWs : List WData → Bool
  | [] => true
  | x :: r => plW x && plWs r
end
theorem plWs_map {α : Type} {f : α → WData} (h : ∀ a, plW (f a) = true) : ∀ l : List α, plWs (l.map f) = true
  | [] => rfl
  | x :: r => by
    show (plW (f x) && plWs (r.map f)) = true
    rw [h x, plWs_map h r] <;> rfl
theorem pl_enc : ∀ (c : Codec) (a : c.denote), plW (c.enc a) = true
  | .unit, _ => rfl
  | .bool, _ => rfl
  | .int _ _, _ => rfl
  | .nat _ _, _ => rfl
  | .u8, _ => rfl
  | .bytes _ _, _ => rfl
  | .text _ _ _ _, _ => rfl
  | .list _ _ c, a => plWs_map (fun x => pl_enc c x) a
  | .pair c d, a => by
    show (plW (c.enc a.1) && (plW (d.enc a.2) && true)) = true
    rw [pl_enc c a.1, pl_enc d a.2] <;> rfl
  | .triple c d e, a => by
    show (plW (c.enc a.1) && (plW (d.enc a.2.1) && (plW (e.enc a.2.2) && true))) = true
    rw [pl_enc c a.1, pl_enc d a.2.1, pl_enc e a.2.2] <;> rfl
  | .option c, none => rfl
  | .option c, some x => pl_enc c x
theorem pl_encAll : ∀ (cs : List Codec) (a : Codec.denoteAll cs), plWs (Codec.encAll cs a) = true
  | [], _ => rfl
  | c :: cs, a => by
    show (plW (c.enc a.1) && plWs (Codec.encAll cs a.2)) = true
    rw [pl_enc c a.1, pl_encAll cs a.2] <;> rfl
theorem weight_mem : ∀ {xs : List WData} {d : WData}, d ∈ xs → d.weight ≤ WData.weightAll xs
  | [], d, h => absurd h (by simp)
  | x :: r, d, h => by
    show d.weight ≤ x.weight + 1 + WData.weightAll r
    rcases List.mem_cons.mp h with e | m
    · rw [e]
      omega
    · have z := weight_mem m
      omega
def toV : Value → V
  | .none => .non
  | .bool b => .bl b
  | .int i _ => .int i
  | .str x _ => .str x
  | .bytes b _ => .byt b
  | .ref a => .ref a
  | _ => .non
/-- a value of the arguments, its objects among A -/
def OkU (A : List Addr) : Value → Prop
  | .none => True
  | .bool _ => True
  | .int _ _ => True
  | .str _ _ => True
  | .bytes _ _ => True
  | .ref a => a ∈ A
  | _ => False
theorem OkU.mono {A B : List Addr} (h : ∀ a ∈ A, a ∈ B) : ∀ {u : Value}, OkU A u → OkU B u := fun {u} x => by
  cases u with
  | ref a => exact h a x
  | none => trivial
  | bool b => trivial
  | int i t => trivial
  | str s t => trivial
  | bytes b t => trivial
  | _ => exact False.elim x
theorem relV_toV {A : List Addr} {u : Value} (x : OkU A u) : RelV (toV u) u := by
  cases u with
  | ref a => rfl
  | none => rfl
  | bool b => rfl
  | int i t => exact ⟨t, rfl⟩
  | str s t => exact ⟨t, rfl⟩
  | bytes b t => exact ⟨t, rfl⟩
  | _ => exact False.elim x
theorem vals_toV {A : List Addr} : ∀ {vs : List Value}, (∀ u ∈ vs, OkU A u) → Vals (vs.map toV) vs
  | [], _ => .nil
  | u :: r, h => .cons (relV_toV (h u (List.mem_cons_self ..))) (vals_toV fun x hx => h x (List.mem_cons_of_mem _ hx))
/-- an object of the arguments -/
def ArgOb (h : Heap) (A : List Addr) (a : Addr) : Prop := ∃ vs : List Value, vs.length ≤ sizeLine ∧ (∀ u ∈ vs, OkU A u) ∧
  (h.get? a = some { cls := .type "list", data := .seq vs.toArray } ∨ h.get? a = some { cls := .type "tuple", data := .seq vs.toArray })
theorem ArgOb.mono {h : Heap} {A B : List Addr} {a : Addr} (k : ∀ a ∈ A, a ∈ B) (x : ArgOb h A a) : ArgOb h B a := by
  obtain ⟨vs, h1, h2, h3⟩ := x
  exact ⟨vs, h1, fun u hu => (h2 u hu).mono k, h3⟩
theorem wellAll_len {P : Params} {h : Heap} : ∀ {vs : List Value} {ds : List WData}, WellAll P h vs ds → vs.length = ds.length
  | _, _, .nil => rfl
  | _, _, .cons _ b => by
    show _ + 1 = _ + 1
    rw [wellAll_len b]
theorem well_list {P : Params} {h : Heap} {v : Value} {ds : List WData} (x : Well P h v (.list ds)) : ∃ (a : Addr) (vs : List Value), v = .ref a ∧ h.get? a = some { cls := .type "list", data := .seq vs.toArray } ∧ WellAll P h vs ds := by
  cases x with
  | list ho hall => exact ⟨_, _, rfl, ho, hall⟩
theorem well_tuple {P : Params} {h : Heap} {v : Value} {ds : List WData} (x : Well P h v (.tuple ds)) : ∃ (a : Addr) (vs : List Value), v = .ref a ∧ h.get? a = some { cls := .type "tuple", data := .seq vs.toArray } ∧ WellAll P h vs ds := by
  cases x with
  | tuple ho hall => exact ⟨_, _, rfl, ho, hall⟩
theorem well_cons {P : Params} {h : Heap} {us : List Value} {d : WData} {ds : List WData} (x : WellAll P h us (d :: ds)) : ∃ (v : Value) (vs : List Value), us = v :: vs ∧ Well P h v d ∧ WellAll P h vs ds := by
  cases x with
  | cons a b => exact ⟨_, _, rfl, a, b⟩
theorem line_of {n : Nat} (h : n ≤ 1048576) : n ≤ sizeLine := Nat.le_trans h (by decide)
section
variable {P : Params} {h : Heap}
mutual
theorem area_one : ∀ (d : WData) (v : Value), Well P h v d → plW d = true → d.weight ≤ 1048576 → ∃ A : List Addr, OkU A v ∧ ∀ a ∈ A, ArgOb h A a
  | .none, _, x, _, _ => by
    cases x
    exact ⟨[], trivial, fun a m => absurd m (by simp)⟩
  | .bool b, _, x, _, _ => by
    cases x
    exact ⟨[], trivial, fun a m => absurd m (by simp)⟩
  | .int i, _, x, _, _ => by
    cases x
    exact ⟨[], trivial, fun a m => absurd m (by simp)⟩
  | .str s, _, x, _, _ => by
    cases x
    exact ⟨[], trivial, fun a m => absurd m (by simp)⟩
  | .bytes b, _, x, _, _ => by
    cases x
    exact ⟨[], trivial, fun a m => absurd m (by simp)⟩
  | .list ds, _, x, p, z => by
    obtain ⟨a, vs, rfl, ho, hall⟩ := well_list x
    have z2 : WData.weightAll ds ≤ 1048576 := z
    obtain ⟨A, h1, h2⟩ := area_all ds _ hall p fun d hd => Nat.le_trans (weight_mem hd) z2
    have k : ∀ b ∈ A, b ∈ a :: A := fun b hb => List.mem_cons_of_mem _ hb
    refine ⟨a :: A, List.mem_cons_self .., fun b hb => ?_⟩
    rcases List.mem_cons.mp hb with e | m
    · rw [e]
      exact ⟨vs, line_of (by rw [wellAll_len hall]; exact Nat.le_trans (PySem.W.length_le_weightAllW ds) z2), fun u hu => (h1 u hu).mono k, .inl ho⟩
    · exact (h2 b m).mono k
  | .tuple ds, _, x, p, z => by
    obtain ⟨a, vs, rfl, ho, hall⟩ := well_tuple x
    have z2 : WData.weightAll ds ≤ 1048576 := z
    obtain ⟨A, h1, h2⟩ := area_all ds _ hall p fun d hd => Nat.le_trans (weight_mem hd) z2
    have k : ∀ b ∈ A, b ∈ a :: A := fun b hb => List.mem_cons_of_mem _ hb
    refine ⟨a :: A, List.mem_cons_self .., fun b hb => ?_⟩
    rcases List.mem_cons.mp hb with e | m
    · rw [e]
      exact ⟨vs, line_of (by rw [wellAll_len hall]; exact Nat.le_trans (PySem.W.length_le_weightAllW ds) z2), fun u hu => (h1 u hu).mono k, .inr ho⟩
    · exact (h2 b m).mono k
  | .float _, _, _, p, _ => Bool.noConfusion (show false = true from p)
  | .dict _, _, _, p, _ => Bool.noConfusion (show false = true from p)
  | .bytearray _, _, _, p, _ => Bool.noConfusion (show false = true from p)
  | .set _, _, _, p, _ => Bool.noConfusion (show false = true from p)
  | .frozenset _, _, _, p, _ => Bool.noConfusion (show false = true from p)
  | .obj _ _, _, _, p, _ => Bool.noConfusion (show false = true from p)
theorem area_all : ∀ (ds : List WData) (vs : List Value), WellAll P h vs ds → plWs ds = true → (∀ d ∈ ds, d.weight ≤ 1048576) → ∃ A : List Addr, (∀ u ∈ vs, OkU A u) ∧ ∀ a ∈ A, ArgOb h A a
  | [], _, x, _, _ => by
    cases x
    exact ⟨[], fun u m => absurd m (by simp), fun a m => absurd m (by simp)⟩
  | d :: ds, _, x, p, z => by
    obtain ⟨v, vs, rfl, x1, x2⟩ := well_cons x
    have q : plW d = true ∧ plWs ds = true := Bool.and_eq_true_iff.mp p
    obtain ⟨A, a1, a2⟩ := area_one d v x1 q.1 (z d (List.mem_cons_self ..))
    obtain ⟨B, b1, b2⟩ := area_all ds vs x2 q.2 fun e he => z e (List.mem_cons_of_mem _ he)
    have kA : ∀ b ∈ A, b ∈ A ++ B := fun b hb => List.mem_append.mpr (.inl hb)
    have kB : ∀ b ∈ B, b ∈ A ++ B := fun b hb => List.mem_append.mpr (.inr hb)
    refine ⟨A ++ B, fun u hu => ?_, fun b hb => ?_⟩
    · rcases List.mem_cons.mp hu with e | m
      · rw [e]
        exact a1.mono kA
      · exact (b1 u m).mono kB
    · rcases List.mem_append.mp hb with m | m
      · exact (a2 b m).mono kA
      · exact (b2 b m).mono kB
end
end
/-- what is tracked of an argument's object -/
def hoOf (o : Obj) : Option HO := match o.data with
  | .seq vs _ => if (o.cls == Value.type "list") = true then some (.frz o (.lst (vs.toList.map toV))) else some (.frz o (.tup (vs.toList.map toV)))
  | _ => none
def argH (K : PySem.W.Frag) (h : Heap) (A : List Addr) : Hp := fun b => if b ∈ A then (if (K.lookup b).isNone = true then (h.get? b).bind hoOf else none) else none
/-- nothing is tracked but what is known to the object -/
def OnlyF (H : Hp) : Prop := ∀ b, H b = none ∨ ∃ o u, H b = some (.frz o u)
theorem hoOf_lst (vs : List Value) : hoOf { cls := .type "list", data := .seq vs.toArray } = some (.frz { cls := .type "list", data := .seq vs.toArray } (.lst (vs.map toV))) := by
  show (if (Value.type "list" == Value.type "list") = true then some (HO.frz { cls := .type "list", data := .seq vs.toArray } (.lst (vs.toArray.toList.map toV))) else some (HO.frz { cls := .type "list", data := .seq vs.toArray } (.tup (vs.toArray.toList.map toV)))) = _
  rw [if_pos (beq_self_eq_true _)]
theorem hoOf_tup (vs : List Value) : hoOf { cls := .type "tuple", data := .seq vs.toArray } = some (.frz { cls := .type "tuple", data := .seq vs.toArray } (.tup (vs.map toV))) := by
  show (if (Value.type "tuple" == Value.type "list") = true then some (HO.frz { cls := .type "tuple", data := .seq vs.toArray } (.lst (vs.toArray.toList.map toV))) else some (HO.frz { cls := .type "tuple", data := .seq vs.toArray } (.tup (vs.toArray.toList.map toV)))) = _
  rw [if_neg (by decide)]
section
variable {P : Program} {w : World} {K : PySem.W.Frag} {h : Heap} {A : List Addr}
theorem argH_at {b : Addr} {o : Obj} (hb : b ∈ A) (hk : K.lookup b = none) (e : h.get? b = some o) : argH K h A b = hoOf o := by
  unfold argH
  rw [if_pos hb, hk, if_pos (show (none : Option Obj).isNone = true from rfl), e] <;> rfl
theorem of_argH {b : Addr} {u : HO} (q : argH K h A b = some u) : b ∈ A ∧ K.lookup b = none := by
  unfold argH at q
  by_cases hb : b ∈ A
  · rw [if_pos hb] at q
    cases hk : K.lookup b with
    | none => exact ⟨hb, rfl⟩
    | some o =>
      rw [hk, if_neg (by simp)] at q
      cases q
  · rw [if_neg hb] at q
    cases q
/-- what stands tracked -/
theorem argH_is (ar : ∀ a ∈ A, ArgOb h A a) {b : Addr} {u : HO} (q : argH K h A b = some u) : K.lookup b = none ∧ ∃ vs : List Value, vs.length ≤ sizeLine ∧ (∀ u ∈ vs, OkU A u) ∧
    ((h.get? b = some { cls := .type "list", data := .seq vs.toArray } ∧ u = .frz { cls := .type "list", data := .seq vs.toArray } (.lst (vs.map toV))) ∨
     (h.get? b = some { cls := .type "tuple", data := .seq vs.toArray } ∧ u = .frz { cls := .type "tuple", data := .seq vs.toArray } (.tup (vs.map toV)))) := by
  obtain ⟨hb, hk⟩ := of_argH q
  obtain ⟨vs, h1, h2, h3⟩ := ar b hb
  refine ⟨hk, vs, h1, h2, ?_⟩
  rcases h3 with e | e
  · rw [argH_at hb hk e, hoOf_lst] at q
    exact .inl ⟨e, (Option.some.inj q).symm⟩
  · rw [argH_at hb hk e, hoOf_tup] at q
    exact .inr ⟨e, (Option.some.inj q).symm⟩
theorem argH_only (ar : ∀ a ∈ A, ArgOb h A a) : OnlyF (argH K h A) := fun b => by
  cases q : argH K h A b with
  | none => exact .inl rfl
  | some u =>
    obtain ⟨_, vs, _, _, ⟨_, e⟩ | ⟨_, e⟩⟩ := argH_is ar q
    · exact .inr ⟨_, _, by rw [e]⟩
    · exact .inr ⟨_, _, by rw [e]⟩
theorem argH_ok (ar : ∀ a ∈ A, ArgOb h A a) : HOk P w (argH K h A) h := fun b u q => by
  obtain ⟨_, vs, h1, h2, ⟨e, rfl⟩ | ⟨e, rfl⟩⟩ := argH_is ar q
  · exact ⟨e, by rw [List.length_map]; exact h1, vs, _, vals_toV h2, e⟩
  · exact ⟨e, by rw [List.length_map]; exact h1, vs, vals_toV h2, _, e, rfl, _, rfl⟩
theorem seq_inj {c c' : Value} {vs us : List Value} (e : (some { cls := c, data := .seq vs.toArray } : Option Obj) = some { cls := c', data := .seq us.toArray }) : c = c' ∧ vs = us := by
  have e1 := Option.some.inj e
  have e2 : c = c' := congrArg Obj.cls e1
  have e3 : Data.seq vs.toArray = Data.seq us.toArray := congrArg Obj.data e1
  injection e3 with e4
  refine ⟨e2, ?_⟩
  have e5 := congrArg Array.toList e4
  simpa using e5
/-- a list argument -/
theorem argL (KX : K.In h) (ar : ∀ a ∈ A, ArgOb h A a) {a : Addr} {vs : List Value} (ha : a ∈ A) (e : h.get? a = some { cls := .type "list", data := .seq vs.toArray }) : (∀ u ∈ vs, OkU A u) ∧ SqL K (argH K h A) a (vs.map toV) := by
  obtain ⟨us, h1, h2, h3⟩ := ar a ha
  have hu : us = vs := by
    rcases h3 with q | q
    · rw [e] at q
      exact (seq_inj q).2.symm
    · rw [e] at q
      exact absurd (Value.type.inj (seq_inj q).1) (by decide)
  subst hu
  refine ⟨h2, ?_⟩
  cases hk : K.lookup a with
  | none => exact .inl (.inr ⟨_, by rw [argH_at ha hk e, hoOf_lst]⟩)
  | some o =>
    have e2 := KX a o hk
    rw [e] at e2
    obtain rfl := Option.some.inj e2
    exact .inr ⟨_, us.toArray, _, hk, rfl, rfl, rfl, by rw [List.size_toArray]; exact h1, by simpa using vals_toV h2⟩
theorem argT (KX : K.In h) (ar : ∀ a ∈ A, ArgOb h A a) {a : Addr} {vs : List Value} (ha : a ∈ A) (e : h.get? a = some { cls := .type "tuple", data := .seq vs.toArray }) : (∀ u ∈ vs, OkU A u) ∧ SqT K (argH K h A) a (vs.map toV) := by
  obtain ⟨us, h1, h2, h3⟩ := ar a ha
  have hu : us = vs := by
    rcases h3 with q | q
    · rw [e] at q
      exact absurd (Value.type.inj (seq_inj q).1) (by decide)
    · rw [e] at q
      exact (seq_inj q).2.symm
  subst hu
  refine ⟨h2, ?_⟩
  cases hk : K.lookup a with
  | none => exact .inl (.inr ⟨_, by rw [argH_at ha hk e, hoOf_tup]⟩)
  | some o =>
    have e2 := KX a o hk
    rw [e] at e2
    obtain rfl := Option.some.inj e2
    exact .inr ⟨_, us.toArray, _, hk, rfl, rfl, by rw [List.size_toArray]; exact h1, by simpa using vals_toV h2⟩
mutual
theorem dw_one {Pm : Params} (KX : K.In h) (ar : ∀ a ∈ A, ArgOb h A a) : ∀ (d : WData) (v : Value), Well Pm h v d → plW d = true → OkU A v → Dw K (argH K h A) (toV v) d
  | .none, _, x, _, _ => by
    cases x
    exact .non
  | .bool b, _, x, _, _ => by
    cases x
    exact .bl b
  | .int i, _, x, _, _ => by
    cases x
    exact .int i
  | .str s, _, x, _, _ => by
    cases x
    exact .str s
  | .bytes b, _, x, _, _ => by
    cases x
    have z := Dw.byt (K := K) (H := argH K h A) b.toArray
    exact z
  | .list ds, _, x, p, hu => by
    obtain ⟨a, vs, rfl, ho, hall⟩ := well_list x
    obtain ⟨h2, hs⟩ := argL KX ar hu ho
    exact .lst hs (dw_all KX ar ds _ hall p h2)
  | .tuple ds, _, x, p, hu => by
    obtain ⟨a, vs, rfl, ho, hall⟩ := well_tuple x
    obtain ⟨h2, hs⟩ := argT KX ar hu ho
    exact .tup hs (dw_all KX ar ds _ hall p h2)
  | .float _, _, _, p, _ => Bool.noConfusion (show false = true from p)
  | .dict _, _, _, p, _ => Bool.noConfusion (show false = true from p)
  | .bytearray _, _, _, p, _ => Bool.noConfusion (show false = true from p)
  | .set _, _, _, p, _ => Bool.noConfusion (show false = true from p)
  | .frozenset _, _, _, p, _ => Bool.noConfusion (show false = true from p)
  | .obj _ _, _, _, p, _ => Bool.noConfusion (show false = true from p)
theorem dw_all {Pm : Params} (KX : K.In h) (ar : ∀ a ∈ A, ArgOb h A a) : ∀ (ds : List WData) (vs : List Value), WellAll Pm h vs ds → plWs ds = true → (∀ u ∈ vs, OkU A u) → DwAll K (argH K h A) (vs.map toV) ds
  | [], _, x, _, _ => by
    cases x
    exact .nil
  | d :: ds, _, x, p, hu => by
    obtain ⟨v, vs, rfl, x1, x2⟩ := well_cons x
    have q : plW d = true ∧ plWs ds = true := Bool.and_eq_true_iff.mp p
    exact .cons (dw_one KX ar d v x1 q.1 (hu _ (List.mem_cons_self ..))) (dw_all KX ar ds vs x2 q.2 fun u m => hu u (List.mem_cons_of_mem _ m))
end
end
/-! ### the call -/
theorem spec_call {P : Program} {w : World} {K : PySem.W.Frag} {mg mb : Str → Option Value} {CX : CXT} {k : Nat} {fa : Addr} {fd : FuncData} {ps : List Str} {sp : Sp} {s₁ : Shared} {vals : List Value} {ds : List WData} {R : PySem.W.WRecords} {cl : Str → Option Addr} {d0 : WData}
    (KX : K.In s₁.heap) (hns : s₁.heap.Ns mainGlobals mg) (hb : s₁.heap.Ns builtinsNs mb) (hbb : ∀ x : Str, x ≠ "__name__" → mb x = bootBuiltins x) (hlim : s₁.heap.NoLimit) (hg : s₁.gens = #[])
    (hwl : WellAll w.params s₁.heap vals ds) (hpl : plWs ds = true) (hwt : ∀ d ∈ ds, d.weight ≤ 1048576) (hr : Room k callerA)
    (F : ∀ base : Heap, K.In base → base.Ns mainGlobals mg → FnOk P w K mg base CX k fa fd ps sp) (hbind : ∀ (s : Shared) (us : List Value), us.length = ps.length → BindsTo s fd ⟨us, []⟩ (ps.zip us)) (hlen : ds.length = ps.length)
    (hsp : ∀ (H : Hp) (xs : List V), OnlyF H → DwAll K H xs ds → sp xs H (fun v H' => Dw K H' v d0) fun _ _ _ => False)
    (hCX : ∀ H e s', CX [] H s₁ (fun _ _ _ => False) e s' → False) :
    codeAny (model P w) callerA (.call (.ref fa) ⟨vals, []⟩) (fun r s' => ∃ u as, r = .ok (.ret u) ∧ ReadsW R cl s'.heap u d0 as ∧ OldK s₁.heap s'.heap ∧ s'.os = s₁.os ∧ AllBare s'.gens) s₁ := by
  obtain ⟨A, ho, ar⟩ := area_all ds vals hwl hpl hwt
  have hO : OnlyF (argH K s₁.heap A) := argH_only ar
  have hok : HOk P w (argH K s₁.heap A) s₁.heap := argH_ok ar
  have hS := dw_all KX ar ds vals hwl hpl ho
  have hV := vals_toV ho
  have hK : ∀ b u, argH K s₁.heap A b = some u → K.lookup b = none := fun b u q => (argH_is ar q).1
  have noA : ∀ {b : Addr} {o : Obj} {es : Array DictEntry} {ep : Nat}, s₁.heap.get? b = some o → o.data = .dict es ep → argH K s₁.heap A b = none := fun {b o es ep} e d => by
    cases q : argH K s₁.heap A b with
    | none => rfl
    | some u =>
      obtain ⟨_, vs, _, _, ⟨e2, _⟩ | ⟨e2, _⟩⟩ := argH_is ar q
      · rw [e2] at e
        cases e
        have d' : Data.seq vs.toArray _ = Data.dict es ep := d
        cases d'
      · rw [e2] at e
        cases e
        have d' : Data.seq vs.toArray _ = Data.dict es ep := d
        cases d'
  generalize argH K s₁.heap A = H at hO hok hS hK noA
  have base_of : ∀ {b : Addr} {o : Obj}, s₁.heap.get? b = some o → H b = none → (hidT s₁.heap H).get? b = some o := fun e n => hidT_get e n
  have nsK : ∀ {b : Addr} {m : Str → Option Value}, s₁.heap.Ns b m → (hidT s₁.heap H).Ns b m := fun {b m} ⟨o, es, ep, e, d, r⟩ => ⟨o, es, ep, base_of e (noA e d), d, r⟩
  have nK : ∀ b o, K.lookup b = some o → H b = none := fun b o e => by
    cases q : H b with
    | none => rfl
    | some u =>
      rw [hK b u q] at e
      cases e
  have hKb : K.In (hidT s₁.heap H) := fun b o e => base_of (KX b o e) (nK b o e)
  have hM : Mod K mg (hidT s₁.heap H) := ⟨hKb, nsK hns, ⟨mb, nsK hb, hbb⟩, let ⟨mc, h1, h2⟩ := hlim; ⟨mc, nsK h1, h2⟩⟩
  have e0 : Env0 P w K mg (hidT s₁.heap H) callerA [] s₁ H := ⟨rfl, hM, fun b o e => of_hidT e, Nat.le_of_eq (hidT_size _ _), trivial, fun b hb => absurd (show b ∈ ([] : List Addr) from hb) (by simp), hok, .of_eq hg⟩
  have hl : vals.length = ps.length := by rw [wellAll_len hwl]; exact hlen
  refine codeAny_mono ((F _ hKb (nsK hns)).run callerA [] s₁ H ⟨vals, []⟩ vals (vals.map toV) _ _ hr e0 (hbind s₁ vals hl) hV (hsp H _ hO hS)) fun r s' x => ?_
  cases r with
  | error e => exact (hCX H e s' x).elim
  | ok fl =>
    cases fl with
    | next => exact False.elim x
    | brk => exact False.elim x
    | cont => exact False.elim x
    | ret u =>
      obtain ⟨v, H', os, bare, un, hok', r', q⟩ := x
      have kept : ∀ b o, s₁.heap.get? b = some o → s'.heap.get? b = some o := fun b o e => by
        cases q2 : H b with
        | none => exact un.keep b o e q2 (by intro z; exact absurd (show b ∈ ([] : List Addr) from z) (by simp)) (by simp)
        | some u2 =>
          rcases hO b with z | ⟨ob, u3, z⟩
          · rw [q2] at z
            cases z
          · have z2 := un.frzs b ob _ z
            obtain ⟨e1, _⟩ := hok b _ z
            obtain ⟨e2, _⟩ := hok' b _ z2
            rw [e] at e1
            cases e1
            exact e2
      have KX' : K.In s'.heap := fun b o e => kept b o (KX b o e)
      obtain ⟨as, hrd⟩ := Dw.reads (R := R) (cl := cl) hok' KX' d0 v u q r'
      exact ⟨u, as, rfl, hrd, OldK.of_keep kept, os, bare⟩
/-! ### the row -/
theorem layable_weight {ds : List WData} (h : WData.layableAll ds = true) : ∀ d ∈ ds, d.weight ≤ 1048576 := fun d hd =>
  (PySem.W.layableW_iff.mp (List.all_eq_true.mp h d hd)).2.2
theorem encAll_len : ∀ (cs : List Codec) (a : Codec.denoteAll cs), (Codec.encAll cs a).length = cs.length
  | [], _ => rfl
  | c :: cs, a => by
    show (Codec.encAll cs a.2).length + 1 = cs.length + 1
    rw [encAll_len cs a.2]
/-- the goal that k_headS leaves (case hc), from the promise of the row's def: whatever the arguments that the codecs let and the row asks for, the def gives what stands for enc (f ..) -/
theorem walk_spec {r : OpenSpec} {k : Nat} {q : Program} {loose : List Str} {XP : (Str → Option Value) → Heap → Prop} {YP : World → Heap → Prop} {d : DefRec} {K : Params → PySem.W.Frag} {CX : World → CXT} {ps : List Str} {sp : World → Sp}
    (hwell : r.wellSaid = true) (hdf : d.params.defaults = []) (hlen : r.args.length = ps.length) (hr : Room k callerA)
    (hY : ∀ (w : World) (h : Heap), YP w h → (K w.params).In h)
    (F : ∀ (w : World) (mg : Str → Option Value) (fa : Addr) (h : Heap), YP w h → (K w.params).In h → h.Ns mainGlobals mg → mg d.name = some (.ref fa) →
      ∃ fd : FuncData, (∀ (s : Shared) (us : List Value), us.length = ps.length → BindsTo s fd ⟨us, []⟩ (ps.zip us)) ∧
        ∀ base : Heap, (K w.params).In base → base.Ns mainGlobals mg → FnOk r.prog w (K w.params) mg base (CX w) k fa fd ps (sp w))
    (hsp : ∀ (w : World) (H : Hp) (xs : List V) (a : Codec.denoteAll r.args), OnlyF H → Codec.withinAll r.args a = true → Codec.app r.args r.asked a = true → DwAll (K w.params) H xs (Codec.encAll r.args a) →
      sp w xs H (fun v H' => Dw (K w.params) H' v (r.ret.enc (Codec.app r.args r.f a))) fun _ _ _ => False)
    (hCX : ∀ (w : World) (H : Hp) (s : Shared) (e : Value) (s' : Shared), CX w [] H s (fun _ _ _ => False) e s' → False) :
    PySem.W.WalkOS q loose XP YP r d [] (fun f vs => PySem.call f vs) := by
  intro w s_0 s₁ mg mb G Y fa o pm cd doc dV kV ho hd hcd hD hmg hg args vals as hpre hlay hrd hwl hlo
  obtain ⟨a, e1, e2⟩ := PySem.W.os_pre_some hpre
  obtain ⟨e3, hwi⟩ := Codec.encAll_of_decAll r.args args a e1
  subst e3
  have KX := hY w _ Y
  obtain ⟨fd, hb, hF⟩ := F w mg fa _ Y KX G.T.g hmg
  refine PySem.W.enter_call (codeAny_mono (spec_call (R := []) (cl := classAt s_0.heap) (d0 := r.ret.enc (Codec.app r.args r.f a)) KX G.T.g G.T.b G.T.builtins G.T.nolimit hg hwl (pl_encAll _ _) (layable_weight hlay) hr hF hb (by rw [encAll_len]; exact hlen)
    (fun H xs hO hS => hsp w H xs a hO hwi e2 hS) fun H e s' => hCX w H s₁ e s') fun r' s' hq => ?_)
  obtain ⟨u, as', rfl, h1, h2, h3, h4⟩ := hq
  exact ⟨.inl ⟨u, _, as', rfl, fun _ => rfl, h1, (OpenSpec.post_iff hwell hwi _ _).mpr rfl, fun z => Bool.noConfusion (show false = true from z)⟩, h2, h3, h4⟩
/-- the same where the promise hangs on the written part alone -/
theorem walk_specK {r : OpenSpec} {k : Nat} {q : Program} {loose : List Str} {XP : (Str → Option Value) → Heap → Prop} {YP : World → Heap → Prop} {d : DefRec} {K : Params → PySem.W.Frag} {CX : CXT} {ps : List Str} {sp : PySem.W.Frag → Sp}
    (hwell : r.wellSaid = true) (hdf : d.params.defaults = []) (hlen : r.args.length = ps.length) (hr : Room k callerA)
    (hY : ∀ (w : World) (h : Heap), YP w h → (K w.params).In h)
    (F : ∀ (w : World) (mg : Str → Option Value) (fa : Addr) (h : Heap), YP w h → (K w.params).In h → h.Ns mainGlobals mg → mg d.name = some (.ref fa) →
      ∃ fd : FuncData, (∀ (s : Shared) (us : List Value), us.length = ps.length → BindsTo s fd ⟨us, []⟩ (ps.zip us)) ∧
        ∀ base : Heap, (K w.params).In base → base.Ns mainGlobals mg → FnOk r.prog w (K w.params) mg base CX k fa fd ps (sp (K w.params)))
    (hsp : ∀ (K : PySem.W.Frag) (H : Hp) (xs : List V) (a : Codec.denoteAll r.args), OnlyF H → Codec.withinAll r.args a = true → Codec.app r.args r.asked a = true → DwAll K H xs (Codec.encAll r.args a) →
      sp K xs H (fun v H' => Dw K H' v (r.ret.enc (Codec.app r.args r.f a))) fun _ _ _ => False)
    (hCX : ∀ (H : Hp) (s : Shared) (e : Value) (s' : Shared), CX [] H s (fun _ _ _ => False) e s' → False) :
    PySem.W.WalkOS q loose XP YP r d [] (fun f vs => PySem.call f vs) :=
  walk_spec (K := K) (CX := fun _ => CX) (sp := fun w => sp (K w.params)) hwell hdf hlen hr hY F (fun w H xs a h1 h2 h3 h4 => hsp (K w.params) H xs a h1 h2 h3 h4) fun _ H s e s' => hCX H s e s'
end L2
-- rests on (row put in by the clerk, for the bench that shows a file only what it spells): KE.SpHead KE.OsShapes
end
end
section
namespace Mu
open ScoreNs
/-! ### waves -/
theorem wave3_int (p : Nat) : wave 3 p = if (p : Int) < 32768 then (if (32767 : Int) < 4 * ((p : Int) % 32768) * (32768 - (p : Int) % 32768) / 32768 then 32767 else 4 * ((p : Int) % 32768) * (32768 - (p : Int) % 32768) / 32768)
    else -(4 * ((p : Int) % 32768) * (32768 - (p : Int) % 32768) / 32768) := by
  have hq : p % 32768 ≤ 32768 := Nat.le_of_lt (Nat.mod_lt _ (by decide))
  have e : ((4 * (p % 32768) * (32768 - p % 32768) / 32768 : Nat) : Int) = 4 * ((p : Int) % 32768) * (32768 - (p : Int) % 32768) / 32768 := by
    rw [Int.natCast_ediv, Int.natCast_mul, Int.natCast_mul, Int.natCast_sub hq, Int.natCast_emod]
    rfl
  show (if p < 32768 then min ((4 * (p % 32768) * (32768 - p % 32768) / 32768 : Nat) : Int) 32767 else -((4 * (p % 32768) * (32768 - p % 32768) / 32768 : Nat) : Int)) = _
  rw [e]
  generalize 4 * ((p : Int) % 32768) * (32768 - (p : Int) % 32768) / 32768 = h
  by_cases hp : p < 32768
  · rw [if_pos hp, if_pos (by omega : (p : Int) < 32768)]
    by_cases hh : (32767 : Int) < h
    · rw [if_pos hh]; omega
    · rw [if_neg hh]; omega
  · rw [if_neg hp, if_neg (by omega : ¬ (p : Int) < 32768)]
theorem wave2_int (p : Nat) : wave 2 p = if (p : Int) < 32768 then 2 * (p : Int) - 32768 else 98302 - 2 * (p : Int) := by
  show (if p < 32768 then 2 * (p : Int) - 32768 else 98302 - 2 * (p : Int)) = _
  by_cases hp : p < 32768
  · rw [if_pos hp, if_pos (by omega : (p : Int) < 32768)]
  · rw [if_neg hp, if_neg (by omega : ¬ (p : Int) < 32768)]
theorem wave1_int (p : Nat) : wave 1 p = if (p : Int) < 32768 then 32767 else -32768 := by
  show (if p < 32768 then (32767 : Int) else -32768) = _
  by_cases hp : p < 32768
  · rw [if_pos hp, if_pos (by omega : (p : Int) < 32768)]
  · rw [if_neg hp, if_neg (by omega : ¬ (p : Int) < 32768)]
theorem wave_small (w p : Nat) (hp : p < 65536) : -32768 ≤ wave w p ∧ wave w p ≤ 32767 := by
  match w with
  | 0 => show -32768 ≤ (p : Int) - 32768 ∧ (p : Int) - 32768 ≤ 32767; omega
  | 1 => rw [wave1_int]; split <;> omega
  | 2 => rw [wave2_int]; split <;> omega
  | w + 3 =>
    show -32768 ≤ wave 3 p ∧ wave 3 p ≤ 32767
    have hq : p % 32768 < 32768 := Nat.mod_lt _ (by decide)
    have b : 4 * (p % 32768) * (32768 - p % 32768) / 32768 ≤ 32768 := by
      generalize p % 32768 = q at hq
      have h1 : 4 * q * (32768 - q) ≤ 32768 * 32768 := by
        have e : ((4 * q * (32768 - q) : Nat) : Int) = 4 * (q : Int) * (32768 - (q : Int)) := by
          rw [Int.natCast_mul, Int.natCast_mul, Int.natCast_sub (Nat.le_of_lt hq)]; rfl
        have sq : 0 ≤ (2 * (q : Int) - 32768) * (2 * (q : Int) - 32768) := by
          rcases Int.le_total 0 (2 * (q : Int) - 32768) with h | h
          · exact Int.mul_nonneg h h
          · exact Int.mul_nonneg_of_nonpos_of_nonpos h h
        have ex : (2 * (q : Int) - 32768) * (2 * (q : Int) - 32768) = 32768 * 32768 - 4 * (q : Int) * (32768 - (q : Int)) := by
          rw [Int.sub_mul, Int.mul_sub, Int.mul_sub, Int.mul_sub]
          have a1 : 2 * (q : Int) * (2 * (q : Int)) = 4 * (q : Int) * (q : Int) := by
            rw [show 2 * (q : Int) * (2 * (q : Int)) = 2 * ((q : Int) * 2) * (q : Int) by rw [← Int.mul_assoc, ← Int.mul_assoc], Int.mul_comm (q : Int) 2, ← Int.mul_assoc]; rfl
          rw [a1]; omega
        omega
      exact Nat.le_trans (Nat.div_le_div_right h1) (by decide)
    show -32768 ≤ (if p < 32768 then min ((4 * (p % 32768) * (32768 - p % 32768) / 32768 : Nat) : Int) 32767 else -((4 * (p % 32768) * (32768 - p % 32768) / 32768 : Nat) : Int)) ∧ (if p < 32768 then min ((4 * (p % 32768) * (32768 - p % 32768) / 32768 : Nat) : Int) 32767 else -((4 * (p % 32768) * (32768 - p % 32768) / 32768 : Nat) : Int)) ≤ 32767
    generalize 4 * (p % 32768) * (32768 - p % 32768) / 32768 = z at b
    split <;> omega
/-! ### loudness -/
theorem held_int (v : Voice) (hs : v.stay ≤ 256) (k : Nat) : (v.held k : Int) =
    if (k : Int) < v.rise then 256 * (k : Int) / v.rise else if (k : Int) - v.rise < v.fall then 256 - (256 - (v.stay : Int)) * ((k : Int) - v.rise) / v.fall else v.stay := by
  unfold Voice.held
  by_cases h1 : k < v.rise
  · rw [if_pos h1, if_pos (by omega : (k : Int) < v.rise), Int.natCast_ediv, Int.natCast_mul]; rfl
  · rw [if_neg h1, if_neg (by omega : ¬ (k : Int) < v.rise)]
    by_cases h2 : k - v.rise < v.fall
    · rw [if_pos h2, if_pos (by omega : (k : Int) - v.rise < v.fall)]
      have hle : (FULL - v.stay) * (k - v.rise) / v.fall ≤ FULL := by
        refine Nat.div_le_of_le_mul ?_
        rw [Nat.mul_comm v.fall]
        exact Nat.mul_le_mul (Nat.sub_le _ _) (Nat.le_of_lt h2)
      rw [Int.natCast_sub hle, Int.natCast_ediv, Int.natCast_mul, Int.natCast_sub (show v.stay ≤ FULL from hs), Int.natCast_sub (by omega)]
      rfl
    · rw [if_neg h2, if_neg (by omega : ¬ (k : Int) - v.rise < v.fall)]
theorem held_le (v : Voice) (hs : v.stay ≤ 256) (k : Nat) : v.held k ≤ 256 := by
  unfold Voice.held
  split
  · rename_i h
    refine Nat.div_le_of_le_mul ?_
    rw [Nat.mul_comm v.rise]
    exact Nat.mul_le_mul (Nat.le_refl _) (Nat.le_of_lt h)
  · split
    · exact Nat.sub_le _ _
    · exact hs
theorem loud_int (v : Voice) (n k : Nat) : (v.loud n k : Int) = if (k : Int) < n then (v.held k : Int) else if (k : Int) - n < v.fade then (v.held n : Int) * (v.fade - ((k : Int) - n)) / v.fade else 0 := by
  unfold Voice.loud
  by_cases h1 : k < n
  · rw [if_pos h1, if_pos (by omega : (k : Int) < n)]
  · rw [if_neg h1, if_neg (by omega : ¬ (k : Int) < n)]
    by_cases h2 : k - n < v.fade
    · rw [if_pos h2, if_pos (by omega : (k : Int) - n < v.fade), Int.natCast_ediv, Int.natCast_mul, Int.natCast_sub (Nat.le_of_lt h2), Int.natCast_sub (by omega)]
    · rw [if_neg h2, if_neg (by omega : ¬ (k : Int) - n < v.fade)]; rfl
theorem loud_le (v : Voice) (hs : v.stay ≤ 256) (n k : Nat) : v.loud n k ≤ 256 := by
  unfold Voice.loud
  split
  · exact held_le v hs k
  · split
    · refine Nat.div_le_of_le_mul ?_
      rw [Nat.mul_comm v.fade]
      exact Nat.mul_le_mul (held_le v hs n) (Nat.sub_le _ _)
    · exact Nat.zero_le _
/-! ### lines -/
theorem between_nonneg {a b t e l : Int} (ha : 0 ≤ a) (hb : 0 ≤ b) (h1 : e ≤ t) (h2 : t < l) : 0 ≤ a + (b - a) * (t - e) / (l - e) := by
  have hd : 0 < l - e := by omega
  have h3 : -a * (l - e) ≤ (b - a) * (t - e) := by
    have s1 : -a * (t - e) ≤ (b - a) * (t - e) := Int.mul_le_mul_of_nonneg_right (by omega) (by omega)
    have s2 : -a * (l - e) ≤ -a * (t - e) := by
      rw [Int.neg_mul, Int.neg_mul]
      exact Int.neg_le_neg (Int.mul_le_mul_of_nonneg_left (by omega) ha)
    omega
  have h4 : -a ≤ (b - a) * (t - e) / (l - e) := (Int.le_ediv_iff_mul_le hd).mpr h3
  omega
theorem from_cons (a b : Nat × Nat) (r : Line) (t : Nat) : Line.from_ a (b :: r) t = if t < b.1 then ((a.2 : Int) + ((b.2 : Int) - (a.2 : Int)) * ((t : Int) - (a.1 : Int)) / ((b.1 : Int) - (a.1 : Int))).toNat else Line.from_ b r t := rfl
theorem from_int {a b : Nat × Nat} {r : Line} {t : Nat} (h1 : a.1 ≤ t) (h2 : t < b.1) : (Line.from_ a (b :: r) t : Int) = (a.2 : Int) + ((b.2 : Int) - (a.2 : Int)) * ((t : Int) - (a.1 : Int)) / ((b.1 : Int) - (a.1 : Int)) := by
  rw [from_cons, if_pos h2, Int.toNat_of_nonneg (between_nonneg (by omega) (by omega) (by omega) (by omega))]
theorem from_skip {a b : Nat × Nat} {r : Line} {t : Nat} (h2 : ¬ t < b.1) : Line.from_ a (b :: r) t = Line.from_ b r t := by
  rw [from_cons, if_neg h2]
end Mu
end
section
namespace Mu
open ScoreNs
/-! ### what is heard -/
theorem gives_zero {s : Score} {n : Note} {t : Nat} (h : s.sounds n t = false) : s.gives n t = 0 := by
  unfold Score.gives
  rw [if_neg (by rw [h]; decide)]
theorem gives_of {s : Score} {n : Note} {t : Nat} (h : s.sounds n t = true) : s.gives n t = wave (s.voice n.voice).wave ((t - n.at_) * n.step % ROUND) * (((s.voice n.voice).loud n.len (t - n.at_) * n.level * (s.line n.voice).at_ t : Nat) : Int) / 2 ^ 24 := by
  unfold Score.gives
  rw [if_pos h]
def sumOf (s : Score) (l : List Note) (t : Nat) : Int := (l.map fun (n : Note) => s.gives n t).foldr (fun (a b : Int) => a + b) 0
theorem sumOf_nil (s : Score) (t : Nat) : sumOf s [] t = 0 := rfl
theorem sumOf_cons (s : Score) (n : Note) (l : List Note) (t : Nat) : sumOf s (n :: l) t = s.gives n t + sumOf s l t := rfl
theorem sumOf_snoc (s : Score) (n : Note) (t : Nat) : ∀ l : List Note, sumOf s (l ++ [n]) t = sumOf s l t + s.gives n t
  | [] => by rw [List.nil_append, sumOf_cons, sumOf_nil]; omega
  | a :: l => by rw [List.cons_append, sumOf_cons, sumOf_cons, sumOf_snoc s n t l]; omega
def heard (s : Score) (first m : Nat) (n : Note) : Bool := decide (n.at_ < first + m) && decide (first < s.ends n)
theorem sumOf_heard (s : Score) (first m i : Nat) (hi : i < m) : ∀ l : List Note, sumOf s (l.filter (heard s first m)) (first + i) = sumOf s l (first + i)
  | [] => rfl
  | n :: l => by
    rw [List.filter_cons]
    by_cases h : heard s first m n = true
    · rw [if_pos h, sumOf_cons, sumOf_cons, sumOf_heard s first m i hi l]
    · rw [if_neg h, sumOf_cons, sumOf_heard s first m i hi l]
      have z : s.sounds n (first + i) = false := by
        unfold heard at h
        unfold Score.sounds
        by_cases h1 : n.at_ < first + m
        · by_cases h2 : first < s.ends n
          · exact absurd (by rw [decide_eq_true h1, decide_eq_true h2]; rfl) h
          · rw [decide_eq_false (by omega : ¬ first + i < s.ends n), Bool.and_false]
        · rw [decide_eq_false (by omega : ¬ n.at_ ≤ first + i), Bool.false_and]
      rw [gives_zero z]; omega
theorem sum_eq (s : Score) (t : Nat) : s.sum t = sumOf s s.notes t := rfl
theorem zipWith_range {α β γ : Type} (f : α → β → γ) (g : Nat → α) (h : Nat → β) (n : Nat) : List.zipWith f ((List.range n).map g) ((List.range n).map h) = (List.range n).map fun i => f (g i) (h i) := by
  apply List.ext_getElem
  · simp
  · intro i h1 h2
    simp
theorem clip_int (x : Int) : (if (if x < 32767 then x else 32767) > -32768 then (if x < 32767 then x else 32767) else -32768) = clip x := by
  unfold clip
  split <;> split <;> omega
/-! ### peak -/
def pkStep (b : Nat × Nat) (x : Int × Nat) : Nat × Nat := if b.1 < x.1.natAbs then (x.1.natAbs, x.2) else b
theorem peak_snoc (l : List Int) (x : Int) : peakOf (l ++ [x]) = pkStep (peakOf l) (x, l.length) := by
  unfold peakOf
  rw [List.zipIdx_append, List.foldl_append]
  show pkStep _ _ = _
  congr 1
  rw [Nat.zero_add]
theorem abs_int (i : Int) : (if i < 0 then -i else i) = (i.natAbs : Int) := by split <;> omega
/-! ### next -/
theorem least_none {l : List Nat} (h : leastOf l = none) : l = [] := by
  cases l with
  | nil => rfl
  | cons x r =>
    unfold leastOf at h
    split at h <;> cases h
theorem least_some : ∀ {l : List Nat} {m : Nat}, leastOf l = some m → m ∈ l ∧ ∀ x ∈ l, m ≤ x
  | [], _, h => by cases h
  | x :: r, m, h => by
    unfold leastOf at h
    split at h
    · rename_i e
      have e1 := least_none e
      cases h
      subst e1
      exact ⟨List.mem_cons_self, fun y hy => by simp at hy; omega⟩
    · rename_i y e
      obtain ⟨h1, h2⟩ := least_some e
      cases h
      refine ⟨?_, fun z hz => ?_⟩
      · by_cases hx : x ≤ y
        · rw [Nat.min_eq_left hx]; exact List.mem_cons_self
        · rw [Nat.min_eq_right (by omega)]; exact List.mem_cons_of_mem _ h1
      · rcases List.mem_cons.mp hz with q | q
        · subst q; exact Nat.min_le_left _ _
        · exact Nat.le_trans (Nat.min_le_right _ _) (h2 z q)
def turns2 (s : Score) (t : Nat) : List Nat := (s.notes.map (fun (n : Note) => n.at_) ++ s.notes.map s.ends).filter fun u => decide (t < u)
theorem mem_turns2 (s : Score) (t u : Nat) : u ∈ turns2 s t ↔ u ∈ s.turns.filter fun (u : Nat) => decide (t < u) := by
  unfold turns2 Score.turns
  simp only [List.mem_filter, List.mem_append, List.mem_map, List.mem_flatMap, List.mem_cons, List.not_mem_nil, or_false]
  constructor
  · rintro ⟨h | h, ht⟩
    · obtain ⟨n, hn, e⟩ := h
      exact ⟨⟨n, hn, .inl e.symm⟩, ht⟩
    · obtain ⟨n, hn, e⟩ := h
      exact ⟨⟨n, hn, .inr e.symm⟩, ht⟩
  · rintro ⟨⟨n, hn, h | h⟩, ht⟩
    · exact ⟨.inl ⟨n, hn, h.symm⟩, ht⟩
    · exact ⟨.inr ⟨n, hn, h.symm⟩, ht⟩
theorem next_none {s : Score} {t : Nat} (h : turns2 s t = []) : s.next_ t = none := by
  unfold Score.next_
  cases e : leastOf (s.turns.filter fun (u : Nat) => decide (t < u)) with
  | none => rfl
  | some m =>
    have := (mem_turns2 s t m).mpr (least_some e).1
    rw [h] at this; cases this
theorem next_some {s : Score} {t m : Nat} (h1 : m ∈ turns2 s t) (h2 : ∀ x ∈ turns2 s t, m ≤ x) : s.next_ t = some m := by
  unfold Score.next_
  cases e : leastOf (s.turns.filter fun (u : Nat) => decide (t < u)) with
  | none =>
    have := (mem_turns2 s t m).mp h1
    rw [least_none e] at this; cases this
  | some k =>
    obtain ⟨a1, a2⟩ := least_some e
    have b1 := h2 k ((mem_turns2 s t k).mpr a1)
    have b2 := a2 m ((mem_turns2 s t m).mp h1)
    rw [Nat.le_antisymm b1 b2]
/-! ### points -/
def evens {α : Type} : List α → List α
  | [] => []
  | [a] => [a]
  | a :: _ :: r => a :: evens r
def odds {α : Type} (l : List α) : List α := evens (l.drop 1)
theorem evens_cons2 {α : Type} (a b : α) (r : List α) : evens (a :: b :: r) = a :: evens r := rfl
theorem odds_cons2 {α : Type} (a b : α) (r : List α) : odds (a :: b :: r) = b :: odds r := by
  cases r with
  | nil => rfl
  | cons c r => rfl
theorem evens_length {α : Type} : ∀ l : List α, (evens l).length = (l.length + 1) / 2
  | [] => by simp [evens]
  | [_] => by simp [evens]
  | a :: b :: r => by
    rw [evens_cons2, List.length_cons, evens_length r, List.length_cons, List.length_cons]
    omega
theorem evens_get {α : Type} : ∀ (l : List α) (i : Nat), (evens l)[i]? = l[2 * i]?
  | [], i => by simp [evens]
  | [a], 0 => rfl
  | [a], i + 1 => by simp [evens]
  | a :: b :: r, 0 => rfl
  | a :: b :: r, i + 1 => by
    rw [evens_cons2, List.getElem?_cons_succ, evens_get r i, show 2 * (i + 1) = 2 * i + 1 + 1 by omega, List.getElem?_cons_succ, List.getElem?_cons_succ]
def pairs (l : List Nat) : Line := (evens l).zip (odds l)
theorem pairs_cons2 (a b : Nat) (r : List Nat) : pairs (a :: b :: r) = (a, b) :: pairs r := by
  unfold pairs
  rw [evens_cons2, odds_cons2, List.zip_cons_cons]
theorem pairsOf_even : ∀ l : List Nat, l.length % 2 = 0 → pairsOf l = some (pairs l)
  | [], _ => rfl
  | [_], h => by simp at h
  | a :: b :: r, h => by
    have e := pairsOf_even r (by simp at h; omega)
    show (pairsOf r).map _ = _
    rw [e, pairs_cons2]; rfl
theorem pairsOf_odd : ∀ l : List Nat, l.length % 2 = 1 → pairsOf l = none
  | [], h => by simp at h
  | [_], _ => rfl
  | a :: b :: r, h => by
    have e := pairsOf_odd r (by simp at h; omega)
    show (pairsOf r).map _ = _
    rw [e]; rfl
theorem pairs_length : ∀ l : List Nat, (pairs l).length = l.length / 2
  | [] => rfl
  | [_] => by simp [pairs, evens, odds]
  | a :: b :: r => by
    rw [pairs_cons2, List.length_cons, pairs_length r, List.length_cons, List.length_cons]
    omega
/-- the program's own test, point by point -/
def okFrom : Nat → Line → Bool
  | _, [] => true
  | least, p :: r => !(decide (p.1 < least) || decide (TIME ≤ p.1) || decide (FULL < p.2)) && okFrom (p.1 + 1) r
theorem okFrom_fine : ∀ (l : Line) (k : Nat), okFrom k l = ((l.all fun (p : Nat × Nat) => decide (p.1 < TIME) && decide (p.2 ≤ FULL)) && (rising l && (match l with | [] => true | p :: _ => decide (k ≤ p.1))))
  | [], _ => rfl
  | p :: r, k => by
    show (!(decide (p.1 < k) || decide (TIME ≤ p.1) || decide (FULL < p.2)) && okFrom (p.1 + 1) r) = _
    rw [okFrom_fine r (p.1 + 1), List.all_cons]
    have n1 : decide (TIME ≤ p.1) = !decide (p.1 < TIME) := by by_cases q : p.1 < TIME <;> simp [q] <;> omega
    have n2 : decide (FULL < p.2) = !decide (p.2 ≤ FULL) := by by_cases q : p.2 ≤ FULL <;> simp [q] <;> omega
    have n3 : decide (p.1 < k) = !decide (k ≤ p.1) := by by_cases q : k ≤ p.1 <;> simp [q] <;> omega
    rw [n1, n2, n3]
    cases r with
    | nil =>
      show _ = ((_ && _) && _ && (true && decide (k ≤ p.1)))
      cases decide (p.1 < TIME) <;> cases decide (p.2 ≤ FULL) <;> cases decide (k ≤ p.1) <;> simp [rising]
    | cons q r =>
      have e : rising (p :: q :: r) = (decide (p.1 < q.1) && rising (q :: r)) := rfl
      rw [e]
      show _ = ((_ && _) && _ && ((decide (p.1 < q.1) && rising (q :: r)) && decide (k ≤ p.1)))
      have e2 : decide (p.1 + 1 ≤ q.1) = decide (p.1 < q.1) := rfl
      simp only [e2]
      cases decide (p.1 < TIME) <;> cases decide (p.2 ≤ FULL) <;> cases decide (k ≤ p.1) <;> cases decide (p.1 < q.1) <;> cases rising (q :: r) <;> simp
theorem okFrom_line (l : Line) : (decide (l.length ≤ 16) && okFrom 0 l) = Line.fine l := by
  rw [okFrom_fine]
  show _ = (decide (l.length ≤ 16) && (_ && rising l))
  cases l with
  | nil => rfl
  | cons p r => simp
end Mu
end
section
namespace Mu
open ScoreNs
/-! ### a row read, part by part -/
theorem voicesIn_add : ∀ (j m : Nat) (l : List Nat), voicesIn (j + m) l = (voicesIn j l).bind fun x => (voicesIn m x.2).map fun y => (x.1 ++ y.1, y.2)
  | 0, m, l => by
    rw [Nat.zero_add]
    show _ = (voicesIn m l).map fun y => ([] ++ y.1, y.2)
    cases voicesIn m l <;> rfl
  | j + 1, m, l => by
    rw [show j + 1 + m = (j + m) + 1 by omega]
    match l with
    | a :: b :: c :: d :: e :: r =>
      show (voicesIn (j + m) r).map _ = ((voicesIn j r).map _).bind _
      rw [voicesIn_add j m r]
      cases voicesIn j r with
      | none => rfl
      | some x =>
        show ((voicesIn m x.2).map _).map _ = (voicesIn m x.2).map _
        cases voicesIn m x.2 <;> rfl
    | [] => rfl
    | [_] => rfl
    | [_, _] => rfl
    | [_, _, _] => rfl
    | [_, _, _, _] => rfl
theorem linesIn_add : ∀ (j m : Nat) (l : List Nat), linesIn (j + m) l = (linesIn j l).bind fun x => (linesIn m x.2).map fun y => (x.1 ++ y.1, y.2)
  | 0, m, l => by
    rw [Nat.zero_add]
    show _ = (linesIn m l).map fun y => ([] ++ y.1, y.2)
    cases linesIn m l <;> rfl
  | j + 1, m, l => by
    rw [show j + 1 + m = (j + m) + 1 by omega]
    match l with
    | n :: r =>
      show (if POINTS < n then none else (pointsIn n r).bind fun x => (linesIn (j + m) x.2).map _) = (if POINTS < n then none else (pointsIn n r).bind fun x => (linesIn j x.2).map _).bind _
      by_cases hn : POINTS < n
      · rw [if_pos hn, if_pos hn]; rfl
      · rw [if_neg hn, if_neg hn]
        cases pointsIn n r with
        | none => rfl
        | some x =>
          show (linesIn (j + m) x.2).map _ = ((linesIn j x.2).map _).bind _
          rw [linesIn_add j m x.2]
          cases linesIn j x.2 with
          | none => rfl
          | some z =>
            show ((linesIn m z.2).map _).map _ = (linesIn m z.2).map _
            cases linesIn m z.2 <;> rfl
    | [] => rfl
theorem notesIn_add : ∀ (j m : Nat) (l : List Nat), notesIn (j + m) l = (notesIn j l).bind fun x => (notesIn m x.2).map fun y => (x.1 ++ y.1, y.2)
  | 0, m, l => by
    rw [Nat.zero_add]
    show _ = (notesIn m l).map fun y => ([] ++ y.1, y.2)
    cases notesIn m l <;> rfl
  | j + 1, m, l => by
    rw [show j + 1 + m = (j + m) + 1 by omega]
    match l with
    | a :: b :: c :: d :: e :: f :: r =>
      show (notesIn (j + m) r).map _ = ((notesIn j r).map _).bind _
      rw [notesIn_add j m r]
      cases notesIn j r with
      | none => rfl
      | some x =>
        show ((notesIn m x.2).map _).map _ = (notesIn m x.2).map _
        cases notesIn m x.2 <;> rfl
    | [] => rfl
    | [_] => rfl
    | [_, _] => rfl
    | [_, _, _] => rfl
    | [_, _, _, _] => rfl
    | [_, _, _, _, _] => rfl
/-- points are pairs -/
theorem pointsIn_pairs : ∀ (n : Nat) (r : List Nat), 2 * n ≤ r.length → pointsIn n r = some (pairs (r.take (2 * n)), r.drop (2 * n))
  | 0, r, _ => by simp [pointsIn, pairs, evens]
  | n + 1, r, h => by
    match r, h with
    | a :: b :: r, h =>
      have e := pointsIn_pairs n r (by simp at h; omega)
      show (pointsIn n r).map _ = _
      rw [e, show 2 * (n + 1) = 2 * n + 1 + 1 by omega, List.take_succ_cons, List.take_succ_cons, pairs_cons2]
      rfl
    | [], h => simp at h
    | [_], h => simp at h; omega
theorem pointsIn_short : ∀ (n : Nat) (r : List Nat), r.length < 2 * n → pointsIn n r = none
  | 0, r, h => by omega
  | n + 1, r, h => by
    match r, h with
    | a :: b :: r, h =>
      have e := pointsIn_short n r (by simp at h; omega)
      show (pointsIn n r).map _ = _
      rw [e]; rfl
    | [], _ => rfl
    | [_], _ => rfl
/-! the reader stands behind the first j parts -/
theorem voices_step {j : Nat} {l vsr : List Nat} {vs : List Voice} {a b c d e : Nat} (h : voicesIn j l = some (vs, a :: b :: c :: d :: e :: vsr)) : voicesIn (j + 1) l = some (vs ++ [⟨a, b, c, d, e⟩], vsr) := by
  rw [voicesIn_add, h]; rfl
theorem voices_short {j : Nat} {l r : List Nat} {vs : List Voice} (h : voicesIn j l = some (vs, r)) (hl : r.length < 5) : voicesIn (j + 1) l = none := by
  rw [voicesIn_add, h]
  match r, hl with
  | [], _ => rfl
  | [_], _ => rfl
  | [_, _], _ => rfl
  | [_, _, _], _ => rfl
  | [_, _, _, _], _ => rfl
  | _ :: _ :: _ :: _ :: _ :: _, hl => simp at hl; omega
theorem voices_none {j k : Nat} {l : List Nat} (h : voicesIn j l = none) (hk : j ≤ k) : voicesIn k l = none := by
  obtain ⟨m, rfl⟩ : ∃ m, k = j + m := ⟨k - j, by omega⟩
  rw [voicesIn_add, h]; rfl
theorem voices_bad {j k : Nat} {l r : List Nat} {vs : List Voice} (h : voicesIn j l = some (vs, r)) (hb : vs.all Voice.fine = false) (hk : j ≤ k) : ∀ ws q, voicesIn k l = some (ws, q) → ws.all Voice.fine = false := by
  obtain ⟨m, rfl⟩ : ∃ m, k = j + m := ⟨k - j, by omega⟩
  intro ws q e
  rw [voicesIn_add, h] at e
  have e' : ((voicesIn m r).map fun y => (vs ++ y.1, y.2)) = some (ws, q) := e
  cases z : voicesIn m r with
  | none => rw [z] at e'; cases e'
  | some y =>
    rw [z] at e'
    have e2 : (vs ++ y.1, y.2) = (ws, q) := Option.some.inj e'
    rw [← (Prod.mk.inj e2).1, List.all_append, hb, Bool.false_and]
theorem lines_step {j n : Nat} {l r : List Nat} {ls : List Line} (h : linesIn j l = some (ls, n :: r)) (hn : n ≤ 16) (hr : 2 * n ≤ r.length) : linesIn (j + 1) l = some (ls ++ [pairs (r.take (2 * n))], r.drop (2 * n)) := by
  rw [linesIn_add, h]
  show (if POINTS < n then none else (pointsIn n r).bind fun x => (linesIn 0 x.2).map _).map _ = _
  rw [if_neg (by show ¬ 16 < n; omega), pointsIn_pairs n r hr]
  rfl
theorem lines_short {j n : Nat} {l r : List Nat} {ls : List Line} (h : linesIn j l = some (ls, n :: r)) (hr : r.length < 2 * n) : linesIn (j + 1) l = none := by
  rw [linesIn_add, h]
  show (if POINTS < n then none else (pointsIn n r).bind fun x => (linesIn 0 x.2).map _).map _ = _
  by_cases hn : POINTS < n
  · rw [if_pos hn]; rfl
  · rw [if_neg hn, pointsIn_short n r hr]; rfl
theorem lines_many {j n : Nat} {l r : List Nat} {ls : List Line} (h : linesIn j l = some (ls, n :: r)) (hn : 16 < n) : linesIn (j + 1) l = none := by
  rw [linesIn_add, h]
  show (if POINTS < n then none else (pointsIn n r).bind fun x => (linesIn 0 x.2).map _).map _ = _
  rw [if_pos (show POINTS < n from hn)]; rfl
theorem lines_nil {j : Nat} {l : List Nat} {ls : List Line} (h : linesIn j l = some (ls, [])) : linesIn (j + 1) l = none := by
  rw [linesIn_add, h]; rfl
theorem lines_none {j k : Nat} {l : List Nat} (h : linesIn j l = none) (hk : j ≤ k) : linesIn k l = none := by
  obtain ⟨m, rfl⟩ : ∃ m, k = j + m := ⟨k - j, by omega⟩
  rw [linesIn_add, h]; rfl
theorem lines_bad {j k : Nat} {l r : List Nat} {ls : List Line} (h : linesIn j l = some (ls, r)) (hb : ls.all Line.fine = false) (hk : j ≤ k) : ∀ ws q, linesIn k l = some (ws, q) → ws.all Line.fine = false := by
  obtain ⟨m, rfl⟩ : ∃ m, k = j + m := ⟨k - j, by omega⟩
  intro ws q e
  rw [linesIn_add, h] at e
  have e' : ((linesIn m r).map fun y => (ls ++ y.1, y.2)) = some (ws, q) := e
  cases z : linesIn m r with
  | none => rw [z] at e'; cases e'
  | some y =>
    rw [z] at e'
    have e2 : (ls ++ y.1, y.2) = (ws, q) := Option.some.inj e'
    rw [← (Prod.mk.inj e2).1, List.all_append, hb, Bool.false_and]
theorem notes_step {j : Nat} {l r : List Nat} {ns : List Note} {a b c d e f : Nat} (h : notesIn j l = some (ns, a :: b :: c :: d :: e :: f :: r)) : notesIn (j + 1) l = some (ns ++ [⟨a, b, c, d, e, f⟩], r) := by
  rw [notesIn_add, h]; rfl
theorem notes_short {j : Nat} {l r : List Nat} {ns : List Note} (h : notesIn j l = some (ns, r)) (hl : r.length < 6) : notesIn (j + 1) l = none := by
  rw [notesIn_add, h]
  match r, hl with
  | [], _ => rfl
  | [_], _ => rfl
  | [_, _], _ => rfl
  | [_, _, _], _ => rfl
  | [_, _, _, _], _ => rfl
  | [_, _, _, _, _], _ => rfl
  | _ :: _ :: _ :: _ :: _ :: _ :: _, hl => simp at hl; omega
theorem notes_none {j k : Nat} {l : List Nat} (h : notesIn j l = none) (hk : j ≤ k) : notesIn k l = none := by
  obtain ⟨m, rfl⟩ : ∃ m, k = j + m := ⟨k - j, by omega⟩
  rw [notesIn_add, h]; rfl
theorem notes_bad {j k : Nat} {l r : List Nat} {ns : List Note} (h : notesIn j l = some (ns, r)) (hb : ns.all Note.fine = false) (hk : j ≤ k) : ∀ ws q, notesIn k l = some (ws, q) → ws.all Note.fine = false := by
  obtain ⟨m, rfl⟩ : ∃ m, k = j + m := ⟨k - j, by omega⟩
  intro ws q e
  rw [notesIn_add, h] at e
  have e' : ((notesIn m r).map fun y => (ns ++ y.1, y.2)) = some (ws, q) := e
  cases z : notesIn m r with
  | none => rw [z] at e'; cases e'
  | some y =>
    rw [z] at e'
    have e2 : (ns ++ y.1, y.2) = (ws, q) := Option.some.inj e'
    rw [← (Prod.mk.inj e2).1, List.all_append, hb, Bool.false_and]
/-! the whole row -/
theorem fine_voices {s : Score} (h : s.voices.all Voice.fine = false) : s.fine = false := by
  unfold Score.fine; rw [h]; simp
theorem fine_lines {s : Score} (h : s.lines.all Line.fine = false) : s.fine = false := by
  unfold Score.fine; rw [h]; simp
theorem fine_next {s : Score} (h : s.next < 1 ∨ 4294967296 < s.next) : s.fine = false := by
  unfold Score.fine
  rcases h with h | h
  · rw [decide_eq_false (by omega : ¬ 1 ≤ s.next)]; simp
  · rw [decide_eq_false (by show ¬ s.next ≤ 4294967296; omega : ¬ s.next ≤ IDS)]; simp
theorem fine_notes {s : Score} (h : s.notes.all Note.fine = false) : s.fine = false := by
  unfold Score.fine; rw [h]; simp
theorem fine_ids {s : Score} (h : idsFine s = false) : s.fine = false := by
  unfold Score.fine; rw [h]; simp
theorem in_voices_none {l : List Nat} (h : voicesIn 8 l = none) : scoreIn l = none := by
  unfold scoreIn
  rw [show voicesIn VOICES l = none from h]; rfl
theorem in_voices_bad {l : List Nat} (h : ∀ ws q, voicesIn 8 l = some (ws, q) → ws.all Voice.fine = false) : scoreIn l = none := by
  unfold scoreIn
  cases e : voicesIn VOICES l with
  | none => rfl
  | some v =>
    have hb := h v.1 v.2 e
    show ((linesIn VOICES v.2).bind _) = none
    cases linesIn VOICES v.2 with
    | none => rfl
    | some p =>
      show (match p.2 with | next :: n :: r => _ | _ => none) = none
      match p.2 with
      | [] => rfl
      | [_] => rfl
      | next :: n :: r =>
        show (if NOTES < n then none else (notesIn n r).bind _) = none
        split
        · rfl
        · cases notesIn n r with
          | none => rfl
          | some m =>
            show (if m.2 = [] ∧ (⟨v.1, p.1, next, m.1⟩ : Score).fine = true then _ else none) = none
            rw [if_neg]
            rintro ⟨_, q⟩
            rw [fine_voices (s := ⟨v.1, p.1, next, m.1⟩) hb] at q; cases q
theorem in_lines {l r : List Nat} {vs : List Voice} (h : voicesIn 8 l = some (vs, r)) : scoreIn l = (linesIn 8 r).bind fun p => match p.2 with
  | next :: n :: r => if NOTES < n then none else (notesIn n r).bind fun m => if m.2 = [] ∧ (⟨vs, p.1, next, m.1⟩ : Score).fine = true then some ⟨vs, p.1, next, m.1⟩ else none
  | _ => none := by
  unfold scoreIn
  rw [show voicesIn VOICES l = some (vs, r) from h]; rfl
theorem in_lines_none {l r : List Nat} {vs : List Voice} (h : voicesIn 8 l = some (vs, r)) (h2 : linesIn 8 r = none) : scoreIn l = none := by
  rw [in_lines h, h2]; rfl
theorem in_lines_bad {l r : List Nat} {vs : List Voice} (h : voicesIn 8 l = some (vs, r)) (h2 : ∀ ws q, linesIn 8 r = some (ws, q) → ws.all Line.fine = false) : scoreIn l = none := by
  rw [in_lines h]
  cases e : linesIn 8 r with
  | none => rfl
  | some p =>
    have hb := h2 p.1 p.2 e
    show (match p.2 with | next :: n :: r => _ | _ => none) = none
    match p.2 with
    | [] => rfl
    | [_] => rfl
    | next :: n :: r =>
      show (if NOTES < n then none else (notesIn n r).bind _) = none
      split
      · rfl
      · cases notesIn n r with
        | none => rfl
        | some m =>
          show (if m.2 = [] ∧ (⟨vs, p.1, next, m.1⟩ : Score).fine = true then _ else none) = none
          rw [if_neg]
          rintro ⟨_, q⟩
          rw [fine_lines (s := ⟨vs, p.1, next, m.1⟩) hb] at q; cases q
def tailIn (vs : List Voice) (ls : List Line) : List Nat → Option Score
  | next :: n :: r => if NOTES < n then none else (notesIn n r).bind fun m => if m.2 = [] ∧ (⟨vs, ls, next, m.1⟩ : Score).fine = true then some ⟨vs, ls, next, m.1⟩ else none
  | _ => none
theorem in_tail {l r q : List Nat} {vs : List Voice} {ls : List Line} (h : voicesIn 8 l = some (vs, r)) (h2 : linesIn 8 r = some (ls, q)) : scoreIn l = tailIn vs ls q := by
  rw [in_lines h]
  clear h
  rw [h2]
  match q with
  | [] => rfl
  | [_] => rfl
  | _ :: _ :: _ => rfl
theorem in_tail_short {l r q : List Nat} {vs : List Voice} {ls : List Line} (h : voicesIn 8 l = some (vs, r)) (h2 : linesIn 8 r = some (ls, q)) (hq : q.length < 2) : scoreIn l = none := by
  rw [in_tail h h2]
  match q, hq with
  | [], _ => rfl
  | [_], _ => rfl
  | _ :: _ :: _, hq => simp at hq; omega
theorem in_next_bad {l r q : List Nat} {vs : List Voice} {ls : List Line} {next n : Nat} (h : voicesIn 8 l = some (vs, r)) (h2 : linesIn 8 r = some (ls, next :: n :: q)) (hb : next < 1 ∨ 4294967296 < next) : scoreIn l = none := by
  rw [in_tail h h2]
  show (if NOTES < n then none else (notesIn n q).bind _) = none
  split
  · rfl
  · cases notesIn n q with
    | none => rfl
    | some m =>
      show (if m.2 = [] ∧ (⟨vs, ls, next, m.1⟩ : Score).fine = true then _ else none) = none
      rw [if_neg]
      rintro ⟨_, z⟩
      rw [fine_next (s := ⟨vs, ls, next, m.1⟩) hb] at z; cases z
theorem in_many {l r q : List Nat} {vs : List Voice} {ls : List Line} {next n : Nat} (h : voicesIn 8 l = some (vs, r)) (h2 : linesIn 8 r = some (ls, next :: n :: q)) (hb : 64 < n) : scoreIn l = none := by
  rw [in_tail h h2]
  show (if NOTES < n then none else (notesIn n q).bind _) = none
  rw [if_pos (show NOTES < n from hb)]
theorem in_notes_none {l r q : List Nat} {vs : List Voice} {ls : List Line} {next n : Nat} (h : voicesIn 8 l = some (vs, r)) (h2 : linesIn 8 r = some (ls, next :: n :: q)) (hb : notesIn n q = none) : scoreIn l = none := by
  rw [in_tail h h2]
  show (if NOTES < n then none else (notesIn n q).bind _) = none
  rw [hb]
  split <;> rfl
theorem in_notes_bad {l r q : List Nat} {vs : List Voice} {ls : List Line} {next n : Nat} (h : voicesIn 8 l = some (vs, r)) (h2 : linesIn 8 r = some (ls, next :: n :: q)) (hb : ∀ ws z, notesIn n q = some (ws, z) → ws.all Note.fine = false ∨ z ≠ [] ∨ idsFine ⟨vs, ls, next, ws⟩ = false) : scoreIn l = none := by
  rw [in_tail h h2]
  show (if NOTES < n then none else (notesIn n q).bind _) = none
  split
  · rfl
  · cases e : notesIn n q with
    | none => rfl
    | some m =>
      show (if m.2 = [] ∧ (⟨vs, ls, next, m.1⟩ : Score).fine = true then _ else none) = none
      rw [if_neg]
      rintro ⟨z1, z⟩
      rcases hb m.1 m.2 e with k | k | k
      · rw [fine_notes (s := ⟨vs, ls, next, m.1⟩) k] at z; cases z
      · exact k z1
      · rw [fine_ids (s := ⟨vs, ls, next, m.1⟩) k] at z; cases z
theorem in_good {l r q : List Nat} {vs : List Voice} {ls : List Line} {ns : List Note} {next n : Nat} (h : voicesIn 8 l = some (vs, r)) (h2 : linesIn 8 r = some (ls, next :: n :: q)) (hn : n ≤ 64) (h3 : notesIn n q = some (ns, [])) (hf : (⟨vs, ls, next, ns⟩ : Score).fine = true) : scoreIn l = some ⟨vs, ls, next, ns⟩ := by
  rw [in_tail h h2]
  show (if NOTES < n then none else (notesIn n q).bind _) = _
  rw [if_neg (by show ¬ 64 < n; omega), h3]
  show (if ([] : List Nat) = [] ∧ (⟨vs, ls, next, ns⟩ : Score).fine = true then _ else none) = _
  rw [if_pos ⟨rfl, hf⟩]
theorem voicesIn_len : ∀ {k : Nat} {l r : List Nat} {vs : List Voice}, voicesIn k l = some (vs, r) → vs.length = k
  | 0, l, r, vs, h => by
    have e : ([], l) = (vs, r) := Option.some.inj h
    rw [← (Prod.mk.inj e).1]; rfl
  | k + 1, l, r, vs, h => by
    match l, h with
    | a :: b :: c :: d :: e :: l, h =>
      have h' : ((voicesIn k l).map fun (x : List Voice × List Nat) => ((⟨a, b, c, d, e⟩ : Voice) :: x.1, x.2)) = some (vs, r) := h
      cases z : voicesIn k l with
      | none => rw [z] at h'; cases h'
      | some x =>
        rw [z] at h'
        have e2 : ((⟨a, b, c, d, e⟩ : Voice) :: x.1, x.2) = (vs, r) := Option.some.inj h'
        rw [← (Prod.mk.inj e2).1, List.length_cons, voicesIn_len z]
theorem notesIn_len : ∀ {k : Nat} {l r : List Nat} {vs : List Note}, notesIn k l = some (vs, r) → vs.length = k
  | 0, l, r, vs, h => by
    have e : ([], l) = (vs, r) := Option.some.inj h
    rw [← (Prod.mk.inj e).1]; rfl
  | k + 1, l, r, vs, h => by
    match l, h with
    | a :: b :: c :: d :: e :: f :: l, h =>
      have h' : ((notesIn k l).map fun (x : List Note × List Nat) => ((⟨a, b, c, d, e, f⟩ : Note) :: x.1, x.2)) = some (vs, r) := h
      cases z : notesIn k l with
      | none => rw [z] at h'; cases h'
      | some x =>
        rw [z] at h'
        have e2 : ((⟨a, b, c, d, e, f⟩ : Note) :: x.1, x.2) = (vs, r) := Option.some.inj h'
        rw [← (Prod.mk.inj e2).1, List.length_cons, notesIn_len z]
end Mu
end
section
namespace Mu
open ScoreNs
structure VOk (v : Voice) : Prop where
  wave : v.wave ≤ 3
  rise : v.rise ≤ 65535
  fall : v.fall ≤ 65535
  stay : v.stay ≤ 256
  fade : v.fade ≤ 65535
theorem vok_iff (v : Voice) : v.fine = true ↔ VOk v := by
  unfold Voice.fine
  simp only [Bool.and_eq_true, decide_eq_true_eq]
  exact ⟨fun ⟨a, b, c, d, e⟩ => ⟨a, b, c, d, e⟩, fun h => ⟨h.wave, h.rise, h.fall, h.stay, h.fade⟩⟩
structure NOk (n : Note) : Prop where
  voice : n.voice < 8
  at_ : n.at_ < 1099511627776
  len1 : 1 ≤ n.len
  len : n.len ≤ 16777216
  step : n.step < 65536
  level : n.level ≤ 256
theorem nok_iff (n : Note) : n.fine = true ↔ NOk n := by
  unfold Note.fine
  simp only [Bool.and_eq_true, decide_eq_true_eq]
  exact ⟨fun ⟨a, b, c, d, e, f⟩ => ⟨a, b, c, d, e, f⟩, fun h => ⟨h.voice, h.at_, h.len1, h.len, h.step, h.level⟩⟩
structure LOk (l : Line) : Prop where
  len : l.length ≤ 16
  pts : ∀ p ∈ l, p.1 < 1099511627776 ∧ p.2 ≤ 256
  up : rising l = true
theorem lok_iff (l : Line) : Line.fine l = true ↔ LOk l := by
  unfold Line.fine
  simp only [Bool.and_eq_true, decide_eq_true_eq, List.all_eq_true]
  exact ⟨fun ⟨a, b, c⟩ => ⟨a, b, c⟩, fun h => ⟨h.len, h.pts, h.up⟩⟩
structure SOk (s : Score) : Prop where
  vlen : s.voices.length = 8
  vs : ∀ v ∈ s.voices, VOk v
  llen : s.lines.length = 8
  ls : ∀ l ∈ s.lines, LOk l
  next1 : 1 ≤ s.next
  next : s.next ≤ 4294967296
  nlen : s.notes.length ≤ 64
  ns : ∀ n ∈ s.notes, NOk n
  nd : (s.notes.map fun (n : Note) => n.id).Nodup
  ids : ∀ n ∈ s.notes, 1 ≤ n.id ∧ n.id < s.next
theorem sok_iff (s : Score) : s.fine = true ↔ SOk s := by
  unfold Score.fine idsFine
  simp only [Bool.and_eq_true, decide_eq_true_eq, List.all_eq_true, beq_iff_eq]
  constructor
  · rintro ⟨a, b, c, d, e, f, g, h, i, j⟩
    exact ⟨a, fun v hv => (vok_iff v).mp (b v hv), c, fun l hl => (lok_iff l).mp (d l hl), e, f, g, fun n hn => (nok_iff n).mp (h n hn), i, j⟩
  · intro h
    exact ⟨h.vlen, fun v hv => (vok_iff v).mpr (h.vs v hv), h.llen, fun l hl => (lok_iff l).mpr (h.ls l hl), h.next1, h.next, h.nlen, fun n hn => (nok_iff n).mpr (h.ns n hn), h.nd, h.ids⟩
theorem quiet_ok : VOk QUIET := ⟨by decide, by decide, by decide, by decide, by decide⟩
theorem nil_ok : LOk [] := ⟨by decide, fun _ h => (nomatch h), rfl⟩
theorem empty_ok : SOk empty := ⟨rfl, fun v hv => by rw [List.eq_of_mem_replicate hv]; exact quiet_ok, rfl, fun l hl => by rw [List.eq_of_mem_replicate hl]; exact nil_ok, by decide, by decide, by decide, fun n hn => (nomatch hn), by decide, fun n hn => (nomatch hn)⟩
theorem SOk.voice {s : Score} (h : SOk s) (v : Nat) : VOk (s.voice v) := by
  unfold Score.voice
  rw [List.getD_eq_getElem?_getD]
  cases e : s.voices[v]? with
  | none => exact quiet_ok
  | some x => exact h.vs x (List.mem_of_getElem? e)
theorem SOk.line {s : Score} (h : SOk s) (v : Nat) : LOk (s.line v) := by
  unfold Score.line
  rw [List.getD_eq_getElem?_getD]
  cases e : s.lines[v]? with
  | none => exact nil_ok
  | some x => exact h.ls x (List.mem_of_getElem? e)
theorem SOk.voice_at {s : Score} (h : SOk s) {v : Nat} (hv : v < 8) : s.voices[v]? = some (s.voice v) := by
  unfold Score.voice
  rw [List.getD_eq_getElem?_getD, List.getElem?_eq_getElem (by rw [h.vlen]; exact hv)]; rfl
theorem SOk.line_at {s : Score} (h : SOk s) {v : Nat} (hv : v < 8) : s.lines[v]? = some (s.line v) := by
  unfold Score.line
  rw [List.getD_eq_getElem?_getD, List.getElem?_eq_getElem (by rw [h.llen]; exact hv)]; rfl
/-! ### a note is moved in its place -/
theorem move_set {a i : Nat} : ∀ {l : List Note} {j : Nat} {n : Note}, (l.map fun (n : Note) => n.id).Nodup → l[j]? = some n → n.id = i → (l.map fun (n : Note) => if n.id = i then { n with at_ := a } else n) = l.set j { n with at_ := a }
  | [], j, n, _, h, _ => by simp at h
  | x :: l, 0, n, hd, h, e => by
    have q : x = n := Option.some.inj h
    subst q
    rw [List.map_cons, if_pos e, List.set_cons_zero]
    congr 1
    have hx := (List.nodup_cons.mp (show ((x.id :: l.map fun (n : Note) => n.id)).Nodup from hd)).1
    have : ∀ y ∈ l, (if y.id = i then { y with at_ := a } else y) = y := fun y hy => by
      rw [if_neg]
      intro z
      exact hx (by rw [e, ← z]; exact List.mem_map_of_mem hy)
    calc l.map (fun (n : Note) => if n.id = i then { n with at_ := a } else n) = l.map id := List.map_congr_left this
      _ = l := List.map_id l
  | x :: l, j + 1, n, hd, h, e => by
    have hx := List.nodup_cons.mp (show ((x.id :: l.map fun (n : Note) => n.id)).Nodup from hd)
    have h' : l[j]? = some n := h
    rw [List.map_cons, if_neg, List.set_cons_succ, move_set hx.2 h' e]
    intro z
    exact hx.1 (by rw [z, ← e]; exact List.mem_map_of_mem (List.mem_of_getElem? h'))
theorem move_ids {a i : Nat} (l : List Note) : ((l.map fun (n : Note) => if n.id = i then { n with at_ := a } else n).map fun (n : Note) => n.id) = l.map fun (n : Note) => n.id := by
  rw [List.map_map]
  refine List.map_congr_left fun n _ => ?_
  show (if n.id = i then { n with at_ := a } else n).id = n.id
  split <;> rfl
/-! ### a step keeps a score a score -/
structure StOk (s : State) : Prop where
  sc : SOk s.score
  pl : s.place ≤ 1099511627776
theorem start_ok : StOk start := ⟨empty_ok, by decide⟩
theorem step_ok {s : State} (h : StOk s) (c : Call) : StOk (step s c).1 := by
  cases c with
  | voice v w a b d e =>
    show StOk (if VOICES ≤ v ∨ (⟨w, a, b, d, e⟩ : Voice).fine = false then (s, says (-1)) else _).1
    split
    · exact h
    · rename_i q
      refine ⟨⟨by rw [← h.sc.vlen]; exact List.length_set .., fun x hx => ?_, h.sc.llen, h.sc.ls, h.sc.next1, h.sc.next, h.sc.nlen, h.sc.ns, h.sc.nd, h.sc.ids⟩, h.pl⟩
      rcases List.mem_or_eq_of_mem_set hx with z | z
      · exact h.sc.vs x z
      · subst z
        refine (vok_iff _).mp ?_
        cases z : (⟨w, a, b, d, e⟩ : Voice).fine
        · exact absurd (.inr z) q
        · rfl
  | line v l =>
    show StOk (if VOICES ≤ v then (s, says (-1)) else (match pairsOf l with
    | none => (s, says (-1))
    | some p => if Line.fine p = false then (s, says (-1)) else (⟨{ s.score with lines := s.score.lines.set v p }, s.place⟩, says (p.length : Nat)))).1
    split
    · exact h
    · split
      · exact h
      · rename_i p _
        split
        · exact h
        · rename_i q
          refine ⟨⟨h.sc.vlen, h.sc.vs, by rw [← h.sc.llen]; exact List.length_set .., fun x hx => ?_, h.sc.next1, h.sc.next, h.sc.nlen, h.sc.ns, h.sc.nd, h.sc.ids⟩, h.pl⟩
          rcases List.mem_or_eq_of_mem_set hx with z | z
          · exact h.sc.ls x z
          · subst z
            refine (lok_iff _).mp ?_
            cases z : Line.fine x
            · exact absurd z q
            · rfl
  | note v a n st lv =>
    show StOk (if (⟨s.score.next, v, a, n, st, lv⟩ : Note).fine = false then (s, says (-1)) else if NOTES ≤ s.score.notes.length ∨ IDS ≤ s.score.next then (s, says (-6)) else (⟨{ s.score with next := s.score.next + 1, notes := s.score.notes ++ [⟨s.score.next, v, a, n, st, lv⟩] }, s.place⟩, says ((⟨s.score.next, v, a, n, st, lv⟩ : Note).id : Nat))).1
    split
    · exact h
    · rename_i q
      split
      · exact h
      · rename_i q2
        have hlen : s.score.notes.length < 64 := by
          refine Nat.lt_of_not_le fun z => q2 (.inl z)
        have hnx : s.score.next < 4294967296 := by
          refine Nat.lt_of_not_le fun z => q2 (.inr z)
        refine ⟨⟨h.sc.vlen, h.sc.vs, h.sc.llen, h.sc.ls, by show 1 ≤ s.score.next + 1; omega, by show s.score.next + 1 ≤ _; omega, by show (s.score.notes ++ [_]).length ≤ 64; rw [List.length_append]; exact hlen, fun x hx => ?_, ?_, fun x hx => ?_⟩, h.pl⟩
        · rcases List.mem_append.mp hx with z | z
          · exact h.sc.ns x z
          · rw [List.mem_singleton.mp z]
            refine (nok_iff _).mp ?_
            cases z : (⟨s.score.next, v, a, n, st, lv⟩ : Note).fine
            · exact absurd z q
            · rfl
        · show ((s.score.notes ++ [_]).map _).Nodup
          rw [List.map_append]
          refine List.nodup_append.mpr ⟨h.sc.nd, by simp, fun x hx y hy => ?_⟩
          obtain ⟨m, hm, rfl⟩ := List.mem_map.mp hx
          have : y = s.score.next := by simpa using hy
          have := (h.sc.ids m hm).2
          omega
        · rcases List.mem_append.mp hx with z | z
          · have := h.sc.ids x z
            show 1 ≤ x.id ∧ x.id < s.score.next + 1
            omega
          · rw [List.mem_singleton.mp z]
            have := h.sc.next1
            show 1 ≤ s.score.next ∧ s.score.next < s.score.next + 1
            omega
  | drop i =>
    show StOk (if (s.score.notes.any fun (n : Note) => n.id == i) = false then (s, says (-4)) else (⟨{ s.score with notes := s.score.notes.filter fun (n : Note) => n.id != i }, s.place⟩, says 0)).1
    split
    · exact h
    · refine ⟨⟨h.sc.vlen, h.sc.vs, h.sc.llen, h.sc.ls, h.sc.next1, h.sc.next, Nat.le_trans (List.length_filter_le _ _) h.sc.nlen, fun x hx => h.sc.ns x (List.mem_filter.mp hx).1, ?_, fun x hx => h.sc.ids x (List.mem_filter.mp hx).1⟩, h.pl⟩
      exact h.sc.nd.sublist (List.filter_sublist.map _)
  | move i a =>
    show StOk (if TIME ≤ a then (s, says (-1)) else if (s.score.notes.any fun (n : Note) => n.id == i) = false then (s, says (-4)) else (⟨{ s.score with notes := s.score.notes.map fun (n : Note) => if n.id = i then { n with at_ := a } else n }, s.place⟩, says 0)).1
    split
    · exact h
    · rename_i ha
      have ha' : a < 1099511627776 := Nat.lt_of_not_le ha
      split
      · exact h
      · refine ⟨⟨h.sc.vlen, h.sc.vs, h.sc.llen, h.sc.ls, h.sc.next1, h.sc.next, ?_, fun x hx => ?_, ?_, fun x hx => ?_⟩, h.pl⟩
        · show (s.score.notes.map _).length ≤ 64
          rw [List.length_map]; exact h.sc.nlen
        · obtain ⟨m, hm, rfl⟩ := List.mem_map.mp hx
          have k := h.sc.ns m hm
          split
          · exact ⟨k.voice, ha', k.len1, k.len, k.step, k.level⟩
          · exact k
        · show ((s.score.notes.map _).map _).Nodup
          rw [move_ids]; exact h.sc.nd
        · obtain ⟨m, hm, rfl⟩ := List.mem_map.mp hx
          have k := h.sc.ids m hm
          split
          · exact k
          · exact k
  | seek t =>
    show StOk (if TIME ≤ t then (s, says (-1)) else (⟨s.score, t⟩, says 0)).1
    split
    · exact h
    · rename_i q
      exact ⟨h.sc, Nat.le_of_lt (Nat.lt_of_not_le q)⟩
  | play n =>
    show StOk (if isPart s.place n = false then (s, says (-1)) else (⟨s.score, s.place + n⟩, ⟨((s.place + n : Nat) : Int), [s.score.render s.place n]⟩)).1
    split
    · exact h
    · rename_i q
      refine ⟨h.sc, ?_⟩
      unfold isPart at q
      by_cases z : s.place + n ≤ TIME
      · exact z
      · exact absurd (by rw [decide_eq_false z, Bool.and_false]) q
  | load l =>
    show StOk (match scoreIn l with
    | none => (s, says (-6))
    | some x => (⟨x, s.place⟩, says (x.notes.length : Nat))).1
    split
    · exact h
    · rename_i x e
      refine ⟨(sok_iff x).mp ?_, h.pl⟩
      unfold scoreIn at e
      cases e1 : voicesIn VOICES l with
      | none => rw [e1] at e; cases e
      | some v =>
        have e' := e
        rw [e1] at e'
        have e2 : ((linesIn VOICES v.2).bind fun (p : List Line × List Nat) => match p.2 with
          | next :: n :: r => if NOTES < n then none else (notesIn n r).bind fun (m : List Note × List Nat) => if m.2 = [] ∧ (⟨v.1, p.1, next, m.1⟩ : Score).fine = true then some ⟨v.1, p.1, next, m.1⟩ else none
          | _ => none) = some x := e'
        cases e3 : linesIn VOICES v.2 with
        | none => rw [e3] at e2; cases e2
        | some p =>
          rw [e3] at e2
          have e4 : (match p.2 with
            | next :: n :: r => if NOTES < n then none else (notesIn n r).bind fun (m : List Note × List Nat) => if m.2 = [] ∧ (⟨v.1, p.1, next, m.1⟩ : Score).fine = true then some (⟨v.1, p.1, next, m.1⟩ : Score) else none
            | _ => none) = some x := e2
          match hp : p.2, e4 with
          | [], e4 => cases e4
          | [_], e4 => cases e4
          | next :: n :: r, e4 =>
            have e5 : (if NOTES < n then none else (notesIn n r).bind fun (m : List Note × List Nat) => if m.2 = [] ∧ (⟨v.1, p.1, next, m.1⟩ : Score).fine = true then some (⟨v.1, p.1, next, m.1⟩ : Score) else none) = some x := e4
            split at e5
            · cases e5
            · cases e6 : notesIn n r with
              | none => rw [e6] at e5; cases e5
              | some m =>
                rw [e6] at e5
                have e7 : (if m.2 = [] ∧ (⟨v.1, p.1, next, m.1⟩ : Score).fine = true then some (⟨v.1, p.1, next, m.1⟩ : Score) else none) = some x := e5
                split at e7
                · rename_i hh
                  rw [← Option.some.inj e7]; exact hh.2
                · cases e7
  | _ => exact h
/-! ### how long an answer may be -/
theorem flat_len {α β : Type} (f : α → List β) (k : Nat) : ∀ l : List α, (∀ x ∈ l, (f x).length ≤ k) → (l.flatMap f).length ≤ l.length * k
  | [], _ => by simp
  | x :: l, h => by
    have h1 := h x List.mem_cons_self
    have h2 := flat_len f k l fun y hy => h y (List.mem_cons_of_mem _ hy)
    rw [List.flatMap_cons, List.length_append, List.length_cons, Nat.succ_mul]
    omega
theorem line_row_len (l : Line) : (Line.row l).length = 1 + 2 * l.length := by
  show (l.flatMap fun (p : Nat × Nat) => [p.1, p.2]).length + 1 = _
  induction l with
  | nil => rfl
  | cons p r ih =>
    simp only [List.flatMap_cons, List.length_append, List.length_cons, List.length_nil] at ih ⊢
    omega
theorem row_len {s : Score} (h : SOk s) : s.row.length ≤ 690 := by
  unfold Score.row
  rw [List.length_append, List.length_append, List.length_cons, List.length_cons]
  have a := flat_len Voice.row 5 s.voices fun v _ => Nat.le_refl _
  have b := flat_len Line.row 33 s.lines fun l hl => by rw [line_row_len]; have := (h.ls l hl).len; omega
  have c := flat_len Note.row 6 s.notes fun n _ => Nat.le_refl _
  rw [h.vlen] at a
  rw [h.llen] at b
  have := h.nlen
  omega
theorem shown_says (z : Int) : ScoreNeutral.shown (says z) = [z] := rfl
theorem shown_one (z : Int) (l : List Int) : ScoreNeutral.shown ⟨z, [l]⟩ = z :: (l.length : Int) :: l := by
  show z :: ([l].flatMap _) = _
  simp
theorem part_le {f n : Nat} (h : ¬ isPart f n = false) : n ≤ 256 ∧ f + n ≤ 1099511627776 := by
  unfold isPart at h
  simp only [Bool.not_eq_false, Bool.and_eq_true, decide_eq_true_eq] at h
  exact h
theorem step_len {s : State} (h : StOk s) (c : Call) : (ScoreNeutral.shown (step s c).2).length ≤ 1000 := by
  have one : ∀ z : Int, (ScoreNeutral.shown (says z)).length ≤ 1000 := fun z => by show 1 ≤ 1000; decide
  have lst : ∀ (z : Int) (l : List Int), l.length ≤ 690 → (ScoreNeutral.shown ⟨z, [l]⟩).length ≤ 1000 := fun z l hl => by
    rw [shown_one, List.length_cons, List.length_cons]; omega
  cases c with
  | voice v w a b d e =>
    show (ScoreNeutral.shown (if VOICES ≤ v ∨ (⟨w, a, b, d, e⟩ : Voice).fine = false then (s, says (-1)) else _).2).length ≤ 1000
    split <;> exact one _
  | line v l =>
    show (ScoreNeutral.shown (if VOICES ≤ v then (s, says (-1)) else (match pairsOf l with
    | none => (s, says (-1))
    | some p => if Line.fine p = false then (s, says (-1)) else (⟨{ s.score with lines := s.score.lines.set v p }, s.place⟩, says (p.length : Nat)))).2).length ≤ 1000
    split
    · exact one _
    · split
      · exact one _
      · split <;> exact one _
  | note v a n st lv =>
    show (ScoreNeutral.shown (if (⟨s.score.next, v, a, n, st, lv⟩ : Note).fine = false then (s, says (-1)) else if NOTES ≤ s.score.notes.length ∨ IDS ≤ s.score.next then (s, says (-6)) else (⟨{ s.score with next := s.score.next + 1, notes := s.score.notes ++ [⟨s.score.next, v, a, n, st, lv⟩] }, s.place⟩, says ((⟨s.score.next, v, a, n, st, lv⟩ : Note).id : Nat))).2).length ≤ 1000
    split
    · exact one _
    · split <;> exact one _
  | drop i =>
    show (ScoreNeutral.shown (if (s.score.notes.any fun (n : Note) => n.id == i) = false then (s, says (-4)) else _).2).length ≤ 1000
    split <;> exact one _
  | move i a =>
    show (ScoreNeutral.shown (if TIME ≤ a then (s, says (-1)) else if (s.score.notes.any fun (n : Note) => n.id == i) = false then (s, says (-4)) else _).2).length ≤ 1000
    split
    · exact one _
    · split <;> exact one _
  | seek t =>
    show (ScoreNeutral.shown (if TIME ≤ t then (s, says (-1)) else (⟨s.score, t⟩, says 0)).2).length ≤ 1000
    split <;> exact one _
  | play n =>
    show (ScoreNeutral.shown (if isPart s.place n = false then (s, says (-1)) else (⟨s.score, s.place + n⟩, ⟨((s.place + n : Nat) : Int), [s.score.render s.place n]⟩)).2).length ≤ 1000
    split
    · exact one _
    · rename_i q
      have := part_le q
      exact lst _ _ (by unfold Score.render; rw [List.length_map, List.length_range]; omega)
  | load l =>
    show (ScoreNeutral.shown (match scoreIn l with
    | none => (s, says (-6))
    | some x => (⟨x, s.place⟩, says (x.notes.length : Nat))).2).length ≤ 1000
    split <;> exact one _
  | render f n =>
    show (ScoreNeutral.shown (if isPart f n = false then says (-1) else ⟨(n : Nat), [s.score.render f n]⟩)).length ≤ 1000
    split
    · exact one _
    · rename_i q
      have := part_le q
      exact lst _ _ (by unfold Score.render; rw [List.length_map, List.length_range]; omega)
  | raw f n =>
    show (ScoreNeutral.shown (if isPart f n = false then says (-1) else ⟨(n : Nat), [(List.range n).map fun (i : Nat) => s.score.sum (f + i)]⟩)).length ≤ 1000
    split
    · exact one _
    · rename_i q
      have := part_le q
      exact lst _ _ (by rw [List.length_map, List.length_range]; omega)
  | sounds t =>
    show (ScoreNeutral.shown (if TIME ≤ t then says (-1) else ⟨((s.score.at_ t).length : Nat), [ScoreNs.ints (s.score.at_ t)]⟩)).length ≤ 1000
    split
    · exact one _
    · refine lst _ _ ?_
      unfold ScoreNs.ints Score.at_
      rw [List.length_map, List.length_map]
      exact Nat.le_trans (List.length_filter_le _ _) (Nat.le_trans h.sc.nlen (by decide))
  | next t =>
    show (ScoreNeutral.shown (if TIME ≤ t then says (-1) else match s.score.next_ t with
    | none => says (-5)
    | some u => says (u : Nat))).length ≤ 1000
    split
    · exact one _
    · split <;> exact one _
  | loud v len k =>
    show (ScoreNeutral.shown (if VOICES ≤ v ∨ LENGTH < len ∨ 2 * LENGTH < k then says (-1) else _)).length ≤ 1000
    split <;> exact one _
  | lineAt v t =>
    show (ScoreNeutral.shown (if VOICES ≤ v ∨ TIME ≤ t then says (-1) else _)).length ≤ 1000
    split <;> exact one _
  | peak f n =>
    show (ScoreNeutral.shown (if isPart f n = false then says (-1) else ⟨((peakOf (s.score.render f n)).1 : Nat), [ScoreNs.ints [f + (peakOf (s.score.render f n)).2]]⟩)).length ≤ 1000
    split
    · exact one _
    · exact lst _ _ (by show 1 ≤ 690; decide)
  | notes =>
    show (ScoreNeutral.shown ⟨(s.score.notes.length : Nat), s.score.notes.map fun (n : Note) => ScoreNs.ints n.row⟩).length ≤ 1000
    unfold ScoreNeutral.shown
    rw [List.length_cons]
    have a := flat_len (fun (l : List Int) => (l.length : Int) :: l) 7 (s.score.notes.map fun (n : Note) => ScoreNs.ints n.row) fun x hx => by
      obtain ⟨n, _, rfl⟩ := List.mem_map.mp hx
      exact Nat.le_refl _
    rw [List.length_map] at a
    have := h.sc.nlen
    have b : s.score.notes.length * 7 ≤ 448 := by omega
    exact Nat.succ_le_succ (Nat.le_trans a (Nat.le_trans b (by decide)))
  | save =>
    show (ScoreNeutral.shown ⟨(s.score.row.length : Nat), [ScoreNs.ints s.score.row]⟩).length ≤ 1000
    exact lst _ _ (by unfold ScoreNs.ints; rw [List.length_map]; exact row_len h.sc)
/-! ### calls in one list -/
/-- the call of a number, by the numbers that stand behind it -/
def callAt : Nat → List Nat → Option Call
  | 0, [v, w, a, b, c, d] => some (.voice v w a b c d)
  | 1, v :: n :: l => if n = l.length then some (.line v l) else none
  | 2, [v, a, n, s, l] => some (.note v a n s l)
  | 3, [i] => some (.drop i)
  | 4, [i, a] => some (.move i a)
  | 5, [f, n] => some (.render f n)
  | 6, [f, n] => some (.raw f n)
  | 7, [t] => some (.sounds t)
  | 8, [t] => some (.next t)
  | 9, [v, n, k] => some (.loud v n k)
  | 10, [v, t] => some (.lineAt v t)
  | 11, [t] => some (.seek t)
  | 12, [n] => some (.play n)
  | 13, [f, n] => some (.peak f n)
  | 14, [] => some .notes
  | 15, [] => some .save
  | 16, n :: l => if n = l.length then some (.load l) else none
  | _, _ => none
def plain (p : Nat) : Nat := ([6, 1, 5, 1, 2, 2, 2, 1, 1, 3, 2, 1, 1, 2, 0, 0, 0] : List Nat).getD p 0
/-- what the loop needs of a call of the list: its number, its numbers, which call it is -/
structure Told (c : List (List Int)) (p : Nat) (ns : List Nat) (x : Call) : Prop where
  put : PyFlat.put1 c = (p : Int) :: ns.map fun (n : Nat) => (n : Int)
  lt : p < 17
  call : callAt p ns = some x
  of : ScoreNeutral.callOf c = some x
  len : (if p = 1 ∨ p = 16 then ∃ n, ns[plain p]? = some n ∧ ns.length = plain p + 1 + n else ns.length = plain p)
  big : ∀ n ∈ ns, n < 2 ^ 64
theorem nat_of {z : Int} (h : ScoreNeutral.natural z 64 = true) : ∃ n : Nat, z = (n : Int) ∧ n < 2 ^ 64 := by
  unfold ScoreNeutral.natural at h
  simp only [Bool.and_eq_true, decide_eq_true_eq] at h
  exact ⟨z.toNat, by omega, by omega⟩
theorem nats_of : ∀ {l : List Int}, (l.all fun (z : Int) => ScoreNeutral.natural z 64) = true → ∃ ns : List Nat, l = ns.map (fun (n : Nat) => (n : Int)) ∧ ∀ n ∈ ns, n < 2 ^ 64
  | [], _ => ⟨[], rfl, fun _ h => (nomatch h)⟩
  | z :: l, h => by
    rw [List.all_cons, Bool.and_eq_true] at h
    obtain ⟨n, rfl, hn⟩ := nat_of h.1
    obtain ⟨ns, rfl, hns⟩ := nats_of h.2
    refine ⟨n :: ns, rfl, fun m hm => ?_⟩
    rcases List.mem_cons.mp hm with e | e
    · rw [e]; exact hn
    · exact hns m e
theorem whole_nats : ∀ ns : List Nat, ScoreNeutral.whole (ns.map fun (n : Nat) => (n : Int)) = true
  | [] => rfl
  | n :: ns => by
    show (decide (0 ≤ (n : Int)) && ScoreNeutral.whole (ns.map _)) = true
    rw [whole_nats ns, decide_eq_true (by omega)]; rfl
theorem nats_cast (ns : List Nat) : ScoreNeutral.nats (ns.map fun (n : Nat) => (n : Int)) = ns := by
  unfold ScoreNeutral.nats
  rw [List.map_map]
  have : (Int.toNat ∘ fun (n : Nat) => (n : Int)) = id := by funext n; simp
  rw [this, List.map_id]
end Mu
end
section
namespace Mu
open ScoreNs
theorem whole_id (c : List (List Int)) : PyWrswav.whole c = c := by
  unfold PyWrswav.whole
  split <;> rfl
theorem told_row {c : List (List Int)} {p : Nat} {ns : List Nat} {x : Call} (put : PyFlat.put1 c = (p : Int) :: ns.map fun (n : Nat) => (n : Int)) (lt : p < 17) (call : callAt p ns = some x) (of : ScoreNeutral.callOf c = some x)
    (hp : ¬ (p = 1 ∨ p = 16)) (len : ns.length = plain p) (big : ∀ n ∈ ns, n < 2 ^ 64) : ∃ p ns x, Told c p ns x := ⟨p, ns, x, put, lt, call, of, by rw [if_neg hp]; exact len, big⟩
theorem big1 {a : Nat} (ha : a < 2 ^ 64) : ∀ n ∈ [a], n < 2 ^ 64 := fun n hn => by simp at hn; omega
theorem big2 {a b : Nat} (ha : a < 2 ^ 64) (hb : b < 2 ^ 64) : ∀ n ∈ [a, b], n < 2 ^ 64 := fun n hn => by simp at hn; omega
theorem big3 {a b c : Nat} (ha : a < 2 ^ 64) (hb : b < 2 ^ 64) (hc : c < 2 ^ 64) : ∀ n ∈ [a, b, c], n < 2 ^ 64 := fun n hn => by simp at hn; omega
theorem whole1 (a : Nat) : ScoreNeutral.whole [(a : Int)] = true := whole_nats [a]
theorem whole2 (a b : Nat) : ScoreNeutral.whole [(a : Int), (b : Int)] = true := whole_nats [a, b]
theorem whole3 (a b c : Nat) : ScoreNeutral.whole [(a : Int), (b : Int), (c : Int)] = true := whole_nats [a, b, c]
theorem put1_nil (a : List Int) : PyFlat.put1 [a] = a := by show a ++ [] = a; exact List.append_nil a
theorem put1_one (a b : List Int) : PyFlat.put1 [a, b] = a ++ (b.length : Int) :: b := by
  show a ++ (((b.length : Int) :: b) ++ []) = _
  rw [List.append_nil]
theorem told_of {c : List (List Int)} (h : ScoreNeutral.asked1 c = true) (hlen : (PyFlat.put1 c).length ≤ 16000) : ∃ p ns x, Told c p ns x := by
  unfold ScoreNeutral.asked1 at h
  split at h
  · simp only [Bool.and_eq_true] at h
    obtain ⟨⟨⟨⟨⟨h1, h2⟩, h3⟩, h4⟩, h5⟩, h6⟩ := h
    obtain ⟨a, rfl, ha⟩ := nat_of h1
    obtain ⟨b, rfl, hb⟩ := nat_of h2
    obtain ⟨c, rfl, hc⟩ := nat_of h3
    obtain ⟨d, rfl, hd⟩ := nat_of h4
    obtain ⟨e, rfl, he⟩ := nat_of h5
    obtain ⟨f, rfl, hf⟩ := nat_of h6
    refine told_row (p := 0) (ns := [a, b, c, d, e, f]) (put1_nil _) (by decide) rfl ?_ (by decide) rfl (fun n hn => by simp at hn; omega)
    show (if ScoreNeutral.whole [(a : Int), (b : Int), (c : Int), (d : Int), (e : Int), (f : Int)] = true then some (Call.voice a b c d e f) else none) = _
    exact if_pos (whole_nats [a, b, c, d, e, f])
  · simp only [Bool.and_eq_true] at h
    obtain ⟨a, rfl, ha⟩ := nat_of h.1
    obtain ⟨ns, rfl, hns⟩ := nats_of h.2
    rw [put1_one, List.length_append, List.length_cons, List.length_map] at hlen
    refine ⟨1, a :: ns.length :: ns, .line a ns, by rw [put1_one, List.length_map]; rfl, by decide, by show (if ns.length = ns.length then _ else _) = _; rw [if_pos rfl], ?_, ?_, fun n hn => ?_⟩
    · show (if (ScoreNeutral.whole [(a : Int)] && ScoreNeutral.whole (ns.map fun (n : Nat) => (n : Int))) = true then some (Call.line a (ScoreNeutral.nats (ns.map fun (n : Nat) => (n : Int)))) else none) = _
      rw [whole1, whole_nats, nats_cast]; rfl
    · rw [if_pos (by decide)]
      exact ⟨ns.length, rfl, by rw [List.length_cons, List.length_cons]; show _ = 1 + 1 + _; omega⟩
    · rcases List.mem_cons.mp hn with q | q
      · rw [q]; exact ha
      · rcases List.mem_cons.mp q with q | q
        · rw [q]
          simp only [List.length_cons, List.length_map] at hlen
          omega
        · exact hns n q
  · simp only [Bool.and_eq_true] at h
    obtain ⟨⟨⟨⟨h1, h2⟩, h3⟩, h4⟩, h5⟩ := h
    obtain ⟨a, rfl, ha⟩ := nat_of h1
    obtain ⟨b, rfl, hb⟩ := nat_of h2
    obtain ⟨c, rfl, hc⟩ := nat_of h3
    obtain ⟨d, rfl, hd⟩ := nat_of h4
    obtain ⟨e, rfl, he⟩ := nat_of h5
    refine told_row (p := 2) (ns := [a, b, c, d, e]) (put1_nil _) (by decide) rfl ?_ (by decide) rfl (fun n hn => by simp at hn; omega)
    show (if ScoreNeutral.whole [(a : Int), (b : Int), (c : Int), (d : Int), (e : Int)] = true then some (Call.note a b c d e) else none) = _
    exact if_pos (whole_nats [a, b, c, d, e])
  · obtain ⟨a, rfl, ha⟩ := nat_of h
    refine told_row (p := 3) (ns := [a]) (put1_nil _) (by decide) rfl ?_ (by decide) rfl (big1 ha)
    show (if ScoreNeutral.whole [(a : Int)] = true then some (Call.drop a) else none) = _
    rw [if_pos (whole1 a)]
  · simp only [Bool.and_eq_true] at h
    obtain ⟨a, rfl, ha⟩ := nat_of h.1
    obtain ⟨b, rfl, hb⟩ := nat_of h.2
    refine told_row (p := 4) (ns := [a, b]) (put1_nil _) (by decide) rfl ?_ (by decide) rfl (big2 ha hb)
    show (if ScoreNeutral.whole [(a : Int), (b : Int)] = true then some (Call.move a b) else none) = _
    rw [if_pos (whole2 a b)]
  · simp only [Bool.and_eq_true] at h
    obtain ⟨a, rfl, ha⟩ := nat_of h.1
    obtain ⟨b, rfl, hb⟩ := nat_of h.2
    refine told_row (p := 5) (ns := [a, b]) (put1_nil _) (by decide) rfl ?_ (by decide) rfl (big2 ha hb)
    show (if ScoreNeutral.whole [(a : Int), (b : Int)] = true then some (Call.render a b) else none) = _
    rw [if_pos (whole2 a b)]
  · simp only [Bool.and_eq_true] at h
    obtain ⟨a, rfl, ha⟩ := nat_of h.1
    obtain ⟨b, rfl, hb⟩ := nat_of h.2
    refine told_row (p := 6) (ns := [a, b]) (put1_nil _) (by decide) rfl ?_ (by decide) rfl (big2 ha hb)
    show (if ScoreNeutral.whole [(a : Int), (b : Int)] = true then some (Call.raw a b) else none) = _
    rw [if_pos (whole2 a b)]
  · obtain ⟨a, rfl, ha⟩ := nat_of h
    refine told_row (p := 7) (ns := [a]) (put1_nil _) (by decide) rfl ?_ (by decide) rfl (big1 ha)
    show (if ScoreNeutral.whole [(a : Int)] = true then some (Call.sounds a) else none) = _
    rw [if_pos (whole1 a)]
  · obtain ⟨a, rfl, ha⟩ := nat_of h
    refine told_row (p := 8) (ns := [a]) (put1_nil _) (by decide) rfl ?_ (by decide) rfl (big1 ha)
    show (if ScoreNeutral.whole [(a : Int)] = true then some (Call.next a) else none) = _
    rw [if_pos (whole1 a)]
  · simp only [Bool.and_eq_true] at h
    obtain ⟨a, rfl, ha⟩ := nat_of h.1.1
    obtain ⟨b, rfl, hb⟩ := nat_of h.1.2
    obtain ⟨c, rfl, hc⟩ := nat_of h.2
    refine told_row (p := 9) (ns := [a, b, c]) (put1_nil _) (by decide) rfl ?_ (by decide) rfl (big3 ha hb hc)
    show (if ScoreNeutral.whole [(a : Int), (b : Int), (c : Int)] = true then some (Call.loud a b c) else none) = _
    rw [if_pos (whole3 a b c)]
  · simp only [Bool.and_eq_true] at h
    obtain ⟨a, rfl, ha⟩ := nat_of h.1
    obtain ⟨b, rfl, hb⟩ := nat_of h.2
    refine told_row (p := 10) (ns := [a, b]) (put1_nil _) (by decide) rfl ?_ (by decide) rfl (big2 ha hb)
    show (if ScoreNeutral.whole [(a : Int), (b : Int)] = true then some (Call.lineAt a b) else none) = _
    rw [if_pos (whole2 a b)]
  · obtain ⟨a, rfl, ha⟩ := nat_of h
    refine told_row (p := 11) (ns := [a]) (put1_nil _) (by decide) rfl ?_ (by decide) rfl (big1 ha)
    show (if ScoreNeutral.whole [(a : Int)] = true then some (Call.seek a) else none) = _
    rw [if_pos (whole1 a)]
  · obtain ⟨a, rfl, ha⟩ := nat_of h
    refine told_row (p := 12) (ns := [a]) (put1_nil _) (by decide) rfl ?_ (by decide) rfl (big1 ha)
    show (if ScoreNeutral.whole [(a : Int)] = true then some (Call.play a) else none) = _
    rw [if_pos (whole1 a)]
  · simp only [Bool.and_eq_true] at h
    obtain ⟨a, rfl, ha⟩ := nat_of h.1
    obtain ⟨b, rfl, hb⟩ := nat_of h.2
    refine told_row (p := 13) (ns := [a, b]) (put1_nil _) (by decide) rfl ?_ (by decide) rfl (big2 ha hb)
    show (if ScoreNeutral.whole [(a : Int), (b : Int)] = true then some (Call.peak a b) else none) = _
    rw [if_pos (whole2 a b)]
  · exact told_row (p := 14) (ns := []) (put1_nil _) (by decide) rfl rfl (by decide) rfl (fun n hn => (nomatch hn))
  · exact told_row (p := 15) (ns := []) (put1_nil _) (by decide) rfl rfl (by decide) rfl (fun n hn => (nomatch hn))
  · obtain ⟨ns, rfl, hns⟩ := nats_of h
    rw [put1_one, List.length_append, List.length_cons, List.length_map] at hlen
    refine ⟨16, ns.length :: ns, .load ns, by rw [put1_one, List.length_map]; rfl, by decide, by show (if ns.length = ns.length then _ else _) = _; rw [if_pos rfl], ?_, ?_, fun n hn => ?_⟩
    · show (if ScoreNeutral.whole (ns.map fun (n : Nat) => (n : Int)) = true then some (Call.load (ScoreNeutral.nats (ns.map fun (n : Nat) => (n : Int)))) else none) = _
      rw [whole_nats, nats_cast]; rfl
    · rw [if_pos (by decide)]
      exact ⟨ns.length, rfl, by rw [List.length_cons]; show _ = 0 + 1 + _; omega⟩
    · rcases List.mem_cons.mp hn with q | q
      · rw [q]
        simp only [List.length_cons, List.length_map] at hlen
        omega
      · exact hns n q
  · cases h
/-! ### the whole list -/
/-- the answers to the calls from a state on, as one list -/
def toldFrom (s : State) (cs : List (List (List Int))) : List Int := PyFlat.told (PyFlat.played ScoreNeutral.step s cs)
theorem toldFrom_nil (s : State) : toldFrom s [] = [] := rfl
theorem toldFrom_cons {s : State} {c : List (List Int)} {x : Call} (cs : List (List (List Int))) (h : ScoreNeutral.callOf c = some x) :
    toldFrom s (c :: cs) = ((ScoreNeutral.shown (step s x).2).length : Int) :: ScoreNeutral.shown (step s x).2 ++ toldFrom (step s x).1 cs := by
  have e : ScoreNeutral.step s c = ((step s x).1, ScoreNeutral.shown (step s x).2) := by
    unfold ScoreNeutral.step
    rw [h]
  show PyFlat.told ((ScoreNeutral.step s c).2 :: PyFlat.played ScoreNeutral.step (ScoreNeutral.step s c).1 cs) = _
  rw [e]
  rfl
theorem put_le {c : List (List Int)} : ∀ {cs : List (List (List Int))}, c ∈ cs → (PyFlat.put1 c).length ≤ (PyFlat.put cs).length
  | [], h => by cases h
  | d :: ds, h => by
    show _ ≤ (PyFlat.put1 d ++ PyFlat.put ds).length
    rw [List.length_append]
    rcases List.mem_cons.mp h with q | q
    · rw [q]; omega
    · have := put_le q; omega
theorem answers_of {l : List Int} (h : PyWrswav.answers_asked l = true) (hlen : l.length ≤ 16000) : ∃ cs : List (List (List Int)), l = PyFlat.put cs ∧ cs.length ≤ 1000 ∧ (∀ c ∈ cs, ∃ p ns x, Told c p ns x) ∧ PyWrswav.answers l = toldFrom start cs := by
  unfold PyWrswav.answers_asked at h
  unfold PyWrswav.answers
  unfold PyWrswav.calls at h ⊢
  cases e : PyFlat.calls PyWrswav.shape l.length l with
  | none => rw [e] at h; cases h
  | some cs =>
    rw [e] at h
    have em : cs.map PyWrswav.whole = cs := by
      have : PyWrswav.whole = id := by funext c; exact whole_id c
      rw [this, List.map_id]
    have h' : (PyFlat.atMost 1000 (cs.map PyWrswav.whole) && ScoreNeutral.asked (cs.map PyWrswav.whole)) = true := h
    rw [em, Bool.and_eq_true] at h'
    obtain ⟨e1, _⟩ := PyFlat.put_calls _ _ _ e
    refine ⟨cs, e1, of_decide_eq_true h'.1, fun c hc => told_of (List.all_eq_true.mp h'.2 c hc) ?_, ?_⟩
    · rw [e1] at hlen
      exact Nat.le_trans (put_le hc) hlen
    · show PyFlat.told (PyFlat.played ScoreNeutral.step ScoreNeutral.start (cs.map PyWrswav.whole)) = _
      rw [em]; rfl
end Mu
end
section
namespace Mu
theorem evens_drop {α : Type} (xs : List α) {a : Nat} {x : α} (h : xs[a]? = some x) : evens (xs.drop a) = x :: evens (xs.drop (a + 2)) := by
  have ha : a < xs.length := (List.getElem?_eq_some_iff.mp h).1
  have e1 : xs.drop a = x :: xs.drop (a + 1) := by
    rw [List.drop_eq_getElem_cons ha]
    congr 1
    exact (List.getElem?_eq_some_iff.mp h).2
  rw [e1]
  cases e2 : xs.drop (a + 1) with
  | nil =>
    have : xs.drop (a + 2) = [] := by
      have hl := congrArg List.length e2
      rw [List.length_drop, List.length_nil] at hl
      exact List.drop_eq_nil_of_le (by omega)
    rw [this]
    simp [evens]
  | cons y r =>
    have : xs.drop (a + 2) = r := by
      have := congrArg (List.drop 1) e2
      rw [List.drop_drop] at this
      exact this
    rw [this]; rfl
theorem pick2 {α : Type} (xs : List α) : ∀ (c a : Nat), c = (xs.length - a + 1) / 2 → ((List.range c).map fun k => a + 2 * k).filterMap (fun i => xs[i]?) = evens (xs.drop a)
  | 0, a, h => by
    have : xs.drop a = [] := List.drop_eq_nil_of_le (by omega)
    rw [this]
    simp [evens]
  | c + 1, a, h => by
    have ha : a < xs.length := by omega
    obtain ⟨x, hx⟩ : ∃ x, xs[a]? = some x := ⟨_, List.getElem?_eq_getElem ha⟩
    have ih := pick2 xs c (a + 2) (by omega)
    rw [List.range_succ_eq_map, List.map_cons, List.filterMap_cons]
    have e : xs[a + 2 * 0]? = some x := hx
    rw [e]
    show x :: _ = _
    rw [evens_drop xs hx, ← ih, List.map_map]
    congr 2
    refine List.map_congr_left fun k _ => ?_
    show a + 2 * (k + 1) = a + 2 + 2 * k
    omega
end Mu
end
section
set_option Elab.async false
set_option maxRecDepth 100000
set_option maxHeartbeats 4000000
namespace PySem
open Sem (wp)
open AutoSeq1 (wpAny_loadPart')
theorem enS_type (a b : Value) : checkTypeCall "enumerate" ⟨[a], [("start", b)]⟩ = pure () := by kernel_rfl
theorem enS_new (a b : Value) : checkBuiltinCall "enumerate.__new__" ⟨[.type "enumerate", a], [("start", b)]⟩ = pure () := by kernel_rfl
theorem enS_init (o a b : Value) : argsOk "object.__init__" ⟨[o, a], [("start", b)]⟩ := by
  unfold argsOk; rw [signature?_of (id := "object.__init__") (n := ['_', '_', 't', 'i', 'n', 'i', '_', '_']) (o := ['t', 'c', 'e', 'j', 'b', 'o']) (by kernel_rfl) F.owner_object]; kernel_rfl
section
variable {prog : Program} {w : World} {A : Around} {E : Value → Shared → Prop} {s : Shared}
theorem callType_meetsK {T newId initId : String} {Bn Bi : Builtin} {args : List Value} {kw : List (Str × Value)} {S : Spec} {Q Q₁ : Value → Shared → Prop} (ft : TypeCalled T newId initId)
    (hct : checkTypeCall T ⟨args, kw⟩ = pure ()) (hcn : checkBuiltinCall newId ⟨.type T :: args, kw⟩ = pure ())
    (entryN : entryFor table newId = some Bn) (entryI : entryFor table initId = some Bi) (g : Meets (Bn ⟨.type T :: args, kw⟩) S)
    (h : S A.in1 (wants Q₁ E) s)
    (hnext : ∀ obj s₁, Q₁ obj s₁ → s₁.TypeIs obj T ∧ argsOk initId ⟨obj :: args, kw⟩ ∧ ∃ Si, Meets (Bi ⟨obj :: args, kw⟩) Si ∧ Si A.in1 (wants (fun r s₂ => r = .none ∧ Q obj s₂) E) s₁) :
    wpAny (model prog w) A (call (.type T) args kw) Q E s := by
  obtain ⟨c, tl, hmro⟩ := ft.mro
  have hmade := ft.made
  have hsub := ft.sub
  refine wpAny_call (codeAny_of_tree ?_)
  show wpAny _ _ (callAny (.type T) _) _ _ _
  refine wpAny_pure ⟨Code.quiet_builtin _ (by decide +kernel), codeAny_builtin F.entry_type_call ?_⟩
  rw [Around.under_plain (weight_type_call_type T args kw) (units_type_call_type T args kw)]
  have h1 := ft.notType
  have h2 := ft.canCreate
  repeat (any_goals (first | assumption | wp_step))
  refine codeAny_mono (codeAny_call_builtin ft.plain entryN (wpAny_of_eq hcn (g prog w A.in1 _ s h))) fun r s₁ hr => ?_
  cases r with
  | error e => exact hr
  | ok fl =>
    cases fl with
    | ret obj =>
      obtain ⟨hT, hok, Si, gi, hsi⟩ := hnext _ _ hr
      have hli := ft.init.lookup
      have hbi := ft.init.bind obj
      repeat (any_goals (first | assumption | wp_step))
      refine codeAny_mono (codeAny_call_builtin ft.init.plain entryI (ft.init.check _ _ _ _ _ _ _ _ hT hok (gi prog w A.in1 _ s₁ hsi))) fun r₂ s₂ hr₂ => ?_
      cases r₂ with
      | error e => exact hr₂
      | ok fl₂ =>
        cases fl₂ with
        | ret r =>
          obtain ⟨rfl, hq⟩ := hr₂
          repeat (any_goals (first | assumption | wp_step))
        | _ => exact hr₂.elim
    | _ => exact hr.elim
theorem object_init_meetsK {T newId : String} {self a : Value} {rest : List Value} {kw : List (Str × Value)} (hl : typeLookup (.type T) "__init__" = pure (some (.builtin "object.__init__")))
    (hm : Bind.madeBy (.type T) = pure (some newId)) (hne : (some newId != some "object.__new__") = true) :
    Meets (Builtin.«object.__init__» ⟨self :: a :: rest, kw⟩) (fun _ R s => s.TypeIs self T ∧ R (.ok (.ret .none)) s) := by
  refine Meets.of_wp fun prog w A R s hs => ?_
  obtain ⟨hT, hq⟩ := hs
  repeat (any_goals (first | assumption | wp_step))
  exact ⟨_, rfl, hq⟩
theorem meets_enumerate_newS2 (l : Addr) (items : Array Value) (n : Nat) (dct : Option Addr) (sl : Array (Option Value)) (i : Int) (t : Tok) (hi : -(2 ^ 62) ≤ i ∧ i < 2 ^ 62) :
    Meets (Builtin.«enumerate.__new__» ⟨[.type "enumerate", .ref l], [("start", .int i t)]⟩) (fun _ R s => s.heap.get? l = some { cls := .type "list", dict := dct, data := .seq items n, slots := sl } ∧
      R (.ok (.ret (.ref (s.heap.push { cls := .type "list_iterator", data := .fields #[.ref l, .int 0 0] }).objs.size)))
        { s with heap := (s.heap.push { cls := .type "list_iterator", data := .fields #[.ref l, .int 0 0] }).push { cls := .type "enumerate", data := .fields #[.none, .bool false, .ref s.heap.objs.size, rawInt i, .none, .none] } }) :=
  .of_wp fun prog w A R s h => by
    obtain ⟨hp, g, d, tk, os⟩ := s; obtain ⟨hl, h⟩ := h
    have hsub := sub_enumerate
    have hL : Heap.IsList (Shared.heap ⟨hp, g, d, tk, os⟩) l items := ⟨_, hl, rfl, n, rfl⟩
    wp_walk using wpAny_loadPart' hl
    refine wpAny_stack_any fun st => wpAny_pure ?_
    have hfit : (!Builtin.SmallTypes.fitsIndex i) = false := by
      unfold Builtin.SmallTypes.fitsIndex
      simp
      omega
    have hidx := AutoSeq1.idx_int
    split
    · rename_i c _ _ _ _ _
      cases (c == Value.type "enumerate")
      · wp_walk using wpAny_loadPart' hl, wpAny_pyIter_list hL
        exact ⟨_, rfl, h⟩
      · wp_walk using wpAny_loadPart' hl, wpAny_pyIter_list hL
        exact ⟨_, rfl, h⟩
    · wp_walk using wpAny_loadPart' hl, wpAny_pyIter_list hL
      exact ⟨_, rfl, h⟩
theorem enSt_next {prog : Program} {w : World} {A : Around} {E : Value → Shared → Prop} {s : Shared} {e it l : Addr} {i : Nat} {j : Int} {items : Array Value} {x old : Value} {Q : Value → Shared → Prop}
    (he : IsEnum s.heap e it j old) (hit : s.heap.IsListIter it l i) (hl : s.heap.IsList l items) (hx : items[i]? = some x) (hne : e ≠ it)
    (hQ : ∀ h', IsEnumOut h' e it (j + 1) x s.heap.objs.size → h'.IsListIter it l (i + 1) →
      h'.get? s.heap.objs.size = some { cls := .type "tuple", data := .seq #[.int j s.toks, x] } → h'.objs.size = s.heap.objs.size + 1 →
      (∀ b o, b ≠ e → b ≠ it → s.heap.get? b = some o → h'.get? b = some o) → Q (.ref s.heap.objs.size) { s with heap := h', toks := s.toks + 1 }) :
    wpAny (model prog w) A (Builtin.«enumerate.__next__» ⟨[.ref e], []⟩) (fun fin s' => ∃ v, fin = .done (.ret v) ∧ Q v s') E s := by
  obtain ⟨hp, g, d, tk, os⟩ := s
  unfold Builtin.«enumerate.__next__»
  have he0 : hp.get? e = some { cls := .type "enumerate", dict := none, data := .fields #[.none, .bool false, .ref it, rawInt j, .none, old], slots := #[] } := he
  have nx : ∀ Q', (∀ h', h'.IsListIter it l (i + 1) → Heap.SameBut it hp h' → Q' x ⟨h', g, d, tk, os⟩) → wpAny (model prog w) A (Builtin.SmallTypes.nextOf (.ref it)) Q' E ⟨hp, g, d, tk, os⟩ := fun Q' k => wpAny_nextOf_list_item hit hl hx k
  refine wpAny_bind (wpAny_of_eq (a := (Value.ref e, [])) rfl ?_)
  refine wpAny_bind (wpAny_field he0 rfl (x := .ref it) rfl (wpAny_bind (nx _ fun g1 it1 sb1 => ?_)))
  have he1 := (sb1.2 e hne).trans he0
  have sz1 : g1.objs.size = hp.objs.size := sb1.1
  refine wpAny_bind (wpAny_field he1 rfl (x := rawInt j) rfl ?_)
  show wpAny _ _ (field (.ref e) 4 >>= _) _ _ _
  refine wpAny_bind (wpAny_field he1 rfl (x := .none) rfl ?_)
  refine wpAny_bind (wpAny_mkInt ?_)
  refine wpAny_bind (wpAny_setField_rec he1 (by simp) fun g2 he2 sb2 => wpAny_bind (wpAny_setField_rec he2 (by simp) fun g3 he3 sb3 => wpAny_bind (wpAny_newTuple ?_)))
  have sz3 : g3.objs.size = hp.objs.size := sb3.1.trans (sb2.1.trans sz1)
  have lt0 : e < hp.objs.size := Heap.lt_size he0
  have nee : hp.objs.size ≠ e := Nat.ne_of_gt lt0
  have he4 := Heap.get?_push_of_some { cls := .type "tuple", data := .seq #[.int j tk, x] } he3
  have tp4 : (g3.push { cls := .type "tuple", data := .seq #[.int j tk, x] }).get? hp.objs.size = some { cls := .type "tuple", data := .seq #[.int j tk, x] } := by rw [← sz3]; exact Heap.get?_push_size _ rfl
  have sz4 : (g3.push { cls := .type "tuple", data := .seq #[.int j tk, x] }).objs.size = hp.objs.size + 1 := by rw [Heap.size_push, sz3]
  have kp4 : ∀ b o, b ≠ e → b ≠ it → hp.get? b = some o → (g3.push { cls := .type "tuple", data := .seq #[.int j tk, x] }).get? b = some o := fun b o n1 n2 q =>
    Heap.get?_push_of_some _ ((sb3.2 b n1).trans ((sb2.2 b n1).trans ((sb1.2 b n2).trans q)))
  have it4 : (g3.push { cls := .type "tuple", data := .seq #[.int j tk, x] }).IsListIter it l (i + 1) := it1.at fun o q => Heap.get?_push_of_some _ ((sb3.2 it hne.symm).trans ((sb2.2 it hne.symm).trans q))
  show wpAny _ _ (Builtin.SmallTypes.ownedTupleIsFree (.ref e) >>= _) _ _ ⟨g3.push { cls := .type "tuple", data := .seq #[.int j tk, x] }, g, d, tk + 1, os⟩
  generalize g3.push { cls := .type "tuple", data := .seq #[.int j tk, x] } = g4 at he4 tp4 sz4 kp4 it4
  unfold Builtin.SmallTypes.ownedTupleIsFree
  refine wpAny_bind (wpAny_bind (wpAny_field he4 rfl (x := .none) rfl (wpAny_pure ?_)))
  rw [if_pos rfl, sz3]
  refine wpAny_bind (wpAny_rule (wpAny_bind (wpAny_field he4 rfl (x := old) rfl (wpAny_bind (wpAny_setField_rec he4 (by simp) fun g5 he5 sb5 => ?_)))))
  unfold Builtin.SmallTypes.ownedTupleHandOut
  refine wpAny_bind (wpAny_bind (wpAny_setField_rec he5 (by simp) fun g6 he6 sb6 => wpAny_setField_rec he6 (by simp) fun g7 he7 sb7 => wpAny_bind (wpAny_letGo (wpAny_pure ⟨_, rfl, hQ g7 he7 ?_ ?_ ?_ ?_⟩))))
  · exact it4.at fun o q => (sb7.2 it hne.symm).trans ((sb6.2 it hne.symm).trans ((sb5.2 it hne.symm).trans q))
  · exact (sb7.2 _ nee).trans ((sb6.2 _ nee).trans ((sb5.2 _ nee).trans tp4))
  · exact sb7.1.trans (sb6.1.trans (sb5.1.trans sz4))
  · exact fun b o n1 n2 q => (sb7.2 b n1).trans ((sb6.2 b n1).trans ((sb5.2 b n1).trans (kp4 b o n1 n2 q)))
theorem enSt_item {prog : Program} {w : World} {A : Around} {E : Value → Shared → Prop} {s : Shared} {e it l : Addr} {i : Nat} {j : Int} {items : Array Value} {x old : Value} {Q : Option Value → Shared → Prop}
    (he : IsEnum s.heap e it j old) (hit : s.heap.IsListIter it l i) (hl : s.heap.IsList l items) (hx : items[i]? = some x) (hne : e ≠ it)
    (hQ : ∀ h', IsEnumOut h' e it (j + 1) x s.heap.objs.size → h'.IsListIter it l (i + 1) →
      h'.get? s.heap.objs.size = some { cls := .type "tuple", data := .seq #[.int j s.toks, x] } → h'.objs.size = s.heap.objs.size + 1 →
      (∀ b o, b ≠ e → b ≠ it → s.heap.get? b = some o → h'.get? b = some o) → Q (some (.ref s.heap.objs.size)) { s with heap := h', toks := s.toks + 1 }) :
    wpAny (model prog w) A (pyNext (.ref e)) Q E s := by
  have ty : s.TypeIs (.ref e) "enumerate" := ⟨_, he, rfl⟩
  unfold pyNext
  refine wpAny_bind (wpAny_attempt (wpAny_callSpecial?_slot (name := Str.ofString "__next__") ty F.slot_enumerate_next (wpAny_call_entry F.slot_enumerate_next ty F.entry_enumerate_next ?_ (F.args_enumerate_next_1 _))))
  exact enSt_next he hit hl hx hne fun h' a b c d k => wpAny_pure (hQ h' a b c d k)
theorem enSt_end {e it l : Addr} {i : Nat} {j : Int} {items : Array Value} {old : Value} {Q : Option Value → Shared → Prop} (hh : A.handled = none)
    (he : IsEnum s.heap e it j old) (hit : s.heap.IsListIter it l i) (hl : s.heap.IsList l items) (hx : items[i]? = none)
    (hQ : ∀ h', Heap.ExtBut it s.heap h' → Q none { s with heap := h' }) : wpAny (model prog w) A (pyNext (.ref e)) Q E s := by
  have ty : s.TypeIs (.ref e) "enumerate" := ⟨_, he, rfl⟩
  unfold pyNext
  refine wpAny_bind (wpAny_attempt (wpAny_callSpecial?_slot (name := Str.ofString "__next__") ty F.slot_enumerate_next (wpAny_call_entry F.slot_enumerate_next ty F.entry_enumerate_next ?_ (F.args_enumerate_next_1 _))))
  unfold Builtin.«enumerate.__next__»
  refine wpAny_bind (wpAny_of_eq (a := (Value.ref e, [])) rfl (wpAny_bind (wpAny_field he rfl (x := .ref it) rfl (wpAny_bind (wpAny_nextOf_list_end hh hit hl hx fun h' z hk ⟨o, ho, hc⟩ => ?_)))))
  exact wpAny_bind (wpAny_isInstance (T := "StopIteration") (b := true) ⟨o, ho, hc⟩ isSubtype_stop (wpAny_pure (hQ _ hk)))
theorem call_enumS {l : Addr} {items : Array Value} {i : Int} {t : Tok} {Q : Value → Shared → Prop} (hi : -(2 ^ 62) ≤ i ∧ i < 2 ^ 62) (hL : s.heap.IsList l items)
    (h : ∀ h', IsEnum h' (s.heap.objs.size + 1) s.heap.objs.size i .none → h'.IsListIter s.heap.objs.size l 0 → h'.objs.size = s.heap.objs.size + 2 →
      (∀ b o, s.heap.get? b = some o → h'.get? b = some o) → Q (.ref (s.heap.objs.size + 1)) { s with heap := h' }) :
    wpAny (model prog w) A (call (.type "enumerate") [.ref l] [("start", .int i t)]) Q E s := by
  obtain ⟨⟨c, dct, dt, sl⟩, hl, hc, n, hd⟩ := hL
  have hc' : c = .type "list" := hc
  have hd' : dt = .seq items n := hd
  subst hc' hd'
  have ft := F.called_enumerate
  refine callType_meetsK (Q₁ := fun obj s₁ => s₁.TypeIs obj "enumerate" ∧ Q obj s₁) ft (enS_type _ _) (enS_new _ _) F.entry_enumerate_new F.entry_object_init (meets_enumerate_newS2 l items n dct sl i t hi) ⟨hl, ?_⟩ fun obj s₁ hq =>
    ⟨hq.1, enS_init _ _ _, _, object_init_meetsK ft.init.lookup ft.made (by decide), hq.1, rfl, hq.2⟩
  have z1 : (s.heap.push { cls := .type "list_iterator", data := .fields #[.ref l, .int 0 0] }).objs.size = s.heap.objs.size + 1 := Heap.size_push ..
  have g1 := Heap.get?_push_size s.heap (o := { cls := .type "list_iterator", data := .fields #[.ref l, .int 0 0] }) rfl
  have g2 := Heap.get?_push_size (s.heap.push { cls := .type "list_iterator", data := .fields #[.ref l, .int 0 0] }) (o := { cls := .type "enumerate", data := .fields #[.none, .bool false, .ref s.heap.objs.size, rawInt i, .none, .none] }) rfl
  rw [z1] at g2
  show _ ∧ _
  rw [z1]
  exact ⟨⟨_, g2, rfl⟩, h _ g2 ⟨_, Heap.get?_push_of_some _ g1, rfl, rfl⟩ (by rw [Heap.size_push, z1]) fun b o x => Heap.get?_push_of_some _ (Heap.get?_push_of_some _ x)⟩
theorem ext_tup (l : Addr) (items : Array Value) (n : Nat) (b : Addr) (items2 : Array Value) (n2 : Nat) (o2 : Obj) (c2 : o2.cls = .type "tuple") (d2 : o2.data = .seq items2 n2) (hm : ¬(!items.isEmpty && Builtin.List.listTooLong (items.size + items2.size)) = true)
    (h1 : items.size ≤ sizeLine) (h2 : items.size + items2.size ≤ sizeLine + 1) :
    Meets (Builtin.«list.extend» ⟨[.ref l, .ref b], []⟩) (fun _ R s => s.heap.get? l = some { cls := .type "list", dict := none, data := .seq items n, slots := #[] } ∧ s.heap.get? b = some o2 ∧ R (.ok (.ret Value.none)) { s with heap := s.heap.update l (Obj.mapSeq fun x => x ++ items2), toks := s.toks }) :=
  .of_wp fun prog w A R s h => by
    obtain ⟨hp, g, d, tk, os⟩ := s
    obtain ⟨c, dc, dt, sl⟩ := o2
    have e1 : c = .type "tuple" := c2
    have e2 : dt = .seq items2 n2 := d2
    subst e1 e2
    obtain ⟨hl, hb, h⟩ := h
    have f2 := AutoSeq1.sub_tuple_tuple; have f3 := AutoSeq1.sub_list_list; have f4 := AutoSeq1.sub_tuple_list; have f5 := AutoSeq1.sub_list_tuple
    have hz : (items ++ items2).size ≤ sizeLine + 1 := by rw [Array.size_append]; exact h2
    wp_walk using (wpAny_updateSeq hl rfl (hz := h1) (_hz' := hz)), wpAny_loadPart' hl, wpAny_loadPart' hb
    exact ⟨_, rfl, h⟩
end
end PySem
end
section
set_option Elab.async false
set_option maxRecDepth 100000
set_option maxHeartbeats 4000000
namespace PySem
open Sem (wp)
open AutoSeq1 (wpAny_loadPart')
section
variable {prog : Program} {w : World} {A : Around} {E : Value → Shared → Prop} {s : Shared}
theorem nextT_item {it t : Addr} {i : Nat} {items : Array Value} {x : Value} {Q : Value → Shared → Prop} (hit : s.heap.IsTupleIter it t i) (ht : s.heap.IsTuple t items) (hx : items[i]? = some x)
    (hQ : ∀ h', h'.IsTupleIter it t (i + 1) → Heap.SameBut it s.heap h' → Q x { s with heap := h' }) : wpAny (model prog w) A (Builtin.SmallTypes.nextOf (.ref it)) Q E s := by
  obtain ⟨o, ho, hc, hd⟩ := id hit
  obtain ⟨ol, hol, _, nl, hdl⟩ := ht
  unfold Builtin.SmallTypes.nextOf
  refine wpAny_bind (wpAny_callSpecial?_slot (name := Str.ofString "__next__") hit.typeIs F.slot_tuple_iterator_next (wpAny_call_entry F.slot_tuple_iterator_next hit.typeIs F.entry_tuple_iterator_next ?_ (F.args_tuple_iterator_next_1 _)))
  show wpAny _ _ (field (.ref it) 0 >>= _) _ _ _
  refine wpAny_bind (wpAny_field ho hd (x := .ref t) rfl ?_)
  rw [if_neg (by intro z; cases z)]
  refine wpAny_bind (wpAny_field ho hd (x := .int i 0) rfl ?_)
  show wpAny _ _ (seqItems? (.ref t) >>= _) _ _ _
  refine wpAny_bind (wpAny_seqItems hol hdl ?_)
  simp only [Int.toNat_natCast, hx]
  refine wpAny_bind (wpAny_setField ho hd (by simp) (wpAny_pure ⟨x, rfl, wpAny_pure (hQ _ ⟨_, Heap.get?_update_self _ ho (Obj.isFreed_of_fields (Obj.data_mapFields hd _)), (Obj.cls_mapFields ..).trans hc, ?_⟩ (Heap.SameBut.update ..))⟩))
  rw [Obj.data_mapFields hd]
  simp [rawInt]
theorem nextT_end {it t : Addr} {i : Nat} {items : Array Value} {Q : Value → Shared → Prop} (hh : A.handled = none) (hit : s.heap.IsTupleIter it t i) (ht : s.heap.IsTuple t items) (hx : items[i]? = none)
    (hE : ∀ h' e, Heap.ExtBut it s.heap h' → (∃ o, h'.get? e = some o ∧ o.cls = .type "StopIteration") → E (.ref e) { s with heap := h' }) : wpAny (model prog w) A (Builtin.SmallTypes.nextOf (.ref it)) Q E s := by
  obtain ⟨o, ho, hc, hd⟩ := id hit
  obtain ⟨ol, hol, _, nl, hdl⟩ := ht
  unfold Builtin.SmallTypes.nextOf
  refine wpAny_bind (wpAny_callSpecial?_slot (name := Str.ofString "__next__") hit.typeIs F.slot_tuple_iterator_next (wpAny_call_entry F.slot_tuple_iterator_next hit.typeIs F.entry_tuple_iterator_next ?_ (F.args_tuple_iterator_next_1 _)))
  show wpAny _ _ (field (.ref it) 0 >>= _) _ _ _
  refine wpAny_bind (wpAny_field ho hd (x := .ref t) rfl ?_)
  rw [if_neg (by intro z; cases z)]
  refine wpAny_bind (wpAny_field ho hd (x := .int i 0) rfl ?_)
  show wpAny _ _ (seqItems? (.ref t) >>= _) _ _ _
  refine wpAny_bind (wpAny_seqItems hol hdl ?_)
  simp only [Int.toNat_natCast, hx]
  refine wpAny_bind (wpAny_rule (wpAny_bind (wpAny_setField ho hd (by simp) (wpAny_bind ?_))))
  unfold newExc newTuple
  refine wpAny_bind (wpAny_newObj_type (wpAny_bind (wpAny_of_eq (a := Value.none) rfl (wpAny_newObj_type ?_ (by size_fits)))) (by size_fits))
  unfold raiseNew
  refine wpAny_bind (wpAny_handled ?_)
  rw [show A.in1.handled = none from hh]
  exact wpAny_bind (wpAny_pure (wpAny_throw (hE _ _ (((Heap.SameBut.update ..).extBut.push _).push _) ⟨_, Heap.get?_push_size _ rfl, rfl⟩)))
end
end PySem
end
section
set_option Elab.async false
set_option linter.all false
set_option maxRecDepth 100000
namespace L2
open PySem PySem.Spec PyProof.Rows
/-! ### an exception that flies: it and the entry of its trace stand at n or above, untracked -/
def ExcT (C : Addr) (n : Nat) (H : Hp) (h : Heap) (a : Addr) : Prop := n ≤ a ∧ H a = none ∧ ∃ oe vs T oT ts y, h.get? a = some oe ∧ oe.cls = .ref C ∧ oe.data = .fields vs ∧
  vs[1]? = some (.ref T) ∧ T ≠ a ∧ n ≤ T ∧ H T = none ∧ h.get? T = some oT ∧ oT.data = .fields ts ∧ ts[3]? = some y
def Exc (C : Addr) (n : Nat) (H : Hp) (h : Heap) (a : Addr) : Prop := (n ≤ a ∧ H a = none ∧ ∃ oe vs, h.get? a = some oe ∧ oe.cls = .ref C ∧ oe.data = .fields vs ∧ vs[1]? = some .none) ∨ ExcT C n H h a
theorem ExcT.down {C a : Addr} {n m : Nat} {H : Hp} {h : Heap} (x : ExcT C n H h a) (hm : m ≤ n) : ExcT C m H h a := by
  obtain ⟨h1, h2, oe, vs, T, oT, ts, y, e1, e2, e3, e4, e5, e6, e7, e8, e9, e10⟩ := x
  exact ⟨Nat.le_trans hm h1, h2, oe, vs, T, oT, ts, y, e1, e2, e3, e4, e5, Nat.le_trans hm e6, e7, e8, e9, e10⟩
theorem Exc.down {C a : Addr} {n m : Nat} {H : Hp} {h : Heap} (x : Exc C n H h a) (hm : m ≤ n) : Exc C m H h a := by
  rcases x with ⟨h1, r⟩ | x
  · exact .inl ⟨Nat.le_trans hm h1, r⟩
  · exact .inr (x.down hm)
theorem ExcT.cls {C a : Addr} {n : Nat} {H : Hp} {h : Heap} (x : ExcT C n H h a) : ∃ oe, h.get? a = some oe ∧ oe.cls = .ref C := by
  obtain ⟨h1, h2, oe, vs, T, oT, ts, y, e1, e2, _⟩ := x
  exact ⟨oe, e1, e2⟩
/-- what a flying exception writes: records at n or above, untracked; the frames' slots -/
def Moved (n : Nat) (fs : List Addr) (H : Hp) (h h' : Heap) : Prop := ∃ ch : List Addr, (∀ c ∈ ch, n ≤ c ∧ H c = none ∧ ∃ o vs, h.get? c = some o ∧ o.data = .fields vs) ∧ (∀ b o, b ∉ fs → b ∉ ch → h.get? b = some o → h'.get? b = some o) ∧
  (∀ b o, b ∈ fs → b ∉ ch → h.get? b = some o → ∃ sl, h'.get? b = some { o with slots := sl }) ∧ ∀ b o, h.get? b = some o → ∃ o', h'.get? b = some o'
theorem Moved.refl (n : Nat) (fs : List Addr) (H : Hp) (h : Heap) : Moved n fs H h h := ⟨[], fun c hc => absurd hc (by simp), fun _ _ _ _ e => e, fun _ o _ _ e => ⟨o.slots, e⟩, fun _ o e => ⟨o, e⟩⟩
section
variable {X : Cx} {pins : List (Addr × Obj)} {σ : St} {H : Hp} {s : Shared} {h' : Heap} {n : Nat}
theorem Inv.moved (I : Inv X pins σ H s) (M : Moved n (frs X.stack) H s.heap h') (hn : X.s_0.heap.objs.size ≤ n) (hp : ∀ p ∈ X.pn ++ pins, p.1 < n) : Inv X pins σ H { s with heap := h' } := by
  obtain ⟨ch, h1, h2, h3, h4⟩ := M
  have un : Un (frs X.stack) ch H H s.heap h' := ⟨fun b o q n hb hx => h2 b o hb hx q, fun b o q n hb hx => h3 b o hb hx q, fun _ _ _ n _ => n, fun b o q _ => h4 b o q, fun _ _ q => q, fun _ _ _ q => q, fun _ ps q => ⟨#[], by rw [q]; simp⟩⟩
  have tr : ∀ b u, H b = some u → b ∉ frs X.stack ∧ b ∉ ch := fun b u e => ⟨fun z => (by rw [I.stkFree b z] at e; cases e), fun z => (by rw [(h1 b z).2.1] at e; cases e)⟩
  have hok : HOk X.prog X.w H h' := fun a o e => (I.hok a o e).stay (fun b u hb q => by
    have z : ∃ u, H b = some u := by
      rcases hb with rfl | hb
      · exact ⟨_, e⟩
      · exact ⟨_, hb⟩
    obtain ⟨u', z⟩ := z
    exact h2 b u (tr b u' z).1 (tr b u' z).2 q) (fun _ q => q) fun _ _ q => q
  refine I.call (h' := h') (g' := s.gens) (d' := s.drawn) (t' := s.toks) (ch := ch) un hok I.bare fun b hb => ?_
  obtain ⟨g1, g2, o, vs, g3, g4⟩ := h1 b hb
  refine ⟨.inr (Nat.le_trans hn g1), fun z => ?_, fun x c e z => ?_, fun p hp' z => ?_⟩
  · obtain ⟨m, ⟨o', es, ep, e1, e2, _⟩, _⟩ := I.loc
    rw [← z, g3] at e1; cases e1
    rw [g4] at e2; cases e2
  · obtain ⟨v, o', e1, e2⟩ := I.cell x c e
    rw [z, g3] at e1; cases e1
    rw [g4] at e2; cases e2
  · have := hp p hp'
    rw [z] at this
    exact absurd (Nat.lt_of_lt_of_le this g1) (Nat.lt_irrefl _)
end
section
variable {M : Model} {A : Around} {E : Value → Shared → Prop} {s : Shared}
theorem frame_ok {base : Heap} {env e0 : Env} {outer : List Env} {L : Addr} {Q : Value → Shared → Prop} (hfr : A.frames = some (e0 :: outer)) (hl : s.heap.FunFrames base (e0 :: outer)) (hf0 : e0.frame = some L) (hf : env.frame = some L)
    (h : ∀ h', Heap.SlotsOnly ((e0 :: outer).filterMap (·.frame)) s.heap h' → Q (.ref L) { s with heap := h' }) : wpAny M A (PySem.frameOf env) Q E s := by
  unfold PySem.frameOf
  refine wpAny_bind (wpAny_frameEnvs hfr ?_)
  have hdw : ((e0 :: outer).dropWhile fun x => x.frame != env.frame) = e0 :: outer := by simp [List.dropWhile, hf0, hf]
  rw [hdw]
  unfold frameObject
  refine wpAny_bind (wpAny_bind (wpAny_readyFrames_fun hl fun h₁ hs₁ => wpAny_pure ?_))
  rw [hf0]
  exact wpAny_pure (h h₁ hs₁)
theorem entry_ok {base : Heap} {env e0 : Env} {outer : List Env} {L e : Addr} {oe : Obj} {vs : Array Value} {head : Value} {hadNext : Bool} {Q : Unit → Shared → Prop}
    (hfr : A.frames = some (e0 :: outer)) (hl : s.heap.FunFrames base (e0 :: outer)) (hf0 : e0.frame = some L) (hf : env.frame = some L)
    (he : s.heap.get? e = some oe) (hd : oe.data = .fields vs) (hsz : 1 < vs.size)
    (h : ∀ h', (∀ b o, b ∉ (e0 :: outer).filterMap (·.frame) → b ≠ e → s.heap.get? b = some o → h'.get? b = some o) → (∀ b o, b ≠ e → s.heap.get? b = some o → ∃ sl, h'.get? b = some { o with slots := sl }) →
      (∃ oe' vs', h'.get? e = some oe' ∧ oe'.cls = oe.cls ∧ oe'.data = .fields vs' ∧ vs'[1]? = some (.ref s.heap.objs.size)) → (∃ oT ts y, h'.get? s.heap.objs.size = some oT ∧ oT.data = .fields ts ∧ ts[3]? = some y) → Q () { s with heap := h' }) :
    wpAny M A (do let a ← PySem.frameOf env; let pl ← entryPlaceOf L hadNext; let b ← EntryCells.newEntry head a .none (rawInt L) .none pl; setField (.ref e) 1 b) Q E s := by
  have hene : e ∉ (e0 :: outer).filterMap (·.frame) := fun hm => by
    obtain ⟨_, o, ho, hnf⟩ := hl.mem hm
    rw [he] at ho; injection ho with ho; subst ho; exact hnf vs hd
  refine wpAny_bind (frame_ok hfr hl hf0 hf fun h₁ hs₁ => ?_)
  refine wpAny_bind (wpAny_entryPlaceOf fun pl hpl => ?_)
  unfold EntryCells.newEntry newFields
  refine wpAny_bind (wpAny_newObj_type ?_ (hpl.sizeOk5 _ _ _ _ _))
  have he₁ : h₁.get? e = some oe := (hs₁.2.1 e hene).trans he
  have he₂ := Heap.get?_push_of_some (h := h₁) { cls := .type "traceback", dict := none, data := .fields ([head, .ref L, .none, rawInt L, .none] ++ (if pl.isEmpty then List.replicate 6 Value.none else pl)).toArray } he₁
  refine wpAny_setField he₂ hd hsz ?_
  have hTe : h₁.objs.size ≠ e := Nat.ne_of_gt (Heap.lt_size he₁)
  have hd₃ := Obj.data_mapFields hd (·.setIfInBounds 1 (Value.ref h₁.objs.size))
  have he₃ := Heap.get?_update_self (Obj.mapFields (·.setIfInBounds 1 (Value.ref h₁.objs.size))) he₂ (Obj.isFreed_of_fields hd₃)
  have hT₃ := (Heap.get?_update_other (h₁.push { cls := .type "traceback", dict := none, data := .fields ([head, .ref L, .none, rawInt L, .none] ++ (if pl.isEmpty then List.replicate 6 Value.none else pl)).toArray })
    (Obj.mapFields (·.setIfInBounds 1 (Value.ref h₁.objs.size))) (Ne.symm hTe)).trans (Heap.get?_push_size h₁ rfl)
  have keep : ∀ b o, b ≠ e → h₁.get? b = some o → ((h₁.push { cls := .type "traceback", dict := none, data := .fields ([head, .ref L, .none, rawInt L, .none] ++ (if pl.isEmpty then List.replicate 6 Value.none else pl)).toArray }).update e (Obj.mapFields (·.setIfInBounds 1 (Value.ref h₁.objs.size)))).get? b = some o := fun b o hbe hb => by
    rw [Heap.get?_update_other _ _ (Ne.symm hbe)]
    exact Heap.get?_push_of_some _ hb
  refine h _ (fun b o hb hbe q => keep b o hbe ((hs₁.2.1 b hb).trans q)) (fun b o hbe q => ?_) ⟨_, _, he₃, Obj.cls_mapFields _ _, hd₃, ?_⟩ ⟨_, _, rawInt L, by rw [← hs₁.1]; exact hT₃, rfl, by simp⟩
  · obtain ⟨sl, e1⟩ := hs₁.2.2 b o q
    exact ⟨sl, keep b _ hbe e1⟩
  · rw [← hs₁.1]
    simp [hsz]
theorem note_ok {base : Heap} {env e0 : Env} {outer : List Env} {L C a : Addr} {n : Nat} {H : Hp} {Q : Unit → Shared → Prop} (hfr : A.frames = some (e0 :: outer)) (hl : s.heap.FunFrames base (e0 :: outer)) (hf0 : e0.frame = some L) (hf : env.frame = some L)
    (x : Exc C n H s.heap a) (hz : n ≤ s.heap.objs.size) (hF : ∀ b, s.heap.objs.size ≤ b → H b = none)
    (h : ∀ h', Moved n (frs (e0 :: outer)) H s.heap h' → ExcT C n H h' a → Q () { s with heap := h' }) : wpAny M A (noteFrame (.ref a) env) Q E s := by
  have rec1 : ∀ {c o vs}, s.heap.get? c = some o → o.data = .fields vs → c ∉ frs (e0 :: outer) := fun {c o vs} e d hm => by
    obtain ⟨_, o', ho, hnf⟩ := hl.mem hm
    rw [e] at ho; cases ho; exact hnf _ d
  unfold noteFrame
  simp only [hf]
  rcases x with ⟨g1, g2, oe, vs, e1, e2, e3, e4⟩ | ⟨g1, g2, oe, vs, T, oT, ts, y, e1, e2, e3, e4, e5, e6, e7, e8, e9, e10⟩
  · refine wpAny_bind (wpAny_field e1 e3 e4 ?_)
    rw [if_neg (by decide)]
    refine entry_ok hfr hl hf0 hf e1 e3 (Array.getElem?_eq_some_iff.mp e4).1 fun h' k1 k2 ⟨oe', vs', k3, k4, k5, k6⟩ ⟨oT, ts, y, k7, k8, k9⟩ => h h' ⟨[a], ?_, ?_, ?_, ?_⟩ ⟨g1, g2, oe', vs', _, oT, ts, y, k3, k4.trans e2, k5, k6, Nat.ne_of_gt (Heap.lt_size e1), hz, hF _ (Nat.le_refl _), k7, k8, k9⟩
    · intro c hc
      rw [List.mem_singleton.mp hc]
      exact ⟨g1, g2, oe, vs, e1, e3⟩
    · exact fun b o hb hc q => k1 b o hb (fun z => hc (by rw [z]; exact List.mem_singleton.mpr rfl)) q
    · exact fun b o _ hc q => k2 b o (fun z => hc (by rw [z]; exact List.mem_singleton.mpr rfl)) q
    · intro b o q
      by_cases hb : b = a
      · subst hb; exact ⟨_, k3⟩
      · obtain ⟨sl, z⟩ := k2 b o hb q
        exact ⟨_, z⟩
  · refine wpAny_bind (wpAny_field e1 e3 e4 ?_)
    rw [if_pos (show (Value.ref T != Value.none) = true from by simp)]
    refine wpAny_bind (wpAny_field e8 e9 e10 ?_)
    by_cases hy : (y == rawInt L) = true
    · rw [if_pos hy]
      exact wpAny_pure (h _ (Moved.refl ..) ⟨g1, g2, oe, vs, T, oT, ts, y, e1, e2, e3, e4, e5, e6, e7, e8, e9, e10⟩)
    · rw [if_neg hy]
      refine wpAny_bind (wpAny_setField e8 e9 (Array.getElem?_eq_some_iff.mp e10).1 ?_)
      have other : ∀ b, b ≠ T → (s.heap.update T (Obj.mapFields (·.setIfInBounds 3 Value.none))).get? b = s.heap.get? b := fun b hb => Heap.get?_update_other _ _ (Ne.symm hb)
      have noRecord : ∀ b o, s.heap.get? b = some o → (∀ vs, o.data ≠ .fields vs) → b ≠ T := fun b o hb hnf q => by
        rw [q, e8] at hb; injection hb with hb; subst hb; exact hnf ts e9
      have hT' := Heap.get?_update_self (Obj.mapFields (·.setIfInBounds 3 Value.none)) e8 (Obj.isFreed_of_fields (Obj.data_mapFields e9 _))
      have sz : (s.heap.update T (Obj.mapFields (·.setIfInBounds 3 Value.none))).objs.size = s.heap.objs.size := Heap.size_after_update ..
      refine entry_ok (s := { s with heap := s.heap.update T (Obj.mapFields (·.setIfInBounds 3 Value.none)) }) hfr (hl.of_keeps fun b o hb hnf => ⟨o, (other b (noRecord b o hb hnf)).trans hb, rfl⟩) hf0 hf ((other a (Ne.symm e5)).trans e1) e3 (Array.getElem?_eq_some_iff.mp e4).1
        fun h' k1 k2 ⟨oe', vs', k3, k4, k5, k6⟩ ⟨oT', ts', y', k7, k8, k9⟩ => h h' ⟨[a, T], ?_, ?_, ?_, ?_⟩ ⟨g1, g2, oe', vs', s.heap.objs.size, oT', ts', y', k3, k4.trans e2, k5, by rw [← sz]; exact k6, Nat.ne_of_gt (Heap.lt_size e1), hz, hF _ (Nat.le_refl _), by rw [← sz]; exact k7, k8, k9⟩
      · intro c hc
        rcases List.mem_cons.mp hc with z | z
        · rw [z]; exact ⟨g1, g2, oe, vs, e1, e3⟩
        · rw [List.mem_singleton.mp z]; exact ⟨e6, e7, oT, ts, e8, e9⟩
      · exact fun b o hb hc q => k1 b o hb (fun z => hc (by rw [z]; simp)) ((other b fun z => hc (by rw [z]; simp)).trans q)
      · exact fun b o _ hc q => k2 b o (fun z => hc (by rw [z]; simp)) ((other b fun z => hc (by rw [z]; simp)).trans q)
      · intro b o q
        by_cases hb : b = a
        · subst hb; exact ⟨_, k3⟩
        · by_cases hbT : b = T
          · subst hbT
            obtain ⟨sl, z⟩ := k2 b _ hb hT'
            exact ⟨_, z⟩
          · obtain ⟨sl, z⟩ := k2 b o hb ((other b hbT).trans q)
            exact ⟨_, z⟩
theorem flight_ok {fs : List Addr} {C a : Addr} {n : Nat} {H : Hp} {fr : Option Addr} {Q : Unit → Shared → Prop} (hfs : ∀ b ∈ fs, ∃ o, s.heap.get? b = some o ∧ ∀ vs, o.data ≠ .fields vs) (x : ExcT C n H s.heap a)
    (h : ∀ h', Moved n fs H s.heap h' → ExcT C n H h' a → Q () { s with heap := h' }) : wpAny M A (setFlight (.ref a) fr) Q E s := by
  obtain ⟨g1, g2, oe, vs, T, oT, ts, y, e1, e2, e3, e4, e5, e6, e7, e8, e9, e10⟩ := x
  unfold setFlight
  refine wpAny_bind (wpAny_field e1 e3 e4 ?_)
  rw [if_pos (show (Value.ref T != Value.none) = true from by simp)]
  have hsz := (Array.getElem?_eq_some_iff.mp e10).1
  refine wpAny_setField e8 e9 hsz ?_
  generalize (fr.elim Value.none fun f => rawInt f) = z
  have other : ∀ b, b ≠ T → (s.heap.update T (Obj.mapFields (·.setIfInBounds 3 z))).get? b = s.heap.get? b := fun b hb => Heap.get?_update_other _ _ (Ne.symm hb)
  have hT' := Heap.get?_update_self (Obj.mapFields (·.setIfInBounds 3 z)) e8 (Obj.isFreed_of_fields (Obj.data_mapFields e9 _))
  refine h _ ⟨[T], fun c hc => ?_, fun b o _ hc q => (other b fun z => hc (by rw [z]; simp)).trans q, fun b o _ hc q => ⟨o.slots, (other b fun z => hc (by rw [z]; simp)).trans q⟩, fun b o q => ?_⟩
    ⟨g1, g2, oe, vs, T, _, _, z, (other a (Ne.symm e5)).trans e1, e2, e3, e4, e5, e6, e7, hT', Obj.data_mapFields e9 _, by simp [hsz]⟩
  · rw [List.mem_singleton.mp hc]; exact ⟨e6, e7, oT, ts, e8, e9⟩
  · by_cases hb : b = T
    · subst hb; exact ⟨_, hT'⟩
    · exact ⟨o, (other b hb).trans q⟩
theorem passOn_ok {α : Type} {what : String} {fs : List Addr} {C a : Addr} {n : Nat} {H : Hp} {env : Env} {Q : α → Shared → Prop} (hfs : ∀ b ∈ fs, ∃ o, s.heap.get? b = some o ∧ ∀ vs, o.data ≠ .fields vs) (x : ExcT C n H s.heap a)
    (h : ∀ h', Moved n fs H s.heap h' → ExcT C n H h' a → E (.ref a) { s with heap := h' }) : wpAny M A (PySem.passOn what (.ref a) env : Sem α) Q E s := by
  have x' := x
  obtain ⟨g1, g2, oe, vs, T, oT, ts, y, e1, e2, e3, e4, _⟩ := x'
  unfold PySem.passOn
  refine wpAny_bind (wpAny_field e1 e3 e4 ?_)
  rw [if_neg (by simp)]
  first
    | exact wpAny_bind (flight_ok hfs x fun h' m t => wpAny_throw (h h' m t))
    | exact wpAny_bind (wpAny_pure (wpAny_bind (flight_ok hfs x fun h' m t => wpAny_throw (h h' m t))))
end
end L2
end
section
set_option Elab.async false
set_option linter.all false
set_option maxRecDepth 100000
namespace PySem
open Sem (wp)
section
variable {prog : Program} {w : World} {A : Around} {E : Value → Shared → Prop} {h : Heap} {g : Array GenState} {d : Drawn} {t : Nat} {os : OsState}
variable {nm q : Str} {C N : Addr} {bs bm bmB : List Value} {hdct : Bool} {sn : List Str} {sub : List Value} {ab : Bool} {col : Option Bool} {dd : Option Addr} {k0 k1 k2 k3 k5 : Option Value} {B Bn newId nid initId inN : String} {bmN : List Value}
theorem xnew_typeCall (Fn : ExcBaseFacts Bn newId inN bmN) (hBn : bmB.contains (.type Bn) = true) (F : ExcBaseFacts B nid initId bmB) (T : OwnTail h bmB bm) {mN : Str → Option Value} {rest : List Value} {Q : Fin → Shared → Prop}
    (hC : h.get? C = some (excClassObj nm q C N bs bm hdct sn sub ab col dd k0 k1 k2 k3 k5 newId)) (hn : h.Ns N mN) (hni : mN "__init__" = none)
    (hq : ∀ h', Heap.MadeExcOf h h' (h.objs.size + 1) (.ref C) rest → Q (.done (.ret (.ref (h.objs.size + 1)))) ⟨h', g, d, t, os⟩) (hrest : rest.length ≤ sizeLine) :
    wpAny (model prog w) A (Builtin.«type.__call__» ⟨.ref C :: rest, []⟩) Q E ⟨h, g, d, t, os⟩ := by
  repeat (first | with_reducible refine wpAny_loadPart_at hC ?_ | with_reducible refine wpAny_madeBy_exc hC ?_ | wp_step)
  refine codeAny_call_builtin_code (Code.quiet_builtin _ Fn.quiet) (wpAny_check_new_subU Fn hBn T hC (codeAny_exc_new_subU Fn hBn F T hC ?_ hrest))
  show wpAny _ _ _ _ _ _
  generalize hh : (h.push { cls := .type "tuple", data := .seq rest.toArray }).push { cls := .ref C, data := .fields #[.ref h.objs.size, .none, .none, .none, .bool false, .none] } = h2
  have kp : ∀ b o, h.get? b = some o → h2.get? b = some o := fun b o e => by rw [← hh]; exact Heap.get?_push_of_some _ (Heap.get?_push_of_some _ e)
  have hsz : h2.objs.size = h.objs.size + 2 := by rw [← hh, Heap.size_push, Heap.size_push]
  have hC2 := kp _ _ hC
  have hn2 : h2.Ns N mN := hn.keeps kp
  have T2 := T.keeps kp
  have hget : h2.get? (h.objs.size + 1) = some { cls := .ref C, data := .fields #[.ref h.objs.size, .none, .none, .none, .bool false, .none] } := by rw [← hh]; heap_get
  have hcC : (Value.ref C :: bm).contains (.ref C) = true := by simp
  unfold isInstance
  repeat (first | with_reducible refine wpAny_loadPart_at hget ?_ | (with_reducible refine wpAny_isSubtype_exc hC2 ?_; rw [hcC]) | wp_step)
  show wpAny _ _ (typeLookup (.ref C) _) _ _ _
  refine wpAny_typeLookup_tail hC2 hn2 T2 F.mroIs F.init.lookup ?_
  rw [hni]
  refine wpAny_holding (wpAny_bind (wpAny_of_eq (F.init.bind _) (wpAny_bind (wpAny_call (codeAny_call_builtin F.init.plain F.initEntry (wpAny_check_init_subU F T2 hC2 hget rfl ?_))))))
  wp_walk
  refine hq _ ⟨fun b o hb => ?_, Heap.get?_none_of_le (Nat.le_succ _), h.objs.size + 2, ?_, Heap.get?_none_of_le (by omega), ?_⟩
  · rw [Heap.get?_update_other _ _ (Nat.ne_of_gt (Nat.lt_succ_of_lt (Heap.lt_size hb)))]
    exact Heap.get?_push_of_some _ (kp b o hb)
  · rw [Heap.get?_update_self _ (Heap.get?_push_of_some _ hget) rfl, ← hsz]
    rfl
  · rw [Heap.get?_update_other _ _ (show h.objs.size + 1 ≠ h.objs.size + 2 by omega)]
    exact Heap.get?_push_at hsz.symm rfl
theorem xnew_call (Fn : ExcBaseFacts Bn newId inN bmN) (hBn : bmB.contains (.type Bn) = true) (F : ExcBaseFacts B nid initId bmB) (T : OwnTail h bmB bm) {mN : Str → Option Value} {rest : List Value} {Q : Value → Shared → Prop}
    (hC : h.get? C = some (excClassObj nm q C N bs bm hdct sn sub ab col dd k0 k1 k2 k3 k5 newId)) (hn : h.Ns N mN) (hni : mN "__init__" = none)
    (hq : ∀ h', Heap.MadeExcOf h h' (h.objs.size + 1) (.ref C) rest → Q (.ref (h.objs.size + 1)) ⟨h', g, d, t, os⟩) (hrest : rest.length ≤ sizeLine) :
    wpAny (model prog w) A (call (.ref C) rest) Q E ⟨h, g, d, t, os⟩ := by
  have f1 := tc_lookup
  have f2 := tc_bind (.ref C)
  have hT : (⟨h, g, d, t, os⟩ : Shared).TypeIs (.ref C) "type" := ⟨_, hC, rfl⟩
  refine wpAny_call (codeAny_of_tree ?_)
  show wpAny _ _ (callAny (.ref C) _) _ _ _
  repeat (any_goals (first | assumption | with_reducible refine wpAny_loadPart_at hC ?_ | wp_step))
  refine ⟨rfl, codeAny_call_builtin_at (Code.quiet_builtin _ (by decide +kernel)) entry_typeCall (wpAny_check_type_call_sub hC (xnew_typeCall Fn hBn F T hC hn hni (fun h' hm => hq h' hm) hrest))⟩
end
section
variable {prog : Program} {w : World} {A : Around} {E : Value → Shared → Prop} {s : Shared} {env : Env}
variable {nm q : Str} {C N : Addr} {bs bm bmB : List Value} {hdct : Bool} {sn : List Str} {sub : List Value} {ab : Bool} {col : Option Bool} {dd : Option Addr} {k0 k1 k2 k3 k5 : Option Value} {B Bn newId nid initId inN : String} {bmN : List Value}
theorem xnew_raise (Fn : ExcBaseFacts Bn newId inN bmN) (hBn : bmB.contains (.type Bn) = true) (F : ExcBaseFacts B nid initId bmB) {mN : Str → Option Value} {x : Str} {np cpos pos : Pos} {args : List Expr} {Q : Flow → Shared → Prop}
    (hbase : bm.contains (.type "BaseException") = true) (hh : A.handled = none) (hplain : (backTo cpos (starEach args env)).any (·.1) = false) (hni : mN "__init__" = none)
    (h : wpAny (model prog w) A (eval (.Name x np) env) (fun f s₁ => f = .ref C ∧ wpAny (model prog w) A (evalArgs (.ref C) true (backTo cpos (starEach args env)) [])
      (fun a s₂ => a.kw = [] ∧ a.pos.length ≤ sizeLine ∧ s₂.heap.get? C = some (excClassObj nm q C N bs bm hdct sn sub ab col dd k0 k1 k2 k3 k5 newId) ∧ s₂.heap.Ns N mN ∧ OwnTail s₂.heap bmB bm ∧
        ∀ h', Heap.MadeExcOf s₂.heap h' (s₂.heap.objs.size + 1) (.ref C) a.pos → E (.ref (s₂.heap.objs.size + 1)) { s₂ with heap := h' }) E s₁) E s) :
    wpAny (model prog w) A (exec (.Raise (some (.Call (.Name x np) args [] cpos)) none pos) env) Q E s := by
  rw [arm_exec_Raise]
  first
    | (refine wpAny_bind (wpAny_standAt (wpAny_raiseStmt_made_sub (C := C) (nm := nm) (q := q) (N := N) (bs := bs) (bm := bm) (hdct := hdct) (sn := sn) (sub := sub) (ab := ab) (col := col) (dd := dd) (k0 := k0) (k1 := k1) (k2 := k2) (k3 := k3) (k5 := k5) (newId := newId) hbase hh ?_)); refine wpAny_bind (wpAny_mono (wpAny_Call_ofName (wpAny_mono h (fun f s₁ h₁ => ?_) fun _ _ x => x)) (fun v s₃ h₃ => wpAny_bind (wpAny_standAt (wpAny_pure h₃))) fun _ _ x => x))
    | (simp only [evalOpt, Option.map]; refine wpAny_bind (wpAny_standAt (wpAny_raiseStmt_made_sub (C := C) (nm := nm) (q := q) (N := N) (bs := bs) (bm := bm) (hdct := hdct) (sn := sn) (sub := sub) (ab := ab) (col := col) (dd := dd) (k0 := k0) (k1 := k1) (k2 := k2) (k3 := k3) (k5 := k5) (newId := newId) hbase hh (wpAny_bind (wpAny_mono (wpAny_Call_ofName (wpAny_mono h (fun f s₁ h₁ => ?_) fun _ _ x => x)) (fun v s₃ h₃ => wpAny_bind (wpAny_standAt (wpAny_pure h₃))) fun _ _ x => x)))))
  obtain ⟨rfl, h₁⟩ := h₁
  unfold callWith
  refine wpAny_bind (wpAny_holding (wpAny_mono h₁ (fun a s₂ h₂ => wpAny_bind (wpAny_standAt ?_)) fun _ _ x => x))
  obtain ⟨apos, akw⟩ := a
  obtain ⟨hkw, hlen, hC, hn, T, h₂⟩ := h₂
  obtain rfl : akw = [] := hkw
  obtain ⟨hp, g, d, tk, os⟩ := s₂
  simp only [hplain]
  refine wpAny_bind (wpAny_keeperOf_exc hC ?_)
  refine wpAny_bind (xnew_call Fn hBn F T hC hn hni (fun h' hm => wpAny_bind (wpAny_holding (wpAny_point (wpAny_pure ?_)))) hlen)
  obtain ⟨t, ht, _, _⟩ := hm.there
  exact ⟨_, t, rfl, hm.keeps _ _ hC, ht, h₂ h' hm⟩
end
end PySem
namespace L2
open PySem PySem.Spec PyProof.Rows
/-- the mro behind an own class under ValueError -/
def bmVE : List Value := [.type "ValueError", .type "Exception", .type "BaseException", .type "object"]
/-- what is promised of an exception that leaves a def: it is of the class at C -/
def CX1 (P : Program) (w : World) (C : Addr) : CXT := fun outer H s E e s' => ∃ a H', e = .ref a ∧ s'.os = s.os ∧ AllBare s'.gens ∧ Un (frs outer) [] H H' s.heap s'.heap ∧ HOk P w H' s'.heap ∧ Exc C s.heap.objs.size H' s'.heap a ∧ E e none H'
/-- an exception of the class at C may be thrown here -/
def Thr (C : Addr) (X : Cx) (E : XK) : Prop := ∀ (pins : List (Addr × Obj)) (σ : St) (H : Hp) (s : Shared) (a : Addr) (n : Nat), Inv X pins σ H s → X.s_0.heap.objs.size ≤ n → n ≤ s.heap.objs.size → (∀ p ∈ X.pn ++ pins, p.1 < n) → Exc C n H s.heap a → E (.ref a) none H → X.xe (.ref a) s
theorem Exc.lt {C a : Addr} {n : Nat} {H : Hp} {h : Heap} (x : Exc C n H h a) : n ≤ h.objs.size := by
  rcases x with ⟨h1, _, oe, vs, e, _⟩ | ⟨h1, _, oe, vs, T, oT, ts, y, e, _⟩
  · exact Nat.le_trans h1 (Nat.le_of_lt (Heap.lt_size e))
  · exact Nat.le_trans h1 (Nat.le_of_lt (Heap.lt_size e))
theorem Inv.pinsLt {X : Cx} {pins : List (Addr × Obj)} {σ : St} {H : Hp} {s : Shared} (I : Inv X pins σ H s) : ∀ p ∈ X.pn ++ pins, p.1 < s.heap.objs.size := fun p hp => Heap.lt_size (I.pin p hp).1
theorem Inv.fsObj {X : Cx} {pins : List (Addr × Obj)} {σ : St} {H : Hp} {s : Shared} (I : Inv X pins σ H s) : ∀ b ∈ frs X.stack, ∃ o, s.heap.get? b = some o ∧ ∀ vs, o.data ≠ .fields vs := fun b hb => (I.stack.mem hb).2
theorem Thr.pass {C : Addr} {X : Cx} {E : XK} (t : Thr C X E) : Passes (CX1 X.prog X.w C) X E := by
  intro pins σ H s e s' I h
  obtain ⟨a, H', rfl, os, bare, un, hok, x, q⟩ := h
  have I' : Inv X pins σ H' s' := I.call' (ch := []) os un hok bare (fun b z => absurd z (by simp))
  exact t pins σ H' s' a s.heap.objs.size I' I.sz x.lt I.pinsLt x q
section
variable {P : Program} {w : World} {K : PySem.W.Frag} {mg : Str → Option Value} {base : Heap} {C : Addr}
theorem thr_cx {N : List Str} {qual : Str} {scope : Scope} {f : Addr} {cdv : Value} {A : Around} {outer : List Env} {s : Shared} {H : Hp} {E : XK} : Thr C (cxOf (CX1 P w C) P w K mg base N qual scope f cdv A outer s H E) E := by
  intro pins σ H1 s1 a n I hn hz hp x q
  show wpAny (model P w) (A.deeper (envOfC qual scope s.heap.objs.size f cdv)) (leaving (envOfC qual scope s.heap.objs.size f cdv) (.ref a)) (fun _ s'' => CX1 P w C outer H s E (.ref a) s'') _ s1
  unfold leaving
  refine wpAny_bind (note_ok (base := base) (e0 := envOfC qual scope s.heap.objs.size f cdv) (outer := outer) (L := s.heap.objs.size) (C := C) (n := n) (H := H1) I.ok.frames I.stack rfl rfl x hz (fun b hb => I.hok.fresh hb) fun h' m x' => ?_)
  have I2 := I.moved m hn hp
  refine flight_ok (fs := frs (envOfC qual scope s.heap.objs.size f cdv :: outer)) (fun b hb => I2.fsObj b hb) x' fun h'' m2 x2 => ?_
  have I3 := I2.moved m2 hn hp
  exact ⟨a, H1, rfl, I3.os, I3.bare, I3.base, I3.hok, Exc.down (.inr x2) hn, q⟩
/-- THE RULE for a def that may raise -/
theorem Fun.okX {x qual : Str} {st : Stmt} {f : Addr} {fd : FuncData} {N ps : List Str} {k : Nat} {sp : Sp} (F : Fun K x qual st f fd) (S : FnScope N ps (defScope st)) (len : ∀ vs H Q E, sp vs H Q E → vs.length = ps.length)
    (hbody : ∀ (cdv : Value) (A : Around) (outer : List Env) (s : Shared) (H : Hp) (vs : List V) (Q : VK) (E : XK), Room k (A.deeper (envOfC qual (defScope st) s.heap.objs.size f cdv)) → Thr C (cxOf (CX1 P w C) P w K mg base N qual (defScope st) f cdv A outer s H E) E → sp vs H Q E →
      ∃ t, PSs (cxOf (CX1 P w C) P w K mg base N qual (defScope st) f cdv A outer s H E) (defBody st) t ∧ t { nx := fun _ H' => Q .non H', rt := Q } (start N vs) H) : FnOk P w K mg base (CX1 P w C) (k + 1) f fd ps sp := by
  obtain ⟨oc, od, kV, doc, pm, an, cdv, ct, osl, rfl, lk, hcd⟩ := F.ex
  exact fn_of lk hcd S len fun A outer s H vs Q E hr hsp => hbody cdv A outer s H vs Q E hr thr_cx hsp
end
section
variable {X : Cx} {C : Addr} {E : XK}
theorem own_obj {K : PySem.W.Frag} {h : Heap} {bmB : List Value} {newId : String} (X : K.In h) (q : PySem.W.excIn K C bmB newId = true) :
    ∃ bm N nm q bs hdct sn sub ab col dd k0 k1 k2 k3 k5 mN, h.get? C = some (excClassObj nm q C N bs bm hdct sn sub ab col dd k0 k1 k2 k3 k5 newId) ∧ h.Ns N mN ∧ mN "__init__" = none ∧ OwnTail h bmB bm := by
  unfold PySem.W.excIn at q
  split at q
  · rename_i dd cd sl ho
    split at q
    · rename_i C' bm k0 k1 k2 k3 n k5 hm hs
      simp only [Bool.and_eq_true, beq_iff_eq, Bool.not_eq_true'] at q
      obtain ⟨⟨⟨⟨⟨rfl, rfl⟩, hdel⟩, ht⟩, hok⟩, hni⟩ := q
      obtain ⟨nm, bs, mro, ns, qn, hd, sn, sub, ab, col, del⟩ := cd
      dsimp only at hm hdel hok hni
      subst hm hdel
      obtain ⟨l⟩ := sl
      have hs' : l = [k0, k1, k2, k3, some (.builtin n), k5] := hs
      subst hs'
      exact ⟨bm, ns, nm, qn, bs, hd, sn, sub, ab, col, dd, k0, k1, k2, k3, k5, _, X _ _ ho, .of_isNs (PySem.W.isNs_of_in X hok), PySem.W.nsMap_none_of_in X hok hni, PySem.W.tail_of_in X ht⟩
    · cases q
  · cases q
/-- raise Own("words") -/
theorem ps_raise {x msg : Str} {np p1 cpos pos : Pos} {j : Nat} (t : Thr C X E) (hc : X.calm = true) (hg : Gl X x) (hm : X.mg x = some (.ref C)) (hex : PySem.W.excIn X.K C bmVE "ValueError.__new__" = true) (hd : (x == ("__debug__" : Str)) = false := by decide) :
    PS X (.Raise (some (.Call (.Name x np) [.Constant (.str msg) j p1] [] cpos)) none pos) (fun _ _ H => ∀ e, E e none H) := by
  intro pins s σ H D I h
  obtain ⟨bm, N, nm, qn, bs, hdct, sn, sub, ab, col, dd, k0, k1, k2, k3, k5, mN, hC, hN, hni, TL⟩ := own_obj I.ok.mod.kin hex
  refine xnew_raise (nm := nm) (q := qn) (N := N) (bs := bs) (hdct := hdct) (sn := sn) (sub := sub) (ab := ab) (col := col) (dd := dd) (k0 := k0) (k1 := k1) (k2 := k2) (k3 := k3) (k5 := k5) (Bn := "ValueError") (bmN := bmVE) (bmB := bmVE) F.excBase_ValueError (by decide +kernel) F.excBase_ValueError (TL.hasType (by decide +kernel)) (I.ok.hd hc) rfl hni (ld_glob I hg hm ⟨rfl, Calls.evalArgs_plain ?_⟩ hd)
  refine thn ((pa_cons pe_str pa_nil : PA X [.Constant (.str msg) j p1] _) cpos pins s σ H (fun vs H' => vs = [.str msg] ∧ H' = H) I ⟨rfl, rfl⟩) fun us s2 ⟨vs, H2, I2, r, ev, eh⟩ => ?_
  subst ev eh
  obtain ⟨u, rfl, _⟩ := vals1 r
  refine ⟨rfl, by show 1 ≤ sizeLine; decide, I2.bk _ _ hC, hN.keeps I2.bk, TL.keeps I2.bk, fun h' hm => ?_⟩
  obtain ⟨t0, e1, _, _⟩ := hm.there
  have I3 : Inv X pins σ H2 { s2 with heap := h' } := I2.kept (t' := s2.toks) hm.keeps
  have x : Exc C s2.heap.objs.size H2 h' (s2.heap.objs.size + 1) := .inl ⟨Nat.le_succ _, I2.hok.fresh (Nat.le_succ _), _, _, e1, rfl, rfl, rfl⟩
  exact t pins σ H2 { s2 with heap := h' } _ s2.heap.objs.size I3 I2.sz x.lt I2.pinsLt x (h _)
end
end L2
end
section
set_option Elab.async false
set_option linter.all false
set_option maxRecDepth 100000
namespace L2
open PySem PySem.Spec PyProof.Rows
theorem ExcT.but {C a D : Addr} {n : Nat} {H : Hp} {h h' : Heap} {m : Str → Option Value} (x : ExcT C n H h a) (hD : h.Ns D m) (sb : Heap.SameBut D h h') : ExcT C n H h' a := by
  obtain ⟨g1, g2, oe, vs, T, oT, ts, y, e1, e2, e3, e4, e5, e6, e7, e8, e9, e10⟩ := x
  obtain ⟨o, es, ep, d1, d2, _⟩ := hD
  have n1 : a ≠ D := fun z => by
    rw [z, d1] at e1; cases e1
    rw [d2] at e3; cases e3
  have n2 : T ≠ D := fun z => by
    rw [z, d1] at e8; cases e8
    rw [d2] at e9; cases e9
  exact ⟨g1, g2, oe, vs, T, oT, ts, y, (sb.2 a n1).trans e1, e2, e3, e4, e5, e6, e7, (sb.2 T n2).trans e8, e9, e10⟩
section
variable {X : Cx}
theorem lcx_core {C0 : Addr} {E : XK} {pins : List (Addr × Obj)} {s : Shared} {σ : St} {H : Hp} {Q : VK} {elt tg iter : Expr} {ifs : List Expr} {scope : Scope} {own : List (Str × Nat)} {pos pos' : Pos} {wi : TI} {g : TG} {tt : TT} {te : TE} {use : Option (Value → Sem Unit)} {Qf : Value → Shared → Prop}
    (th : Thr C0 X E) (hst : X.stack = X.env :: X.outer) (hfr : X.env.frame = some X.env.locals) (hc : X.calm = true) (hN : X.N.Nodup) (I : Inv X pins σ H s) (hi : PI X tg iter wi) (ok : BlkOk X.N X.env.scope scope own)
    (hg : ∀ (s : Shared) (H : Hp) (C : Addr) (cl : List (Str × Addr)) (fp : List Addr), PG (X.blk s H scope (compEnvC scope cl C X.env) fp) tg g) (ht : ∀ (s : Shared) (H : Hp) (C : Addr) (cl : List (Str × Addr)) (fp : List Addr), PTs (X.blk s H scope (compEnvC scope cl C X.env) fp) ifs tt)
    (he : ∀ (s : Shared) (H : Hp) (C : Addr) (cl : List (Str × Addr)) (fp : List Addr) (xe : Value → Shared → Prop), Thr C0 ((X.blk s H scope (compEnvC scope cl C X.env) fp).wish xe) E → PE ((X.blk s H scope (compEnvC scope cl C X.env) fp).wish xe) elt te) (hs : ∀ x, foldedSetIterable iter X.env x = pure x)
    (h : tLc wi g tt te (own.map (·.2)) σ H Q)
    (hRR : ∀ D C s' m H', Inv X pins σ H' s' → Q (.ref D) H' → s'.heap.Ns C m → FpOk X pins H' C → compPost (model X.prog X.w) X.A X.xe use Qf (.ref D) C (.ok .next) s') :
    wpAny (model X.prog X.w) X.A (comprehension (.ListComp elt [⟨tg, iter, ifs, 0⟩] scope pos) scope X.env pos' (newList []) false (eval iter X.env) use) Qf X.xe s := by
  have hfree : ∀ y ∈ scope.names, y.2 = .free → ∃ c, X.env.cells.lookup y.1 = some c := fun y hy e => by
    rcases ok.free y hy e with k | k
    · exact I.ok.has _ (.inl k)
    · exact I.ok.has _ (.inr k)
  refine wpAny_comprehension_free (use := use) rfl hs (closure_ok hfree) ok.kind (fun y hy e => by rw [ok.uniq y hy, e])
    (thn (hi pins s σ H _ I h) fun xv s1 hx => thn hx fun itv s2 h2 => ?_)
  obtain ⟨it, fp, tn, J, H2, e, I2, T, st2, f2, q⟩ := h2
  subst e
  refine wpAny_newObj_type (newEnv_comp ?_) (by show 0 ≤ sizeLine; decide)
  generalize hD : s2.heap.objs.size = D
  have hDn : H2 D = none := I2.hok.fresh (Nat.le_of_eq hD)
  obtain ⟨W, ⟨m0, w0⟩, turn⟩ := q D hDn
  -- the new list
  generalize hs3 : ({ s2 with heap := s2.heap.push { cls := .type "list", data := .seq ([] : List Value).toArray } } : Shared) = s3
  have I3 : Inv X pins σ (upd H2 D (.lst [])) s3 := by
    rw [← hs3]
    refine I2.laid (t' := s2.toks) (fun b o e => Heap.get?_push_of_some _ e) (Nat.le_of_eq hD) ⟨Nat.zero_le _, [], 0, .nil, ?_⟩
    rw [← hD]
    exact Heap.get?_push_size _ rfl
  have h3 : s3.heap = s2.heap.push { cls := .type "list", data := .seq ([] : List Value).toArray } := by rw [← hs3]
  have sz : ∀ b ∈ fp, b < s2.heap.objs.size := fun b hb => by
    obtain ⟨o, e, _⟩ := T.obj _ _ st2 b hb
    exact Heap.lt_size e
  have f3 : ∀ b ∈ fp, FpOk X pins (upd H2 D (.lst [])) b ∧ b < s3.heap.objs.size := fun b hb => by
    have hlt := sz b hb
    refine ⟨⟨?_, (f2 b hb).2⟩, by rw [h3, Heap.size_push]; exact Nat.lt_succ_of_lt hlt⟩
    rw [upd_ne (by rw [← hD]; exact Nat.ne_of_lt hlt)]
    exact (f2 b hb).1
  have st3 : tn 0 s3.heap := T.keep _ _ _ st2 fun b _ o e => by rw [h3]; exact Heap.get?_push_of_some _ e
  have I4 := block_start I3 ok hN f3
  have pg := hg s3 (upd H2 D (.lst [])) s3.heap.objs.size (cellsFrom (s3.heap.objs.size + 1) scope.names (cloFrom X.env.cells scope.names [])) fp
  have pt := ht s3 (upd H2 D (.lst [])) s3.heap.objs.size (cellsFrom (s3.heap.objs.size + 1) scope.names (cloFrom X.env.cells scope.names [])) fp
  have pe := he s3 (upd H2 D (.lst [])) s3.heap.objs.size (cellsFrom (s3.heap.objs.size + 1) scope.names (cloFrom X.env.cells scope.names [])) fp
  show codeAny _ _ (.compStart (.ListComp elt [⟨tg, iter, ifs, 0⟩] scope pos) 0 (.ref it) (.ref D) (compEnvC scope (cellsFrom (s3.heap.objs.size + 1) scope.names (cloFrom X.env.cells scope.names [])) s3.heap.objs.size X.env)) (compPost (model X.prog X.w) X.A X.xe use Qf (.ref D) s3.heap.objs.size) { s3 with heap := pushCells (s3.heap.push { cls := .type "dict", data := .dict #[] }) scope.names }
  have nfp : ∀ b ∈ fp, (upd H2 D (.lst [])) b = none := fun b hb => (f3 b hb).1.1
  generalize hce : compEnvC scope (cellsFrom (s3.heap.objs.size + 1) scope.names (cloFrom X.env.cells scope.names [])) s3.heap.objs.size X.env = ce at I4 pg pt pe ⊢
  have cL : ce.locals = s3.heap.objs.size := by subst hce; rfl
  generalize hH3 : upd H2 D (.lst []) = H3 at I3 I4 pg pt pe w0 nfp f3
  generalize hs4 : ({ s3 with heap := pushCells (s3.heap.push { cls := .type "dict", data := .dict #[] }) scope.names } : Shared) = s4 at I4 ⊢
  have st4 : tn 0 s4.heap := T.keep _ _ _ st3 fun b _ o e => by rw [← hs4]; exact pushCells_keeps _ _ _ _ (Heap.get?_push_of_some _ e)
  have stat : ∀ {σ' : St} {H' : Hp} {s' : Shared}, Inv (X.blk s3 H3 scope ce fp) [] σ' H' s' → (∀ b ∈ fp, H' b = none) → ∀ b ∈ fp, FpOk (X.blk s3 H3 scope ce fp) [] H' b := fun {σ' H' s'} I' hn b hb =>
    ⟨hn b hb, (I'.ok.exf b hb).1, I'.ok.exfs b hb, .inl hb, fun x c e => (I'.ok.exf b hb).2 x c e, fun p hp => absurd (show p ∈ ([] : List (Addr × Obj)) ++ [] from hp) (by simp)⟩
  have cF : ce.frame = X.env.frame := by subst hce; rfl
  let xeB : Value → Shared → Prop := notedBy (model X.prog X.w) X.A ce (fun e s' => compPost (model X.prog X.w) X.A X.xe use Qf (.ref D) s3.heap.objs.size (.error e) s')
  have thB : Thr C0 ((X.blk s3 H3 scope ce fp).wish xeB) E := by
    intro pinsB σB HB sB a n IB hn hz hp x q
    have hn : s3.heap.objs.size ≤ n := hn
    show wpAny (model X.prog X.w) X.A (noteFrame (.ref a) ce) (fun _ s'' => compPost (model X.prog X.w) X.A X.xe use Qf (.ref D) s3.heap.objs.size (.error (.ref a)) s'') _ sB
    refine note_ok (base := X.base) (e0 := X.env) (outer := X.outer) (L := X.env.locals) (C := C0) (n := n) (H := HB) (hst ▸ IB.ok.frames) (hst ▸ IB.stack) hfr (cF.trans hfr) x hz (fun b hb => IB.hok.fresh hb) fun h' m x' => ?_
    have IB2 := IB.moved (hst.symm ▸ m) hn hp
    have f := I3.fpOk (H' := HB) (Nat.le_refl _) (by
      have z : HB ce.locals = none := IB2.free
      rw [cL] at z
      exact z)
    obtain ⟨f0, f1, f2', f3', f4, f5⟩ := f
    have I7 : Inv X pins σ HB { sB with heap := h' } := I3.call' (ch := fp) IB2.os IB2.base IB2.hok IB2.bare fun b hb => ⟨(f3 b hb).1.2.2.2.1, (f3 b hb).1.2.1, (f3 b hb).1.2.2.2.2.1, (f3 b hb).1.2.2.2.2.2⟩
    obtain ⟨mC, hC, _⟩ := IB2.loc
    have hC : h'.Ns ce.locals mC := hC
    rw [cL] at hC
    have goal : ∃ m, h'.Ns s3.heap.objs.size m ∧ ∀ h'', Heap.SameBut s3.heap.objs.size h' h'' → ∀ cenv : Env, cenv.locals = s3.heap.objs.size → wpAny (model X.prog X.w) X.A (PySem.passOn "comprehension.variables-let-go" (.ref a) cenv : Sem Value) (fun _ _ => False) X.xe { sB with heap := h'' } := by
      refine ⟨mC, hC, fun h'' sb cenv _ => ?_⟩
      have I8 : Inv X pins σ HB { sB with heap := h'' } := I7.turned (t' := sB.toks) (fun b o hb e => (sb.2 b hb).trans e) f0 f1 f3' f4 f5
      have x2 : ExcT C0 n HB h'' a := x'.but hC sb
      refine passOn_ok (fs := frs X.stack) (fun b hb => I8.fsObj b hb) x2 fun h3 m3 x3 => ?_
      have hp' : ∀ p ∈ X.pn ++ pins, p.1 < n := fun p hp => Nat.lt_of_lt_of_le (I3.pinsLt p hp) hn
      have I9 := I8.moved m3 (Nat.le_trans I3.sz hn) hp'
      exact th pins σ HB _ a n I9 (Nat.le_trans I3.sz hn) (Exc.lt (.inr x3)) hp' (.inr x3) q
    cases use
    · exact goal
    · exact goal
  have loop : codeAny (model X.prog X.w) X.A (.compLoop (.ListComp elt [⟨tg, iter, ifs, 0⟩] scope pos) 0 (.ref it) (.ref D) ce) (compPost (model X.prog X.w) X.A X.xe use Qf (.ref D) s3.heap.objs.size) s4 := by
    refine compLoop_any (fun n s' => ∃ i H', Inv (X.blk s3 H3 scope ce fp) [] (wipe σ (own.map (·.2))) H' s' ∧ tn i s'.heap ∧ (∀ b ∈ fp, H' b = none) ∧ W i n H') ?_ m0 ⟨0, H3, I4, st4, nfp, w0⟩
    rintro n s5 ⟨i, H5, I5, st5, n5, w5⟩
    rcases turn i n H5 w5 with ⟨stop, qq⟩ | ⟨go, Nx, hNx, step⟩
    · have td := T.done (X.blk s3 H3 scope ce fp) rfl rfl rfl hc i [] s5 _ H5 (fun _ _ => False) I5 (stat I5 n5) st5 stop
      refine thnF td fun r s6 ⟨hr, I6⟩ => ?_
      subst hr
      -- back in the def's context
      have I7 : Inv X pins σ H5 s6 := I3.call' (ch := fp) I6.os I6.base I6.hok I6.bare fun b hb => ⟨(f3 b hb).1.2.2.2.1, (f3 b hb).1.2.1, (f3 b hb).1.2.2.2.2.1, (f3 b hb).1.2.2.2.2.2⟩
      have nC : H5 s3.heap.objs.size = none := by
        have z : H5 ce.locals = none := I6.free
        rw [cL] at z
        exact z
      obtain ⟨m, hn, _⟩ := I6.loc
      have hn : s6.heap.Ns ce.locals m := hn
      rw [cL] at hn
      exact hRR D s3.heap.objs.size s6 m H5 I7 qq hn (I3.fpOk (Nat.le_refl _) nC)
    · have ti := T.item (X.blk s3 H3 scope ce fp) rfl rfl rfl hc i [] s5 _ H5 (fun _ _ => False) I5 (stat I5 n5) st5 go
      refine thnF ti fun r s6 ⟨u, hr, h6⟩ => ?_
      subst hr
      refine thnF h6 fun _ s7 ⟨x, H7, I7, r7, y7, st7, n7⟩ => ?_
      have I7' := I7.pinned (stat I7 n7) (T.obj _ _ st7)
      refine thnF (pg _ s7 _ H7 x u _ I7' r7 (step x H7 y7)) fun _ s8 ⟨σ8, H8, I8, hw8, q8⟩ => ?_
      refine thnF (pt _ s8 σ8 H8 _ I8 q8) fun b s9 ⟨H9, I9, q9⟩ => ?_
      -- the turn's end
      have fin : ∀ {s' : Shared} {H' : Hp}, Inv (X.blk s3 H3 scope ce fp) ([] ++ pinsAt fp s7.heap) σ8 H' s' → Nx H' → ∃ m, m < n ∧ ∃ i H', Inv (X.blk s3 H3 scope ce fp) [] (wipe σ (own.map (·.2))) H' s' ∧ tn i s'.heap ∧ (∀ b ∈ fp, H' b = none) ∧ W i m H' := fun {s' H'} I' nx => by
        obtain ⟨m', hm, w'⟩ := hNx H' nx
        have pin' : ∀ b ∈ fp, ∀ o, s7.heap.get? b = some o → s'.heap.get? b = some o ∧ H' b = none := fun b hb o e =>
          let z := I'.pin (b, o) (List.mem_append_right _ (List.mem_append_right _ (mem_pinsAt hb e)))
          ⟨z.1, z.2.1⟩
        have hl : (wipe σ (own.map (·.2))).length = σ8.length := by rw [← hw8, wipe_length]
        refine ⟨m', hm, i + 1, H', (I'.unpinned (pins := [])).weak hl (fun j v e => ?_), T.keep _ _ _ st7 fun b hb o e => (pin' b hb o e).1, fun b hb => ?_, w'⟩
        · rw [← hw8] at e
          exact (wipe_some e).1
        · obtain ⟨o, e, _⟩ := T.obj _ _ st7 b hb
          exact (pin' b hb o e).2
      cases b with
      | false =>
        simp only [Bool.false_eq_true, if_false] at q9 ⊢
        exact fin I9 q9
      | true =>
        simp only [if_true] at q9 ⊢
        refine wpAny_mono (pe xeB thB _ s9 σ8 H9 _ (I9.wish xeB) q9) (fun z s10 ⟨yv, H10, I10, r10, acc, hD10, hz10, nx⟩ => ?_) fun _ _ z => z
        exact app_ok (X := X.blk s3 H3 scope ce fp) I10.unwish hD10 hz10 r10 fun s11 I11 => fin I11 nx
  exact codeAny_compStart_list loop (T.self X.A 0 _ _ _ st4 loop)
/-- a comprehension whose element may raise, as a value -/
theorem pe_lcx {C0 : Addr} {E : XK} {elt tg iter : Expr} {ifs : List Expr} {scope : Scope} {own : List (Str × Nat)} {pos : Pos} {wi : TI} {g : TG} {tt : TT} {te : TE} (th : Thr C0 X E) (hst : X.stack = X.env :: X.outer) (hfr : X.env.frame = some X.env.locals) (hc : X.calm = true) (hN : X.N.Nodup) (hi : PI X tg iter wi) (ok : BlkOk X.N X.env.scope scope own)
    (hg : ∀ (s : Shared) (H : Hp) (C : Addr) (cl : List (Str × Addr)) (fp : List Addr), PG (X.blk s H scope (compEnvC scope cl C X.env) fp) tg g) (ht : ∀ (s : Shared) (H : Hp) (C : Addr) (cl : List (Str × Addr)) (fp : List Addr), PTs (X.blk s H scope (compEnvC scope cl C X.env) fp) ifs tt)
    (he : ∀ (s : Shared) (H : Hp) (C : Addr) (cl : List (Str × Addr)) (fp : List Addr) (xe : Value → Shared → Prop), Thr C0 ((X.blk s H scope (compEnvC scope cl C X.env) fp).wish xe) E → PE ((X.blk s H scope (compEnvC scope cl C X.env) fp).wish xe) elt te) (hs : ∀ x, foldedSetIterable iter X.env x = pure x := by intro _; rfl) :
    PE X (.ListComp elt [⟨tg, iter, ifs, 0⟩] scope pos) (tLc wi g tt te (own.map (·.2))) := by
  intro pins s σ H Q I h
  rw [eval_ListComp]
  refine lcx_core th hst hfr hc hN I hi ok hg ht he hs h fun D C s' m H' I' q hn f => ⟨m, hn, fun h'' sb => ?_⟩
  obtain ⟨f0, f1, f2, f3, f4, f5⟩ := f
  exact ⟨.ref D, H', I'.turned (t' := s'.toks) (fun b o hb e => (sb.2 b hb).trans e) f0 f1 f3 f4 f5, rfl, q⟩
theorem ps_setLcx {C0 : Addr} {E : XK} {i : Nat} {y : Str} {py : Pos} {elt tg iter : Expr} {ifs : List Expr} {scope : Scope} {own : List (Str × Nat)} {pos spos : Pos} {wi : TI} {g : TG} {tt : TT} {te : TE} (th : Thr C0 X E) (hst : X.stack = X.env :: X.outer) (hfr : X.env.frame = some X.env.locals) (hc : X.calm = true) (hN : X.N.Nodup) (hy : X.N[i]? = some y) (hyl : X.env.scope.names.lookup y = some .local)
    (hsw : swapsWith (.ListComp elt [⟨tg, iter, ifs, 0⟩] scope pos) (some (.Name y py)) spos.line X.env = pure true) (hi : PI X tg iter wi) (ok : BlkOk X.N X.env.scope scope own)
    (hg : ∀ (s : Shared) (H : Hp) (C : Addr) (cl : List (Str × Addr)) (fp : List Addr), PG (X.blk s H scope (compEnvC scope cl C X.env) fp) tg g) (ht : ∀ (s : Shared) (H : Hp) (C : Addr) (cl : List (Str × Addr)) (fp : List Addr), PTs (X.blk s H scope (compEnvC scope cl C X.env) fp) ifs tt)
    (he : ∀ (s : Shared) (H : Hp) (C : Addr) (cl : List (Str × Addr)) (fp : List Addr) (xe : Value → Shared → Prop), Thr C0 ((X.blk s H scope (compEnvC scope cl C X.env) fp).wish xe) E → PE ((X.blk s H scope (compEnvC scope cl C X.env) fp).wish xe) elt te) (hs : ∀ x, foldedSetIterable iter X.env x = pure x := by intro _; rfl) :
    PS X (.Assign [.Name y py] (.ListComp elt [⟨tg, iter, ifs, 0⟩] scope pos) spos) (tAsg (tLc wi g tt te (own.map (·.2))) (gName i)) := by
  intro pins s σ H D I h
  rw [exec_Assign_Name_used _ _ _ _ hsw]
  refine wpAny_bind (wpAny_standAt (wpAny_bind ?_))
  show wpAny _ X.A (do let _ ← comprehension (.ListComp elt [⟨tg, iter, ifs, 0⟩] scope pos) scope X.env (firstIterPos [⟨tg, iter, ifs, 0⟩] pos) (newList []) false (eval iter X.env) (some (assign (.Name y py) X.env))) _ _ s
  have h : tLc wi g tt te (own.map (·.2)) σ H (fun x H1 => gName i x σ H1 D.nx) := h
  refine wpAny_bind (thn (lcx_core (Qf := fun _ s' => SP X pins D .next s') th hst hfr hc hN I hi ok hg ht he hs h fun L C s' m H' I' q hn f => ?_) fun _ s' hq => wpAny_pure (wpAny_pure hq))
  show wpAny _ _ (assign (.Name y py) X.env (.ref L)) _ _ _
  refine wpAny_assign_Name (store_ok2 (v := V.ref L) I' hN hy (.inl hyl) rfl (fun s2 I2 ⟨a, sb, ha⟩ => ?_) (.inr hyl))
  obtain ⟨f0, f1, f2, f3, f4, f5⟩ := f
  have haC : C ≠ a := by
    rcases ha with z | z
    · rw [z]; exact f1
    · exact fun e => f4 y a z e.symm
  refine ⟨m, hn.sameBut sb haC, fun h3 sb3 => ?_⟩
  exact ⟨_, H', I2.turned (t' := s2.toks) (fun b o hb e => (sb3.2 b hb).trans e) f0 f1 f3 f4 f5, q⟩
/-- try: .. except Own: .. -/
def tTry (tb : XK → TS) (th : TS) : TS := fun D σ H => tb (fun _ _ H' => ∀ σ', th D σ' H') D σ H
theorem ps_try {C : Addr} {x : Str} {b0 : Stmt} {body suite : List Stmt} {np hpos pos : Pos} {tb : XK → TS} {th : TS} (hst : X.stack = X.env :: X.outer) (hfr : X.env.frame = some X.env.locals) (hg : Gl X x) (hm : X.mg x = some (.ref C)) (hex : PySem.W.excIn X.K C bmVE "ValueError.__new__" = true)
    (hb : ∀ (pn : List (Addr × Obj)) (xe : Value → Shared → Prop) (E : XK), Thr C { X with pn := pn, xe := xe } E → PSs { X with pn := pn, xe := xe } body (tb E))
    (hh : ∀ a : Addr, PSs { X with A := X.A.mark (some (.ref a)), calm := false, xe := fun _ _ => False } (b0 :: suite) th) (hd : (x == ("__debug__" : Str)) = false := by decide) :
    PS X (.Try body [.ExceptHandler (some (.Name x np)) none (b0 :: suite) hpos] [] [] pos) (tTry tb th) := by
  intro pins s σ H D I h
  refine wpAny_Try_except ?_
  generalize hxe : (fun (e : Value) (s₁ : Shared) => wpAny (model X.prog X.w) X.A (noteFrame e X.env) (fun _ s₂ => wpAny (model X.prog X.w) X.A (setFlight e none) (fun _ s₃ => wpAny (model X.prog X.w) X.A (handleBy e X.env [.ExceptHandler (some (.Name x np)) none (b0 :: suite) hpos]) (SP X pins D) X.xe s₃) X.xe s₂) X.xe s₁) = xeB
  have okB : X.Ok → Cx.Ok { X with pn := X.pn ++ pins, xe := xeB } := fun ok => ⟨ok.mod, ok.kind, ok.glob, ok.blt, ok.above, ok.inj, ok.has, ok.cab, ok.hd, ok.frames, ok.stk, ok.exf, ok.bs, ok.bsz, ok.noex, ok.exfs, ok.funs, ok.frf⟩
  have okU : Cx.Ok { X with pn := X.pn ++ pins, xe := xeB } → X.Ok := fun ok => ⟨ok.mod, ok.kind, ok.glob, ok.blt, ok.above, ok.inj, ok.has, ok.cab, ok.hd, ok.frames, ok.stk, ok.exf, ok.bs, ok.bsz, ok.noex, ok.exfs, ok.funs, ok.frf⟩
  have okH : ∀ a : Addr, X.Ok → Cx.Ok { X with A := X.A.mark (some (.ref a)), calm := false, xe := fun _ _ => False } := fun a ok => ⟨ok.mod, ok.kind, ok.glob, ok.blt, ok.above, ok.inj, ok.has, ok.cab, fun z => (by cases z), ok.frames, ok.stk, ok.exf, ok.bs, ok.bsz, ok.noex, ok.exfs, ok.funs, ok.frf⟩
  have back : ∀ {pins' : List (Addr × Obj)} {σ' : St} {H' : Hp} {s' : Shared}, Inv { X with pn := X.pn ++ pins, xe := xeB } pins' σ' H' s' → Inv X pins σ' H' s' := fun {pins' σ' H' s'} J =>
    ⟨okU J.ok, J.os, J.bare, J.base, J.loc, J.cell, J.free, J.freeC, fun p hp => J.pin p (List.mem_append_left _ hp), J.hok, J.len⟩
  have toH : ∀ (a : Addr) {σ' : St} {H' : Hp} {s' : Shared}, Inv X pins σ' H' s' → Inv { X with A := X.A.mark (some (.ref a)), calm := false, xe := fun _ _ => False } pins σ' H' s' := fun a {σ' H' s'} J =>
    ⟨okH a J.ok, J.os, J.bare, J.base, J.loc, J.cell, J.free, J.freeC, J.pin, J.hok, J.len⟩
  have frH : ∀ (a : Addr) {σ' : St} {H' : Hp} {s' : Shared}, Inv { X with A := X.A.mark (some (.ref a)), calm := false, xe := fun _ _ => False } pins σ' H' s' → Inv X pins σ' H' s' := fun a {σ' H' s'} J =>
    ⟨I.ok, J.os, J.bare, J.base, J.loc, J.cell, J.free, J.freeC, J.pin, J.hok, J.len⟩
  have IB : Inv { X with pn := X.pn ++ pins, xe := xeB } [] σ H s :=
    ⟨okB I.ok, I.os, I.bare, I.base, I.loc, I.cell, I.free, I.freeC, fun p hp => I.pin p (by have hp : p ∈ (X.pn ++ pins) ++ [] := hp; rw [List.append_nil] at hp; exact hp), I.hok, I.len⟩
  have thB : Thr C { X with pn := X.pn ++ pins, xe := xeB } (fun _ _ H' => ∀ σ', th D σ' H') := by
    intro pins' σ' H' s' a n J hn hz hp x q
    have hp : ∀ p ∈ X.pn ++ pins, p.1 < n := fun p hq => hp p (List.mem_append_left _ hq)
    have J0 := back J
    have hn : X.s_0.heap.objs.size ≤ n := hn
    show xeB (.ref a) s'
    rw [← hxe]
    show wpAny (model X.prog X.w) X.A (noteFrame (.ref a) X.env) _ _ s'
    refine note_ok (base := X.base) (e0 := X.env) (outer := X.outer) (L := X.env.locals) (C := C) (n := n) (H := H') (hst ▸ J0.ok.frames) (hst ▸ J0.stack) hfr hfr x hz (fun b hb => J0.hok.fresh hb) fun h1 m1 x1 => ?_
    have J1 := J0.moved (hst.symm ▸ m1) hn hp
    refine flight_ok (fs := frs X.stack) (fun b hb => J1.fsObj b hb) x1 fun h2 m2 x2 => ?_
    have J2 := J1.moved m2 hn hp
    refine wpAny_handleBy_cons (codeAny_handlers_test (ld_glob (toH a J2) hg hm ?_ hd)) (by intro q; cases q)
    obtain ⟨bm, N, nm, qn, bs, hdct, sn, sub, ab, col, dd, k0, k1, k2, k3, k5, mN, hC, hN, hni, TL⟩ := own_obj J2.kIn hex
    obtain ⟨oe, hoe, hoc⟩ := x2.cls
    refine wpAny_excMatches_sub_self hC hoe hoc (TL.hasType (by decide +kernel)) (codeAny_handlers_suite ?_)
    refine flight_ok (fs := frs X.stack) (fun b hb => J2.fsObj b hb) x2 fun h3 m3 x3 => ?_
    have J3 := J2.moved m3 hn hp
    refine thnF (hh a pins _ σ' H' D (toH a J3) (q σ')) fun f s4 hf => ?_
    cases f with
    | next => obtain ⟨σ4, H4, I4, d4⟩ := hf; exact ⟨σ4, H4, frH a I4, d4⟩
    | brk => obtain ⟨σ4, H4, I4, d4⟩ := hf; exact ⟨σ4, H4, frH a I4, d4⟩
    | cont => obtain ⟨σ4, H4, I4, d4⟩ := hf; exact ⟨σ4, H4, frH a I4, d4⟩
    | ret u => obtain ⟨v, σ4, H4, I4, r4, d4⟩ := hf; exact ⟨v, σ4, H4, frH a I4, r4, d4⟩
  refine wpAny_mono (hb _ xeB _ thB [] s σ H D IB h) (fun f s1 hf => ?_) fun e s1 he => he
  cases f with
  | next => obtain ⟨σ4, H4, I4, d4⟩ := hf; exact (pss_nil : PSs X [] tNext) pins s1 σ4 H4 D (back I4) d4
  | brk => obtain ⟨σ4, H4, I4, d4⟩ := hf; exact ⟨σ4, H4, back I4, d4⟩
  | cont => obtain ⟨σ4, H4, I4, d4⟩ := hf; exact ⟨σ4, H4, back I4, d4⟩
  | ret u => obtain ⟨v, σ4, H4, I4, r4, d4⟩ := hf; exact ⟨v, σ4, H4, back I4, r4, d4⟩
end
end L2
end
section
set_option Elab.async false
set_option linter.all false
set_option maxRecDepth 100000
set_option maxHeartbeats 4000000
namespace PySem
open Sem (wp)
section
variable {prog : Program} {w : World} {A : Around} {E : Value → Shared → Prop} {s : Shared}
theorem zipT_item {z TI TO i1 i2 l1 l2 : Addr} {k1 k2 : Nat} {xs ys : Array Value} {x y a b : Value} {Q : Value → Shared → Prop} (D : ZipApart z TI TO i1 i2 l1 l2)
    (hz : IsZip s.heap z TI TO .none) (hTI : IsPair s.heap TI (.ref i1) (.ref i2)) (hTO : IsPair s.heap TO a b)
    (h1 : s.heap.IsListIter i1 l1 k1) (h2 : s.heap.IsTupleIter i2 l2 k2) (hl1 : s.heap.IsList l1 xs) (hl2 : s.heap.IsTuple l2 ys) (hx : xs[k1]? = some x) (hy : ys[k2]? = some y)
    (hQ : ∀ h', IsZip h' z TI TO (rawInt s.heap.objs.size) → IsPair h' TO x y → h'.IsListIter i1 l1 (k1 + 1) → h'.IsTupleIter i2 l2 (k2 + 1) → IsPair h' s.heap.objs.size x y → h'.objs.size = s.heap.objs.size + 1 →
      (∀ c o, c ≠ z → c ≠ TO → c ≠ i1 → c ≠ i2 → s.heap.get? c = some o → h'.get? c = some o) → Q (.ref s.heap.objs.size) { s with heap := h' }) :
    wpAny (model prog w) A (Builtin.«zip.__next__» ⟨[.ref z], []⟩) (fun fin s' => ∃ v, fin = .done (.ret v) ∧ Q v s') E s := by
  show wpAny _ _ (field (.ref z) 2 >>= _) _ _ _
  refine wpAny_bind (wpAny_field hz rfl (x := .bool false) rfl ?_)
  show wpAny _ _ (field (.ref z) 3 >>= _) _ _ _
  refine wpAny_bind (wpAny_field hz rfl (x := .ref TI) rfl ?_)
  refine wpAny_bind (wpAny_seqItems hTI rfl ?_)
  show wpAny _ _ (Builtin.SmallTypes.ownedTupleIsFree (.ref z) >>= _) _ _ _
  refine wpAny_bind ?_
  unfold Builtin.SmallTypes.ownedTupleIsFree
  refine wpAny_bind (wpAny_field hz rfl (x := .none) rfl (wpAny_pure ?_))
  simp only [if_true]
  refine wpAny_bind (wpAny_rule ?_)
  refine wpAny_bind (wpAny_field hz rfl (x := .ref TO) rfl ?_)
  refine wpAny_bind (wpAny_setField_rec hz (by simp) fun h₁ hz₁ hs₁ => ?_)
  replace hz₁ : IsZip h₁ z TI TO .ellipsis := hz₁
  refine wpAny_bind ?_
  simp only [List.zipIdx_cons, List.zipIdx_nil, List.forIn_cons, List.forIn_nil]

  refine wpAny_bind (wpAny_bind (wpAny_onRaise ?_))
  show wpAny _ _ (Builtin.SmallTypes.nextOf (.ref i1) >>= _) _ _ _
  refine wpAny_bind (wpAny_nextOf_list_item (h1.extBut hs₁.extBut D.i1z) (hl1.extBut hs₁.extBut D.l1z) hx fun h₂ h1₂ hs₂ => wpAny_pure ?_)
  have hTO₂ : IsPair h₂ TO a b := hs₂.extBut _ _ D.TOi1 (hs₁.extBut _ _ D.TOz hTO)
  refine wpAny_bind (wpAny_seqItems hTO₂ rfl ?_)
  refine wpAny_bind (wpAny_updateSeq_pair hTO₂ fun h₃ hTO₃ hs₃ => ?_)
  replace hTO₃ : IsPair h₃ TO x b := hTO₃
  refine wpAny_bind (wpAny_letGo (wpAny_pure ?_))

  refine wpAny_bind (wpAny_bind (wpAny_onRaise ?_))
  show wpAny _ _ (Builtin.SmallTypes.nextOf (.ref i2) >>= _) _ _ _
  refine wpAny_bind (nextT_item (((h2.extBut hs₁.extBut D.i2z).extBut hs₂.extBut D.i12.symm).extBut hs₃.extBut D.TOi2.symm)
    (((hl2.extBut hs₁.extBut D.l2z).extBut hs₂.extBut D.l2i1).extBut hs₃.extBut D.l2TO) hy fun h₄ h2₄ hs₄ => wpAny_pure ?_)
  have hTO₄ : IsPair h₄ TO x b := hs₄.extBut _ _ D.TOi2 hTO₃
  refine wpAny_bind (wpAny_seqItems hTO₄ rfl ?_)
  refine wpAny_bind (wpAny_updateSeq_pair hTO₄ fun h₅ hTO₅ hs₅ => ?_)
  replace hTO₅ : IsPair h₅ TO x y := hTO₅
  refine wpAny_bind (wpAny_letGo (wpAny_pure (wpAny_pure ?_)))

  refine wpAny_bind (wpAny_seqItems hTO₅ rfl ?_)
  refine wpAny_bind (wpAny_newTuple ?_)
  have hsz : h₅.objs.size = s.heap.objs.size := by rw [hs₅.1, hs₄.1, hs₃.1, hs₂.1, hs₁.1]
  have hz₅ : IsZip h₅ z TI TO .ellipsis := hs₅.extBut _ _ D.TOz.symm (hs₄.extBut _ _ D.i2z.symm (hs₃.extBut _ _ D.TOz.symm (hs₂.extBut _ _ D.i1z.symm hz₁)))
  have hk₅ : ∀ c o, c ≠ z → c ≠ TO → c ≠ i1 → c ≠ i2 → s.heap.get? c = some o → h₅.get? c = some o := fun c o c1 c2 c3 c4 e =>
    hs₅.extBut _ _ c2 (hs₄.extBut _ _ c4 (hs₃.extBut _ _ c2 (hs₂.extBut _ _ c3 (hs₁.extBut _ _ c1 e))))
  have h1₅ : h₅.IsListIter i1 l1 (k1 + 1) := ((h1₂.extBut hs₃.extBut D.TOi1.symm).extBut hs₄.extBut D.i12).extBut hs₅.extBut D.TOi1.symm
  have h2₅ : h₅.IsTupleIter i2 l2 (k2 + 1) := h2₄.extBut hs₅.extBut D.TOi2.symm
  have hzlt : z < h₅.objs.size := Heap.lt_size hz₅
  have hTOlt : TO < h₅.objs.size := Heap.lt_size hTO₅
  have hi1lt : i1 < h₅.objs.size := by obtain ⟨_, e, _⟩ := h1₅; exact Heap.lt_size e
  have hi2lt : i2 < h₅.objs.size := by obtain ⟨_, e, _⟩ := h2₅; exact Heap.lt_size e
  show wpAny _ _ (Builtin.SmallTypes.ownedTupleHandOut (.ref z) (.ref h₅.objs.size) >>= _) _ _ _
  refine wpAny_bind ?_
  unfold Builtin.SmallTypes.ownedTupleHandOut
  have hz₆ : IsZip (h₅.push { cls := .type "tuple", data := .seq #[x, y] }) z TI TO .ellipsis := Heap.get?_push_of_some _ hz₅
  refine wpAny_bind (wpAny_setField_rec hz₆ (by simp) fun h₇ hz₇ hs₇ => ?_)
  replace hz₇ : IsZip h₇ z TI TO (rawInt h₅.objs.size) := hz₇
  refine wpAny_setField_rec hz₇ (by simp) fun h₈ hz₈ hs₈ => ?_
  replace hz₈ : IsZip h₈ z TI TO (rawInt h₅.objs.size) := hz₈
  have up : ∀ c o, c ≠ z → h₅.get? c = some o → h₈.get? c = some o := fun c o c1 e => hs₈.extBut _ _ c1 (hs₇.extBut _ _ c1 (Heap.get?_push_of_some _ e))
  have hT₈ : IsPair h₈ h₅.objs.size x y := hs₈.extBut _ _ (Nat.ne_of_gt hzlt) (hs₇.extBut _ _ (Nat.ne_of_gt hzlt) (Heap.get?_push_size _ rfl))
  have hz8 : h₈.objs.size = h₅.objs.size + 1 := by rw [hs₈.1, hs₇.1, Heap.size_push]
  rw [hsz] at hz₈ hT₈ hz8
  refine wpAny_pure ⟨_, rfl, ?_⟩
  show Q (.ref h₅.objs.size) _
  rw [hsz]
  exact hQ h₈ hz₈ (up _ _ D.TOz hTO₅) (h1₅.at fun o e => up _ o D.i1z e) (h2₅.at fun o e => up _ o D.i2z e) hT₈ hz8 fun c o c1 c2 c3 c4 e => up c o c1 (hk₅ c o c1 c2 c3 c4 e)

theorem zipT_end {z TI TO i1 i2 l1 l2 : Addr} {k1 k2 : Nat} {xs ys : Array Value} {a b : Value} {Q : Fin → Shared → Prop} (hh : A.handled = none) (D : ZipApart z TI TO i1 i2 l1 l2)
    (hz : IsZip s.heap z TI TO .none) (hTI : IsPair s.heap TI (.ref i1) (.ref i2)) (hTO : IsPair s.heap TO a b)
    (h1 : s.heap.IsListIter i1 l1 k1) (h2 : s.heap.IsTupleIter i2 l2 k2) (hl1 : s.heap.IsList l1 xs) (hl2 : s.heap.IsTuple l2 ys) (hend : xs[k1]? = none ∨ ys[k2]? = none)
    (hE : ∀ h' e, (∀ c o, c ≠ z → c ≠ TO → c ≠ i1 → c ≠ i2 → s.heap.get? c = some o → h'.get? c = some o) → (∃ o, h'.get? e = some o ∧ o.cls = .type "StopIteration") → E (.ref e) { s with heap := h' }) :
    wpAny (model prog w) A (Builtin.«zip.__next__» ⟨[.ref z], []⟩) Q E s := by
  show wpAny _ _ (field (.ref z) 2 >>= _) _ _ _
  refine wpAny_bind (wpAny_field hz rfl (x := .bool false) rfl ?_)
  show wpAny _ _ (field (.ref z) 3 >>= _) _ _ _
  refine wpAny_bind (wpAny_field hz rfl (x := .ref TI) rfl ?_)
  refine wpAny_bind (wpAny_seqItems hTI rfl ?_)
  show wpAny _ _ (Builtin.SmallTypes.ownedTupleIsFree (.ref z) >>= _) _ _ _
  refine wpAny_bind ?_
  unfold Builtin.SmallTypes.ownedTupleIsFree
  refine wpAny_bind (wpAny_field hz rfl (x := .none) rfl (wpAny_pure ?_))
  simp only [if_true]
  refine wpAny_bind (wpAny_rule ?_)
  refine wpAny_bind (wpAny_field hz rfl (x := .ref TO) rfl ?_)
  refine wpAny_bind (wpAny_setField_rec hz (by simp) fun h₁ hz₁ hs₁ => ?_)
  replace hz₁ : IsZip h₁ z TI TO .ellipsis := hz₁
  refine wpAny_bind ?_
  simp only [List.zipIdx_cons, List.zipIdx_nil, List.forIn_cons, List.forIn_nil]
  refine wpAny_bind (wpAny_bind (wpAny_onRaise ?_))
  show wpAny _ _ (Builtin.SmallTypes.nextOf (.ref i1) >>= _) _ _ _
  cases hx : xs[k1]? with
  | none =>
    refine wpAny_bind (wpAny_nextOf_list_end hh (h1.extBut hs₁.extBut D.i1z) (hl1.extBut hs₁.extBut D.l1z) hx fun h₂ e hs₂ he => ?_)
    obtain ⟨oe, hoe, hce⟩ := he
    have hz₂ : IsZip h₂ z TI TO .ellipsis := hs₂ _ _ D.i1z.symm hz₁
    have hez : e ≠ z := fun x => by subst x; rw [hz₂] at hoe; cases hoe; simp at hce
    refine wpAny_setField_rec hz₂ (by simp) fun h₃ _ hs₃ => hE h₃ e (fun c o c1 _ c3 _ x => hs₃.extBut _ _ c1 (hs₂ _ _ c3 (hs₁.extBut _ _ c1 x))) ⟨oe, hs₃.extBut _ _ hez hoe, hce⟩
  | some x =>
    have hy : ys[k2]? = none := by rcases hend with h | h; rw [hx] at h; cases h; exact h
    refine wpAny_bind (wpAny_nextOf_list_item (h1.extBut hs₁.extBut D.i1z) (hl1.extBut hs₁.extBut D.l1z) hx fun h₂ h1₂ hs₂ => wpAny_pure ?_)
    have hTO₂ : IsPair h₂ TO a b := hs₂.extBut _ _ D.TOi1 (hs₁.extBut _ _ D.TOz hTO)
    refine wpAny_bind (wpAny_seqItems hTO₂ rfl ?_)
    refine wpAny_bind (wpAny_updateSeq_pair hTO₂ fun h₃ hTO₃ hs₃ => ?_)
    refine wpAny_bind (wpAny_letGo (wpAny_pure ?_))
    refine wpAny_bind (wpAny_bind (wpAny_onRaise ?_))
    show wpAny _ _ (Builtin.SmallTypes.nextOf (.ref i2) >>= _) _ _ _
    refine wpAny_bind (nextT_end hh (((h2.extBut hs₁.extBut D.i2z).extBut hs₂.extBut D.i12.symm).extBut hs₃.extBut D.TOi2.symm)
      (((hl2.extBut hs₁.extBut D.l2z).extBut hs₂.extBut D.l2i1).extBut hs₃.extBut D.l2TO) hy fun h₄ e hs₄ he => ?_)
    obtain ⟨oe, hoe, hce⟩ := he
    have hz₄ : IsZip h₄ z TI TO .ellipsis := hs₄ _ _ D.i2z.symm (hs₃.extBut _ _ D.TOz.symm (hs₂.extBut _ _ D.i1z.symm hz₁))
    have hez : e ≠ z := fun x => by subst x; rw [hz₄] at hoe; cases hoe; simp at hce
    refine wpAny_setField_rec hz₄ (by simp) fun h₅ _ hs₅ => hE h₅ e (fun c o c1 c2 c3 c4 x => hs₅.extBut _ _ c1 (hs₄ _ _ c4 (hs₃.extBut _ _ c2 (hs₂.extBut _ _ c3 (hs₁.extBut _ _ c1 x))))) ⟨oe, hs₅.extBut _ _ hez hoe, hce⟩

theorem zipT_nextItem {z TI TO i1 i2 l1 l2 : Addr} {k1 k2 : Nat} {xs ys : Array Value} {x y a b : Value} {Q : Option Value → Shared → Prop} (D : ZipApart z TI TO i1 i2 l1 l2)
    (hz : IsZip s.heap z TI TO .none) (hTI : IsPair s.heap TI (.ref i1) (.ref i2)) (hTO : IsPair s.heap TO a b)
    (h1 : s.heap.IsListIter i1 l1 k1) (h2 : s.heap.IsTupleIter i2 l2 k2) (hl1 : s.heap.IsList l1 xs) (hl2 : s.heap.IsTuple l2 ys) (hx : xs[k1]? = some x) (hy : ys[k2]? = some y)
    (hQ : ∀ h', IsZip h' z TI TO (rawInt s.heap.objs.size) → IsPair h' TO x y → h'.IsListIter i1 l1 (k1 + 1) → h'.IsTupleIter i2 l2 (k2 + 1) → IsPair h' s.heap.objs.size x y → h'.objs.size = s.heap.objs.size + 1 →
      (∀ c o, c ≠ z → c ≠ TO → c ≠ i1 → c ≠ i2 → s.heap.get? c = some o → h'.get? c = some o) → Q (some (.ref s.heap.objs.size)) { s with heap := h' }) :
    wpAny (model prog w) A (pyNext (.ref z)) Q E s := by
  have hT : s.TypeIs (.ref z) "zip" := ⟨_, hz, rfl⟩
  unfold pyNext
  exact wpAny_bind (wpAny_attempt (wpAny_callSpecial?_slot (name := Str.ofString "__next__") hT F.slot_zip_next
    (wpAny_call_entry F.slot_zip_next hT F.entry_zip_next
      (zipT_item D hz hTI hTO h1 h2 hl1 hl2 hx hy fun h' a1 a2 a3 a4 a5 a6 a7 => wpAny_pure (hQ h' a1 a2 a3 a4 a5 a6 a7)) (F.args_zip_next_1 _))))

theorem zipT_nextEnd {z TI TO i1 i2 l1 l2 : Addr} {k1 k2 : Nat} {xs ys : Array Value} {a b : Value} {Q : Option Value → Shared → Prop} (hh : A.handled = none) (D : ZipApart z TI TO i1 i2 l1 l2)
    (hz : IsZip s.heap z TI TO .none) (hTI : IsPair s.heap TI (.ref i1) (.ref i2)) (hTO : IsPair s.heap TO a b)
    (h1 : s.heap.IsListIter i1 l1 k1) (h2 : s.heap.IsTupleIter i2 l2 k2) (hl1 : s.heap.IsList l1 xs) (hl2 : s.heap.IsTuple l2 ys) (hend : xs[k1]? = none ∨ ys[k2]? = none)
    (hQ : ∀ h', (∀ c o, c ≠ z → c ≠ TO → c ≠ i1 → c ≠ i2 → s.heap.get? c = some o → h'.get? c = some o) → Q none { s with heap := h' }) : wpAny (model prog w) A (pyNext (.ref z)) Q E s := by
  have hT : s.TypeIs (.ref z) "zip" := ⟨_, hz, rfl⟩
  unfold pyNext
  refine wpAny_bind (wpAny_attempt (wpAny_callSpecial?_slot (name := Str.ofString "__next__") hT F.slot_zip_next
    (wpAny_call_entry F.slot_zip_next hT F.entry_zip_next (zipT_end hh D hz hTI hTO h1 h2 hl1 hl2 hend fun h' e hk he => ?_) (F.args_zip_next_1 _))))
  obtain ⟨o, ho, hc⟩ := he
  refine wpAny_bind (wpAny_isInstance (T := "StopIteration") (b := true) ⟨o, ho, hc⟩ isSubtype_stop ?_)
  exact wpAny_pure (hQ _ hk)

end
abbrev zipT1 (h : Heap) (l1 : Addr) : Heap := h.push { cls := .type "list_iterator", data := .fields #[.ref l1, .int 0 0] }
abbrev zipT2 (h : Heap) (l1 l2 : Addr) : Heap := (zipT1 h l1).push { cls := .type "tuple_iterator", data := .fields #[.ref l2, .int 0 0] }
abbrev zipT3 (h : Heap) (l1 l2 : Addr) : Heap := (zipT2 h l1 l2).push { cls := .type "tuple", data := .seq #[.ref h.objs.size, .ref (zipT1 h l1).objs.size] }
abbrev zipT4 (h : Heap) (l1 l2 : Addr) : Heap := (zipT3 h l1 l2).push { cls := .type "tuple", data := .seq #[.none, .none] }
abbrev zipT5 (h : Heap) (l1 l2 : Addr) : Heap := (zipT4 h l1 l2).push { cls := .type "zip", data := .fields #[.none, .bool false, .bool false, .ref (zipT2 h l1 l2).objs.size, .ref (zipT3 h l1 l2).objs.size] }
theorem meets_zipT_new (l1 l2 : Addr) (xs ys : Array Value) :
    Meets (Builtin.«zip.__new__» ⟨[.type "zip", .ref l1, .ref l2], []⟩) (fun _ R s => s.heap.IsList l1 xs ∧ s.heap.IsTuple l2 ys ∧
      R (.ok (.ret (.ref (zipT4 s.heap l1 l2).objs.size))) { s with heap := zipT5 s.heap l1 l2 }) :=
  .of_wp fun prog w A R s h => by
    obtain ⟨hp, g, d, tk, os⟩ := s; obtain ⟨hl1, hl2, h⟩ := h
    have hsub := sub_zip
    have hL1 : Heap.IsList (Shared.heap ⟨hp, g, d, tk, os⟩) l1 xs := hl1
    have hL2 : Heap.IsTuple (Shared.heap ⟨hp.push { cls := .type "list_iterator", data := .fields #[.ref l1, .int 0 0] }, g, d, tk, os⟩) l2 ys := Heap.IsTuple.push hl2 _
    wp_walk using wpAny_pyIter_list hL1, wpAny_pyIter_tuple hL2
    exact ⟨_, rfl, h⟩

section
variable {prog : Program} {w : World} {A : Around} {E : Value → Shared → Prop} {s : Shared}
theorem call_zipT {l1 l2 : Addr} {xs ys : Array Value} {Q : Value → Shared → Prop} (hl1 : s.heap.IsList l1 xs) (hl2 : s.heap.IsTuple l2 ys)
    (h : ∀ h', IsZip h' (s.heap.objs.size + 4) (s.heap.objs.size + 2) (s.heap.objs.size + 3) .none → IsPair h' (s.heap.objs.size + 2) (.ref s.heap.objs.size) (.ref (s.heap.objs.size + 1)) →
      IsPair h' (s.heap.objs.size + 3) .none .none → h'.IsListIter s.heap.objs.size l1 0 → h'.IsTupleIter (s.heap.objs.size + 1) l2 0 → h'.objs.size = s.heap.objs.size + 5 →
      (∀ c o, s.heap.get? c = some o → h'.get? c = some o) → Q (.ref (s.heap.objs.size + 4)) { s with heap := h' }) :
    wpAny (model prog w) A (call (.type "zip") [.ref l1, .ref l2]) Q E s := by
  refine callType_new F.called_zip (by decide) (F.typeCall_zip_2 _ _) (F.newCall_zip_2 _ _) (fun obj => F.args_object_init_3 obj _ _) F.entry_zip_new
    (meets_zipT_new l1 l2 xs ys) ⟨hl1, hl2, ?_⟩
  have z1 : (zipT1 s.heap l1).objs.size = s.heap.objs.size + 1 := Heap.size_push ..
  have z2 : (zipT2 s.heap l1 l2).objs.size = s.heap.objs.size + 2 := by rw [Heap.size_push, z1]
  have z3 : (zipT3 s.heap l1 l2).objs.size = s.heap.objs.size + 3 := by rw [Heap.size_push, z2]
  have z4 : (zipT4 s.heap l1 l2).objs.size = s.heap.objs.size + 4 := by rw [Heap.size_push, z3]
  have z5 : (zipT5 s.heap l1 l2).objs.size = s.heap.objs.size + 5 := by rw [Heap.size_push, z4]
  have g5 : (zipT5 s.heap l1 l2).get? (zipT4 s.heap l1 l2).objs.size = some _ := Heap.get?_push_size _ rfl
  have g4 : (zipT5 s.heap l1 l2).get? (zipT3 s.heap l1 l2).objs.size = some _ := Heap.get?_push_of_some _ (Heap.get?_push_size _ rfl)
  have g3 : (zipT5 s.heap l1 l2).get? (zipT2 s.heap l1 l2).objs.size = some _ := Heap.get?_push_of_some _ (Heap.get?_push_of_some _ (Heap.get?_push_size _ rfl))
  have g2 : (zipT5 s.heap l1 l2).get? (zipT1 s.heap l1).objs.size = some _ := Heap.get?_push_of_some _ (Heap.get?_push_of_some _ (Heap.get?_push_of_some _ (Heap.get?_push_size _ rfl)))
  have g1 : (zipT5 s.heap l1 l2).get? s.heap.objs.size = some _ := Heap.get?_push_of_some _ (Heap.get?_push_of_some _ (Heap.get?_push_of_some _ (Heap.get?_push_of_some _ (Heap.get?_push_size _ rfl))))
  show _ ∧ _
  rw [z2, z3, z4] at g5
  rw [z1, z2] at g3
  rw [z3] at g4
  rw [z1] at g2
  rw [z4]
  exact ⟨⟨_, g5, rfl⟩, h _ g5 g3 g4 ⟨_, g1, rfl, rfl⟩ ⟨_, g2, rfl, rfl⟩ z5 fun c o x =>
    Heap.get?_push_of_some _ (Heap.get?_push_of_some _ (Heap.get?_push_of_some _ (Heap.get?_push_of_some _ (Heap.get?_push_of_some _ x))))⟩

end
end PySem
namespace L2
open PySem PySem.Spec PyProof.Rows
/-- the lists at a and b as they stand at each turn, the items in new pairs -/
def ItzT (K : PySem.W.Frag) (a b : Addr) : It :=
  ⟨fun i H => ∃ (xs ys : List V) (x y : V), SqL K H a xs ∧ SqT K H b ys ∧ xs[i]? = some x ∧ ys[i]? = some y,
    fun i H v H' => ∃ T x y, v = .ref T ∧ H T = none ∧ H' = upd H T (.tup [x, y]) ∧ (∀ xs, SqL K H a xs → xs[i]? = some x) ∧ ∀ ys, SqT K H b ys → ys[i]? = some y,
    fun i H => ∃ xs ys : List V, SqL K H a xs ∧ SqT K H b ys ∧ (xs.length ≤ i ∨ ys.length ≤ i)⟩
theorem turn_zipT {P : Program} {w : World} {K : PySem.W.Frag} {elts : List Expr} {kk : Nat} {tpos : Pos} {a b z TI TO i1 i2 : Addr} (D : ZipApart z TI TO i1 i2 a b) :
    Turn P w K (.Tuple elts kk tpos) (ItzT K a b) [z, TI, TO, i1, i2] z (fun i h => IsZip h z TI TO .none ∧ IsPair h TI (.ref i1) (.ref i2) ∧ (∃ x y, IsPair h TO x y) ∧ h.IsListIter i1 a i ∧ h.IsTupleIter i2 b i) where
  mem := by simp
  obj := fun i h st c hc => by
    obtain ⟨hz, hTI, ⟨x, y, hTO⟩, ⟨o1, e1, _, d1⟩, ⟨o2, e2, _, d2⟩⟩ := st
    have e' : c = z ∨ c = TI ∨ c = TO ∨ c = i1 ∨ c = i2 := by simpa using hc
    rcases e' with q | q | q | q | q
    · rw [q]; exact ⟨_, hz, fun v q => nomatch q⟩
    · rw [q]; exact ⟨_, hTI, fun v q => nomatch q⟩
    · rw [q]; exact ⟨_, hTO, fun v q => nomatch q⟩
    · rw [q]; exact ⟨o1, e1, fun v q => by rw [d1] at q; cases q⟩
    · rw [q]; exact ⟨o2, e2, fun v q => by rw [d2] at q; cases q⟩
  keep := fun i h h' st k => by
    obtain ⟨hz, hTI, ⟨x, y, hTO⟩, h1, h2⟩ := st
    exact ⟨k z (by simp) _ hz, k TI (by simp) _ hTI, ⟨x, y, k TO (by simp) _ hTO⟩, h1.at fun o q => k i1 (by simp) o q, h2.at fun o q => k i2 (by simp) o q⟩
  item := by
    intro X hP hw hK hc i pins s σ H E I hf st hg
    subst hP hw hK
    obtain ⟨hz, hTI, ⟨x0, y0, hTO⟩, h1, h2⟩ := st
    obtain ⟨xs, ys, x, y, hqx, hqy, hx, hy⟩ := hg
    obtain ⟨its, rv, p, _⟩ := I.list hqx
    obtain ⟨its2, rv2, p2, _⟩ := I.tuple hqy
    obtain ⟨u, hu, ru⟩ := rv.get hx
    obtain ⟨u2, hu2, ru2⟩ := rv2.get hy
    have hzl : z < s.heap.objs.size := Heap.lt_size hz
    refine zipT_nextItem D hz hTI hTO h1 h2 p.isList p2 (x := u) (y := u2) (by simpa using hu) (by simpa using hu2) fun h' z' TO' h1' h2' hT hsz hk => ?_
    refine ⟨_, rfl, wpAny_letOwnedTupleGo_zip (s := { s with heap := h' }) z' fun h'' z'' sb => ?_⟩
    have hT2 : h''.get? s.heap.objs.size = some { cls := .type "tuple", data := .seq #[u, u2] } := (sb.2 _ (Nat.ne_of_gt hzl)).trans hT
    have new : ObjOk X.prog X.w (upd H s.heap.objs.size (.tup [x, y])) h'' s.heap.objs.size (.tup [x, y]) :=
      ⟨by show 2 ≤ sizeLine; decide, [u, u2], .cons ru (.cons ru2 .nil), ⟨_, hT2, rfl, _, rfl⟩⟩
    have I1 : Inv X pins σ (upd H s.heap.objs.size (.tup [x, y])) { s with heap := h'' } :=
      I.turnedNew (t' := s.toks) (ch := [z, TI, TO, i1, i2]) (fun c o hb q => (sb.2 c (fun q' => hb (by simp [q']))).trans (hk c o (fun q' => hb (by simp [q'])) (fun q' => hb (by simp [q'])) (fun q' => hb (by simp [q'])) (fun q' => hb (by simp [q'])) q)) hf (Nat.le_refl _) new
    refine ⟨.ref s.heap.objs.size, _, I1, rfl, ⟨_, x, y, rfl, I.hok.fresh (Nat.le_refl _), rfl, fun l hl => by rw [I.list_inj hl hqx]; exact hx, fun l hl => by rw [I.tuple_inj hl hqy]; exact hy⟩, ⟨z'', ?_, ⟨u, u2, ?_⟩, ?_, ?_⟩, fun c hcm => ?_⟩
    · exact (sb.2 _ D.TIz).trans (hk _ _ D.TIz D.TITO D.TIi1 D.TIi2 hTI)
    · exact (sb.2 _ D.TOz).trans TO'
    · exact h1'.at fun o q => (sb.2 _ D.i1z).trans q
    · exact h2'.at fun o q => (sb.2 _ D.i2z).trans q
    · have hlt : c < s.heap.objs.size := by
        have e' : c = z ∨ c = TI ∨ c = TO ∨ c = i1 ∨ c = i2 := by simpa using hcm
        rcases e' with q | q | q | q | q
        · rw [q]; exact hzl
        · rw [q]; exact Heap.lt_size hTI
        · rw [q]; exact Heap.lt_size hTO
        · rw [q]; obtain ⟨_, e1, _⟩ := h1; exact Heap.lt_size e1
        · rw [q]; obtain ⟨_, e2, _⟩ := h2; exact Heap.lt_size e2
      rw [upd_ne (Nat.ne_of_lt hlt)]
      exact (hf c hcm).1
  done := by
    intro X hP hw hK hc i pins s σ H E I hf st hg
    subst hP hw hK
    obtain ⟨hz, hTI, ⟨x0, y0, hTO⟩, h1, h2⟩ := st
    obtain ⟨xs, ys, hqx, hqy, hend⟩ := hg
    obtain ⟨its, rv, p, _⟩ := I.list hqx
    obtain ⟨its2, rv2, p2, _⟩ := I.tuple hqy
    have l1 := rv.length
    have l2 := rv2.length
    have he : its.toArray[i]? = none ∨ its2.toArray[i]? = none := by
      rcases hend with q | q
      · exact .inl (by simp; omega)
      · exact .inr (by simp; omega)
    exact zipT_nextEnd (I.ok.hd hc) D hz hTI hTO h1 h2 p.isList p2 he fun h' hk => ⟨rfl, I.turnedL (t' := s.toks) (ch := [z, TI, TO, i1, i2]) (fun c o hb q =>
      hk c o (fun q' => hb (by simp [q'])) (fun q' => hb (by simp [q'])) (fun q' => hb (by simp [q'])) (fun q' => hb (by simp [q'])) q) hf⟩
  self := fun A i s Q E st h => wpAny_pyIter_zip st.1 h
def iZipT (K : PySem.W.Frag) (ta : TA) : TI := fun σ H R => ta σ H fun vs H1 => ∃ a b xs ys, vs = [.ref a, .ref b] ∧ SqL K H1 a xs ∧ SqT K H1 b ys ∧ R (ItzT K a b) H1
theorem pi_zipLT {X : Cx} {e e2 : Expr} {ta : TA} {p pos tpos : Pos} {elts : List Expr} {kk : Nat} (hg : Gl X "zip") (hm : X.mg "zip" = none) (ha : PA X [e, e2] ta)
    (hs : starEach [e, e2] X.env = (false, eval e X.env) :: starEach [e2] X.env := by rfl) (hpl : (backTo pos (starEach [e2] X.env)).any (·.1) = false := by rfl) :
    PI X (.Tuple elts kk tpos) (.Call (.Name "zip" p) [e, e2] [] pos) (iZipT X.K ta) := by
  intro pins s σ H R I h
  refine Call_ (ld_blt I hg hm boot_zip5 (PyProof.Rows.callWith_type1 (thn (ha pos pins s σ H _ I h) fun us s1 ⟨vs, H1, I1, r1, q1⟩ => ?_) hs hpl))
  obtain ⟨a, b, xs, ys, ex, hqx, hqy, q⟩ := q1
  subst ex
  cases r1 with
  | cons r rr =>
    cases rr with
    | cons r' rr =>
      cases rr
      cases r
      cases r'
      obtain ⟨its, rv, p1, _⟩ := I1.list hqx
      obtain ⟨its2, rv2, p2, _⟩ := I1.tuple hqy
      have la : a < s1.heap.objs.size := p1.lt
      have lb : b < s1.heap.objs.size := p2.lt
      refine call_zipT p1.isList p2 fun h' hz hTI hTO h1 h2 hsz hk => wpAny_pyIter_zip hz ?_
      have I2 : Inv X pins σ H1 { s1 with heap := h' } := I1.kept (t' := s1.toks) hk
      refine ⟨s1.heap.objs.size + 4, [s1.heap.objs.size + 4, s1.heap.objs.size + 2, s1.heap.objs.size + 3, s1.heap.objs.size, s1.heap.objs.size + 1], _, _, H1, rfl, I2, turn_zipT (PySem.W.ktu_apart s1.heap.objs.size a b la lb), ⟨hz, hTI, ⟨_, _, hTO⟩, h1, h2⟩, fun c hcm => ?_, q⟩
      have e' : c = s1.heap.objs.size + 4 ∨ c = s1.heap.objs.size + 2 ∨ c = s1.heap.objs.size + 3 ∨ c = s1.heap.objs.size ∨ c = s1.heap.objs.size + 1 := by simpa using hcm
      have hle : s1.heap.objs.size ≤ c := by
        rcases e' with z | z | z | z | z
        · rw [z]; exact Nat.le_add_right _ _
        · rw [z]; exact Nat.le_add_right _ _
        · rw [z]; exact Nat.le_add_right _ _
        · rw [z]; exact Nat.le_refl _
        · rw [z]; exact Nat.le_add_right _ _
      exact I1.fpOk hle (I1.hok.fresh hle)
/-- the list at a as it stands at each turn, each item in a new pair -/
def IteS (K : PySem.W.Frag) (a : Addr) (j : Int) : It :=
  ⟨fun i H => ∃ (xs : List V) (x : V), SqL K H a xs ∧ xs[i]? = some x, fun i H v H' => ∃ T x, v = .ref T ∧ H T = none ∧ H' = upd H T (.tup [.int (j + (i : Nat)), x]) ∧ ∀ xs, SqL K H a xs → xs[i]? = some x, fun i H => ∃ xs : List V, SqL K H a xs ∧ xs.length ≤ i⟩
theorem turn_enumS {P : Program} {w : World} {K : PySem.W.Frag} {elts : List Expr} {kk : Nat} {tpos : Pos} (a e it : Addr) (j : Int) :
    Turn P w K (.Tuple elts kk tpos) (IteS K a j) [e, it] e (fun i h => (∃ old, IsEnum h e it (j + (i : Nat)) old) ∧ h.IsListIter it a i ∧ e ≠ it) where
  mem := by simp
  obj := fun i h st b hb => by
    obtain ⟨⟨old, he⟩, ⟨o, ho, hc, hd⟩, _⟩ := st
    have e' : b = e ∨ b = it := by simpa using hb
    rcases e' with z | z
    · rw [z]; exact ⟨_, he, fun v q => nomatch q⟩
    · rw [z]; exact ⟨o, ho, fun v q => by rw [hd] at q; cases q⟩
  keep := fun i h h' st k => let ⟨⟨old, he⟩, hi, hne⟩ := st; ⟨⟨old, k e (by simp) _ he⟩, hi.at fun o q => k it (by simp) o q, hne⟩
  item := by
    intro X hP hw hK hc i pins s σ H E I hf st hg
    subst hP hw hK
    obtain ⟨⟨old, he⟩, hit, hne⟩ := st
    obtain ⟨xs, x, hq, hx⟩ := hg
    obtain ⟨its, rv, p, hz⟩ := I.list hq
    obtain ⟨u, hu, ru⟩ := rv.get hx
    have hel : e < s.heap.objs.size := Heap.lt_size he
    have hil : it < s.heap.objs.size := by obtain ⟨_, q, _⟩ := hit; exact Heap.lt_size q
    refine enSt_item he hit p.isList (x := u) (by simpa using hu) hne fun h' ho hit' hT hsz hk => ?_
    refine ⟨_, rfl, wpAny_letOwnedTupleGo_enum (s := { s with heap := h', toks := s.toks + 1 }) ho fun h'' he' sb => ?_⟩
    have hT2 : h''.get? s.heap.objs.size = some { cls := .type "tuple", data := .seq #[.int (j + (i : Nat)) s.toks, u] } := (sb.2 _ (Nat.ne_of_gt hel)).trans hT
    have new : ObjOk X.prog X.w (upd H s.heap.objs.size (.tup [.int (j + (i : Nat)), x])) h'' s.heap.objs.size (.tup [.int (j + (i : Nat)), x]) :=
      ⟨by show 2 ≤ sizeLine; decide, [.int (j + (i : Nat)) s.toks, u], .cons ⟨_, rfl⟩ (.cons ru .nil), ⟨_, hT2, rfl, _, rfl⟩⟩
    have I1 : Inv X pins σ (upd H s.heap.objs.size (.tup [.int (j + (i : Nat)), x])) { s with heap := h'', toks := s.toks + 1 } :=
      I.turnedNew (ch := [e, it]) (fun b ob hb q => (sb.2 b (fun z => hb (by simp [z]))).trans (hk b ob (fun z => hb (by simp [z])) (fun z => hb (by simp [z])) q)) hf (Nat.le_refl _) new
    refine ⟨.ref s.heap.objs.size, _, I1, rfl, ⟨_, x, rfl, I.hok.fresh (Nat.le_refl _), rfl, fun ys hy => by rw [I.list_inj hy hq]; exact hx⟩, ⟨⟨u, ?_⟩, hit'.at fun o q => (sb.2 it (Ne.symm hne)).trans q, hne⟩, fun b hb => ?_⟩
    · have e1 : j + ((i + 1 : Nat) : Int) = j + (i : Int) + 1 := by omega
      rw [e1]; exact he'
    · have hb' : b < s.heap.objs.size := by
        have e' : b = e ∨ b = it := by simpa using hb
        rcases e' with z | z
        · rw [z]; exact hel
        · rw [z]; exact hil
      rw [upd_ne (Nat.ne_of_lt hb')]
      exact (hf b hb).1
  done := by
    intro X hP hw hK hc i pins s σ H E I hf st hg
    subst hP hw hK
    obtain ⟨⟨old, he⟩, hit, hne⟩ := st
    obtain ⟨xs, hq, hx⟩ := hg
    obtain ⟨its, rv, p, hz⟩ := I.list hq
    obtain ⟨f0, f1, f2, f3, f4, f5⟩ := hf it (by simp)
    have hl := rv.length
    exact enSt_end (I.ok.hd hc) he hit p.isList (by simp; omega) fun h' eb => ⟨rfl, I.turned (t' := s.toks) (fun b o hb q => eb b o hb q) f0 f1 f3 f4 f5⟩
  self := fun A i s Q E st h => let ⟨⟨_, he⟩, _⟩ := st; wpAny_pyIter_enum he h
def iEnumS (K : PySem.W.Frag) (te tk : TE) : TI := fun σ H R => te σ H fun v H1 => tk σ H1 fun k H2 => ∃ a xs j, v = .ref a ∧ k = .int j ∧ -(2 ^ 62) ≤ j ∧ j < 2 ^ 62 ∧ SqL K H2 a xs ∧ R (IteS K a j) H2
end L2
end
section
set_option Elab.async false
set_option linter.all false
set_option maxRecDepth 100000
set_option maxHeartbeats 4000000
namespace PySem
open Sem (wp)
theorem mnD_args (a d : Value) : argsOk "min" ⟨[a], [("default", d)]⟩ := by unfold argsOk; kernel_rfl
section
variable {prog : Program} {w : World} {A : Around} {E : Value → Shared → Prop} {s : Shared}
theorem call_tree_kw {id : String} {b : Builtin} {args : List Value} {kw : List (Str × Value)} {Q : Value → Shared → Prop} (hk : builtinKind id = none) (hp : plainId id = true)
    (hb : entryFor table id = some b) (ha : argsOk id ⟨args, kw⟩)
    (hc : wpAny (model prog w) A.in1 (b ⟨args, kw⟩) (fun fin s' => match fin with
      | .done f => (match (Except.ok f : Result) with | .ok (.ret v) => Q v s' | .ok _ => False | .error e => E e s')
      | .again c' => c'.quiet = true ∧ codeAny (model prog w) A c' (fun r s' => match r with | .ok (.ret v) => Q v s' | .ok _ => False | .error e => E e s') s') E s) :
    wpAny (model prog w) A (call (.builtin id) args kw) Q E s := by
  refine wpAny_call (codeAny_call_builtin hp hb ?_)
  simp only [checkBuiltinCall, hk]
  cases hsig : Manifest.signature? id with
  | none => exact wpAny_pure hc
  | some sig =>
    simp only [argsOk, hsig] at ha
    have h2 : Bind.checkArgs id sig ⟨args, kw⟩ = pure () := ha
    show wpAny _ A.in1 (Bind.checkArgs id sig ⟨args, kw⟩) _ _ s
    rw [h2]; exact wpAny_pure hc
end
section
variable {prog : Program} {w : World} {A : Around} {R : Result → Shared → Prop} {I : Addr} {fp wr : List Addr} {n : Nat} {P : Nat → Value → Prop} {St : Nat → Heap → Prop} {dv : Value}
theorem mnD_loop (W : Walks prog w A.in1 I fp wr n P St) (bt : Nat → Nat → Bool) (hcmp : CmpOf prog w A.in1 .Lt P bt) (S : Addr) (hSf : S ∉ fp) :
    ∀ (k j : Nat) (s : Shared) (vb : Value) (c : Nat), n - (j + 1) = k → j + 1 ≤ n → St (j + 1) s.heap → P (argBest bt j) vb →
    s.heap.get? S = some { cls := .type "list", dict := none, data := .seq #[vb, vb] c, slots := #[] } →
    (∀ v h' tk, P (argBest bt (n - 1)) v → (∀ b o, b ∉ wr → b ≠ S → s.heap.get? b = some o → h'.get? b = some o) → R (.ok (.ret v)) { s with heap := h', toks := tk }) →
    codeAny (model prog w) A (.builtin "min.loop" ⟨[.ref I, .none, .ref S], [("default", dv)]⟩) R s := by
  have hSw : S ∉ wr := fun h => hSf (W.sub _ h)
  have hname : (toString "min" ++ toString ".loop" : String) = "min.loop" := by decide
  intro k
  induction k with
  | zero =>
    intro j s vb c hk hj hst hPb hS hR
    have hin : j + 1 = n := by omega
    refine codeAny_builtin F.entry_min_loop ?_
    rw [Around.under_plainId F.plain_min_loop _]
    show wpAny _ A.in1 (seqItems? (.ref S) >>= _) _ _ s
    refine wpAny_bind (wpAny_seqItems hS rfl ?_)
    show wpAny _ A.in1 (tryCatch (pyNext (.ref I)) _ >>= _) _ _ s
    refine wpAny_bind (wpAny_tryCatch (W.done s _ _ (hin ▸ hst) fun h' tk hk' => ?_))
    have hS' := hk' S _ hSw hS
    show wpAny _ A.in1 (updateSeq S (fun _ => #[]) >>= _) _ _ _
    refine wpAny_bind ?_
    refine wpAny_updateSeq hS' rfl (wpAny_bind (wpAny_letGo (wpAny_pure ?_)))
    refine hR vb _ tk (by rw [← hin]; exact hPb) fun b o hbw hbS e => (Heap.get?_update_other _ _ (Ne.symm hbS)).trans (hk' b o hbw e)
  | succ k ih =>
    intro j s vb c hk hj hst hPb hS hR
    have hlt : j + 1 < n := by omega
    refine codeAny_builtin F.entry_min_loop ?_
    rw [Around.under_plainId F.plain_min_loop _]
    show wpAny _ A.in1 (seqItems? (.ref S) >>= _) _ _ s
    refine wpAny_bind (wpAny_seqItems hS rfl ?_)
    show wpAny _ A.in1 (tryCatch (pyNext (.ref I)) _ >>= _) _ _ s
    refine wpAny_bind (wpAny_tryCatch (W.item (j + 1) s _ _ hlt hst fun v h' tk hP hst' hk' => ?_))
    have hS' := hk' S _ hSw hS
    show wpAny _ A.in1 (tryCatch (holding [v, v] (richCompare .Lt v vb >>= _)) _ >>= _) _ _ _
    refine wpAny_bind (wpAny_tryCatch (wpAny_holding (wpAny_bind (hcmp (j + 1) (argBest bt j) v vb _ _ _ hP hPb ?_))))
    refine wpAny_bind (wpAny_holding (wpAny_truthy_bool ?_))
    refine wpAny_bind (wpAny_letGo (wpAny_pure ?_))
    cases hb : bt (j + 1) (argBest bt j) with
    | true =>
      simp only [if_true]
      refine wpAny_bind ?_
      refine wpAny_updateSeq hS' rfl (wpAny_bind (wpAny_letGo ?_))
      rw [hname]
      refine wpAny_pure ⟨plainId_quiet F.plain_min_loop _, ih (j + 1) _ v _ (by omega) hlt (W.frame _ _ _ hst' fun b hbf o e => ?_) (by simp only [argBest, hb, if_true]; exact hP) (Heap.get?_update_self _ hS' rfl)
        fun v' h'' tk'' hP' hk'' => ?_⟩
      · exact (Heap.get?_update_other _ _ (fun h : S = b => hSf (by rw [h]; exact hbf))).trans e
      · exact hR v' h'' tk'' hP' fun b o hbw hbS e => hk'' b o hbw hbS ((Heap.get?_update_other _ _ (Ne.symm hbS)).trans (hk' b o hbw e))
    | false =>
      simp only [Bool.false_eq_true, if_false]
      refine wpAny_bind (wpAny_letGo ?_)
      rw [hname]
      refine wpAny_pure ⟨plainId_quiet F.plain_min_loop _, ih (j + 1) _ vb c (by omega) hlt hst' (by simp only [argBest, hb, Bool.false_eq_true, if_false]; exact hPb) hS' fun v' h'' tk'' hP' hk'' => ?_⟩
      exact hR v' h'' tk'' hP' fun b o hbw hbS e => hk'' b o hbw hbS (hk' b o hbw e)
theorem mnD_first (W : Walks prog w A.in1 I fp wr n P St) (bt : Nat → Nat → Bool) (hcmp : CmpOf prog w A.in1 .Lt P bt) (S : Addr) (hSf : S ∉ fp) (hn : 0 < n) {s : Shared} {c : Nat} (hst : St 0 s.heap)
    (hS : s.heap.get? S = some { cls := .type "list", dict := none, data := .seq #[] c, slots := #[] })
    (hR : ∀ v h' tk, P (argBest bt (n - 1)) v → (∀ b o, b ∉ wr → b ≠ S → s.heap.get? b = some o → h'.get? b = some o) → R (.ok (.ret v)) { s with heap := h', toks := tk }) :
    codeAny (model prog w) A (.builtin "min.loop" ⟨[.ref I, .none, .ref S], [("default", dv)]⟩) R s := by
  have hSw : S ∉ wr := fun h => hSf (W.sub _ h)
  have hname : (toString "min" ++ toString ".loop" : String) = "min.loop" := by decide
  refine codeAny_builtin F.entry_min_loop ?_
  rw [Around.under_plainId F.plain_min_loop _]
  show wpAny _ A.in1 (seqItems? (.ref S) >>= _) _ _ s
  refine wpAny_bind (wpAny_seqItems hS rfl ?_)
  show wpAny _ A.in1 (tryCatch (pyNext (.ref I)) _ >>= _) _ _ s
  refine wpAny_bind (wpAny_tryCatch (W.item 0 s _ _ hn hst fun v h' tk hP hst' hk' => ?_))
  have hS' := hk' S _ hSw hS
  show wpAny _ A.in1 (updateSeq S (fun _ => #[v, v]) >>= _) _ _ _
  refine wpAny_bind ?_
  refine wpAny_updateSeq hS' rfl ?_
  rw [hname]
  refine wpAny_pure ⟨plainId_quiet F.plain_min_loop _, mnD_loop W bt hcmp S hSf _ 0 _ v _ rfl hn (W.frame _ _ _ hst' fun b hbf o e => ?_) hP (Heap.get?_update_self _ hS' rfl) fun v' h'' tk'' hP' hk'' => ?_⟩
  · exact (Heap.get?_update_other _ _ (fun h : S = b => hSf (by rw [h]; exact hbf))).trans e
  · exact hR v' h'' tk'' hP' fun b o hbw hbS e => hk'' b o hbw hbS ((Heap.get?_update_other _ _ (Ne.symm hbS)).trans (hk' b o hbw e))
theorem mnD_none (W : Walks prog w A.in1 I fp wr 0 P St) (S : Addr) {s : Shared} {c : Nat} (hst : St 0 s.heap)
    (hS : s.heap.get? S = some { cls := .type "list", dict := none, data := .seq #[] c, slots := #[] })
    (hR : ∀ h' tk, (∀ b o, b ∉ wr → s.heap.get? b = some o → h'.get? b = some o) → R (.ok (.ret dv)) { s with heap := h', toks := tk }) :
    codeAny (model prog w) A (.builtin "min.loop" ⟨[.ref I, .none, .ref S], [("default", dv)]⟩) R s := by
  refine codeAny_builtin F.entry_min_loop ?_
  rw [Around.under_plainId F.plain_min_loop _]
  show wpAny _ A.in1 (seqItems? (.ref S) >>= _) _ _ s
  refine wpAny_bind (wpAny_seqItems hS rfl ?_)
  show wpAny _ A.in1 (tryCatch (pyNext (.ref I)) _ >>= _) _ _ s
  refine wpAny_bind (wpAny_tryCatch (W.done s _ _ hst fun h' tk hk' => ?_))
  show wpAny _ A.in1 (rule _ >>= _) _ _ _
  exact wpAny_bind (wpAny_rule (wpAny_pure (hR h' tk hk')))
end
section
variable {prog : Program} {w : World} {A : Around} {E : Value → Shared → Prop} {s : Shared} {dv : Value}
theorem mnD_walk {x : Value} {Q : Value → Shared → Prop}
    (h : wpAny (model prog w) A.in1 (pyIter x) (fun it s₂ => ∃ I fp wr n P St bt, it = .ref I ∧ Walks prog w A.in1 I fp wr n P St ∧ St 0 s₂.heap ∧ (∀ b ∈ fp, b < s₂.heap.objs.size) ∧ 0 < n ∧ CmpOf prog w A.in1 .Lt P bt ∧
      ∀ v h' tk, P (argBest bt (n - 1)) v → (∀ b o, b ∉ wr → s₂.heap.get? b = some o → h'.get? b = some o) → Q v { s₂ with heap := h', toks := tk }) E s) :
    wpAny (model prog w) A (call (.builtin "min") [x] [("default", dv)]) Q E s := by
  have hname : (toString "min" ++ toString ".loop" : String) = "min.loop" := by decide
  refine call_tree_kw F.kind_min F.plain_min F.entry_min (mnD_args _ _) ?_
  show wpAny _ A.in1 (Builtin.Builtins.bindParams "min" ["key", "default"] 0 ⟨[], [("default", dv)]⟩ >>= _) _ _ s
  refine wpAny_bind (wpAny_of_eq (show Builtin.Builtins.bindParams "min" ["key", "default"] 0 ⟨[], [("default", dv)]⟩ = pure [none, some dv] from rfl) ?_)
  refine wpAny_bind (wpAny_pure ?_)
  refine wpAny_bind (wpAny_mono h (fun it s₂ h₂ => ?_) fun _ _ e => e)
  obtain ⟨I, fp, wr, n, P, St, bt, rfl, W, hst, hfp, hn, hcmp, hQ⟩ := h₂
  refine wpAny_bind (wpAny_newObj_type ?_)
  have hSf : s₂.heap.objs.size ∉ fp := fun hm => Nat.lt_irrefl _ (hfp _ hm)
  rw [hname]
  refine wpAny_pure ⟨plainId_quiet F.plain_min_loop _, mnD_first W bt hcmp s₂.heap.objs.size hSf hn (W.frame _ _ _ hst fun b _ o e => Heap.get?_push_of_some _ e) (Heap.get?_push_size _ rfl) fun v h' tk hP hk => ?_⟩
  exact hQ v h' tk hP fun b o hbw e => hk b o hbw (Nat.ne_of_lt (Heap.lt_size e)) (Heap.get?_push_of_some _ e)
theorem mnD_walk0 {x : Value} {Q : Value → Shared → Prop}
    (h : wpAny (model prog w) A.in1 (pyIter x) (fun it s₂ => ∃ I fp wr P St, it = .ref I ∧ Walks prog w A.in1 I fp wr 0 P St ∧ St 0 s₂.heap ∧
      ∀ h' tk, (∀ b o, b ∉ wr → s₂.heap.get? b = some o → h'.get? b = some o) → Q dv { s₂ with heap := h', toks := tk }) E s) :
    wpAny (model prog w) A (call (.builtin "min") [x] [("default", dv)]) Q E s := by
  have hname : (toString "min" ++ toString ".loop" : String) = "min.loop" := by decide
  refine call_tree_kw F.kind_min F.plain_min F.entry_min (mnD_args _ _) ?_
  show wpAny _ A.in1 (Builtin.Builtins.bindParams "min" ["key", "default"] 0 ⟨[], [("default", dv)]⟩ >>= _) _ _ s
  refine wpAny_bind (wpAny_of_eq (show Builtin.Builtins.bindParams "min" ["key", "default"] 0 ⟨[], [("default", dv)]⟩ = pure [none, some dv] from rfl) ?_)
  refine wpAny_bind (wpAny_pure ?_)
  refine wpAny_bind (wpAny_mono h (fun it s₂ h₂ => ?_) fun _ _ e => e)
  obtain ⟨I, fp, wr, P, St, rfl, W, hst, hQ⟩ := h₂
  refine wpAny_bind (wpAny_newObj_type ?_)
  rw [hname]
  refine wpAny_pure ⟨plainId_quiet F.plain_min_loop _, mnD_none W s₂.heap.objs.size (W.frame _ _ _ hst fun b _ o e => Heap.get?_push_of_some _ e) (Heap.get?_push_size _ rfl) fun h' tk hk => ?_⟩
  exact hQ h' tk fun b o hbw e => hk b o hbw (Heap.get?_push_of_some _ e)

end
section
variable {M : Model} {A : Around} {E : Value → Shared → Prop} {s : Shared} {env : Env}
theorem callWith_tyK {pos : Pos} {T : String} {e : Expr} {rest : List Expr} {kws : List Keyword} {Q : Value → Shared → Prop}
    (h : wpAny M A (spliced (backTo pos (starEach (e :: rest) env))) (fun vs s₁ => wpAny M A (evalAll ((backToKw pos (keywordEach kws env)).map (·.2)))
      (fun kvs s₂ => wpAny M A (call (.type T) vs (((backToKw pos (keywordEach kws env)).filterMap (·.1)).zip kvs)) Q E s₂) E s₁) E s)
    (he : backTo pos (starEach (e :: rest) env) = (false, eval e env) :: backTo pos (starEach rest env) := by rfl)
    (hplain : (backTo pos (starEach (e :: rest) env)).any (·.1) = false := by rfl)
    (hall : (backToKw pos (keywordEach kws env)).all (·.1.isSome) = true := by rfl)
    (hkw : (backToKw pos (keywordEach kws env)).any (·.1.isNone) = false := by rfl) :
    wpAny M A (callWith pos (.type T) [] (backTo pos (starEach (e :: rest) env)) (backToKw pos (keywordEach kws env))) Q E s := by
  have h2 : wpAny M A (evalArgs (.type T) true (backTo pos (starEach (e :: rest) env)) (backToKw pos (keywordEach kws env))) (fun a s₁ => wpAny M A (call (.type T) ([] ++ a.pos) a.kw) Q E s₁) E s := by
    rw [he] at h ⊢
    exact PyProof.Rows.evalArgs_kwB hall h
  unfold callWith
  refine wpAny_bind (wpAny_holding (wpAny_mono h2 (fun a s₁ h₁ => wpAny_bind (wpAny_standAt ?_)) fun _ _ x => x))
  simp only [hplain, hkw, Bool.or_false]
  refine wpAny_bind (wpAny_pure ?_)
  exact wpAny_bind (wpAny_mono h₁ (fun r s₂ hr => wpAny_bind (wpAny_holding (wpAny_point (wpAny_pure hr)))) fun _ _ x => x)
end
end PySem
end
section
set_option Elab.async false
set_option linter.all false
set_option maxRecDepth 100000
set_option maxHeartbeats 4000000
namespace PySem
open Sem (wp)
/-- a zip whose last pair is still held -/
def ZO (h : Heap) (z TI TO T : Addr) (f : Bool) : Prop := h.get? z = some { cls := .type "zip", dict := none, data := .fields #[rawInt T, .bool f, .bool false, .ref TI, .ref TO], slots := #[] }
theorem zip_no_len : typeLookup (.type "zip") "__len__" = pure none := by rw [typeLookup_type, builtinLookup_eq_fast]; kernel_rfl
theorem zip_no_hint : typeLookup (.type "zip") "__length_hint__" = pure none := by rw [typeLookup_type, builtinLookup_eq_fast]; kernel_rfl
section
variable {prog : Program} {w : World} {A : Around} {E : Value → Shared → Prop} {s : Shared}
theorem zo_free {z TI TO T : Addr} {f : Bool} {oT : Obj} {Q : Bool → Shared → Prop} (hz : ZO s.heap z TI TO T f) (hT : s.heap.get? T = some oT) (hQ : ∀ h', ZO h' z TI TO T true → Heap.SameBut z s.heap h' → Q false { s with heap := h' }) :
    wpAny (model prog w) A (Builtin.SmallTypes.ownedTupleIsFree (.ref z)) Q E s := by
  unfold Builtin.SmallTypes.ownedTupleIsFree
  refine wpAny_bind (wpAny_field hz rfl (x := rawInt T) rfl ?_)
  show wpAny _ _ (loadIfAlive ((T : Int).toNat) >>= _) _ _ _
  rw [Int.toNat_natCast]
  refine wpAny_bind (PySem.W.kdx_alive hT ?_)
  simp only [Option.isNone_some, Bool.false_eq_true, if_false]
  refine wpAny_bind (wpAny_field hz rfl (x := .bool f) rfl ?_)
  cases f with
  | true =>
    rw [if_neg (show ¬ ((Value.bool true != Value.bool true) = true) from Bool.false_ne_true)]
    exact wpAny_pure (hQ _ hz (Heap.SameBut.refl _ _))
  | false =>
    rw [if_pos (show (Value.bool false != Value.bool true) = true from rfl)]
    exact wpAny_bind (wpAny_setField_rec hz (by simp) fun h3 he3 hs3 => wpAny_pure (hQ h3 he3 hs3))
theorem zo_next {z TI TO T i1 i2 l1 l2 : Addr} {k1 k2 : Nat} {xs ys : Array Value} {x y : Value} {f : Bool} {oT : Obj} {Q : Value → Shared → Prop} (D : ZipApart z TI TO i1 i2 l1 l2)
    (hz : ZO s.heap z TI TO T f) (hT : s.heap.get? T = some oT) (hTI : IsPair s.heap TI (.ref i1) (.ref i2))
    (h1 : s.heap.IsListIter i1 l1 k1) (h2 : s.heap.IsListIter i2 l2 k2) (hl1 : s.heap.IsList l1 xs) (hl2 : s.heap.IsList l2 ys) (hx : xs[k1]? = some x) (hy : ys[k2]? = some y)
    (hQ : ∀ h', ZO h' z TI TO T true → h'.IsListIter i1 l1 (k1 + 1) → h'.IsListIter i2 l2 (k2 + 1) → IsPair h' s.heap.objs.size x y → h'.objs.size = s.heap.objs.size + 1 →
      (∀ c o, c ≠ z → c ≠ i1 → c ≠ i2 → s.heap.get? c = some o → h'.get? c = some o) → Q (.ref s.heap.objs.size) { s with heap := h' }) :
    wpAny (model prog w) A (Builtin.«zip.__next__» ⟨[.ref z], []⟩) (fun fin s' => ∃ v, fin = .done (.ret v) ∧ Q v s') E s := by
  show wpAny _ _ (field (.ref z) 2 >>= _) _ _ _
  refine wpAny_bind (wpAny_field hz rfl (x := .bool false) rfl ?_)
  show wpAny _ _ (field (.ref z) 3 >>= _) _ _ _
  refine wpAny_bind (wpAny_field hz rfl (x := .ref TI) rfl ?_)
  refine wpAny_bind (wpAny_seqItems hTI rfl ?_)
  show wpAny _ _ (Builtin.SmallTypes.ownedTupleIsFree (.ref z) >>= _) _ _ _
  refine wpAny_bind (zo_free hz hT fun g1 z1 s1 => ?_)
  simp only [Bool.false_eq_true, if_false]
  refine wpAny_bind ?_
  simp only [← Array.forIn_toList, List.forIn_cons, List.forIn_nil]
  refine wpAny_bind (wpAny_bind (wpAny_holding ?_))
  show wpAny _ _ (Builtin.SmallTypes.nextOf (.ref i1) >>= _) _ _ _
  refine wpAny_bind (wpAny_nextOf_list_item (h1.extBut s1.extBut D.i1z) (hl1.extBut s1.extBut D.l1z) hx fun g2 it2 s2 => wpAny_pure (wpAny_pure ?_))
  refine wpAny_bind (wpAny_bind (wpAny_holding ?_))
  show wpAny _ _ (Builtin.SmallTypes.nextOf (.ref i2) >>= _) _ _ _
  refine wpAny_bind (wpAny_nextOf_list_item ((h2.extBut s1.extBut D.i2z).extBut s2.extBut D.i12.symm) ((hl2.extBut s1.extBut D.l2z).extBut s2.extBut D.l2i1) hy fun g3 it3 s3 => wpAny_pure (wpAny_pure (wpAny_pure ?_)))
  refine wpAny_bind (wpAny_newTuple (wpAny_pure ⟨_, rfl, ?_⟩) (by show 2 ≤ sizeLine; decide))
  have hz3 : g3.objs.size = s.heap.objs.size := by rw [s3.1, s2.1, s1.1]
  show Q (.ref g3.objs.size) _
  rw [hz3]
  refine hQ _ (Heap.get?_push_of_some _ (s3.extBut _ _ D.i2z.symm (s2.extBut _ _ D.i1z.symm z1))) ((it2.extBut s3.extBut D.i12).at fun o e => Heap.get?_push_of_some _ e) (it3.at fun o e => Heap.get?_push_of_some _ e) (by rw [← hz3]; exact Heap.get?_push_size _ rfl) (by rw [Heap.size_push, hz3]) fun c o c1 c2 c3 e =>
    Heap.get?_push_of_some _ (s3.extBut _ _ c3 (s2.extBut _ _ c2 (s1.extBut _ _ c1 e)))
theorem zo_end {z TI TO T i1 i2 l1 l2 : Addr} {k1 : Nat} {xs : Array Value} {f : Bool} {oT : Obj} {Q : Option Value → Shared → Prop} (hh : A.handled = none) (D : ZipApart z TI TO i1 i2 l1 l2)
    (hz : ZO s.heap z TI TO T f) (hT : s.heap.get? T = some oT) (hTI : IsPair s.heap TI (.ref i1) (.ref i2))
    (h1 : s.heap.IsListIter i1 l1 k1) (hl1 : s.heap.IsList l1 xs) (hx : xs[k1]? = none)
    (hQ : ∀ h', (∀ c o, c ≠ z → c ≠ i1 → s.heap.get? c = some o → h'.get? c = some o) → Q none { s with heap := h' }) : wpAny (model prog w) A (pyNext (.ref z)) Q E s := by
  have hty : s.TypeIs (.ref z) "zip" := ⟨_, hz, rfl⟩
  unfold pyNext
  refine wpAny_bind (wpAny_attempt (wpAny_callSpecial?_slot (name := Str.ofString "__next__") hty F.slot_zip_next (wpAny_call_entry F.slot_zip_next hty F.entry_zip_next ?_ (F.args_zip_next_1 _))))
  show wpAny _ _ (field (.ref z) 2 >>= _) _ _ _
  refine wpAny_bind (wpAny_field hz rfl (x := .bool false) rfl ?_)
  show wpAny _ _ (field (.ref z) 3 >>= _) _ _ _
  refine wpAny_bind (wpAny_field hz rfl (x := .ref TI) rfl ?_)
  refine wpAny_bind (wpAny_seqItems hTI rfl ?_)
  show wpAny _ _ (Builtin.SmallTypes.ownedTupleIsFree (.ref z) >>= _) _ _ _
  refine wpAny_bind (zo_free hz hT fun g1 z1 s1 => ?_)
  simp only [Bool.false_eq_true, if_false]
  refine wpAny_bind ?_
  simp only [← Array.forIn_toList, List.forIn_cons, List.forIn_nil]
  refine wpAny_bind (wpAny_bind (wpAny_holding ?_))
  show wpAny _ _ (Builtin.SmallTypes.nextOf (.ref i1) >>= _) _ _ _
  refine wpAny_bind (wpAny_nextOf_list_end hh (h1.extBut s1.extBut D.i1z) (hl1.extBut s1.extBut D.l1z) hx fun g2 e s2 he => ?_)
  obtain ⟨oe, hoe, hce⟩ := he
  refine wpAny_bind (wpAny_isInstance (T := "StopIteration") (b := true) ⟨oe, hoe, hce⟩ isSubtype_stop ?_)
  exact wpAny_pure (hQ _ fun c o c1 c2 e => s2 _ _ c2 (s1.extBut _ _ c1 e))
theorem zo_item {z TI TO T i1 i2 l1 l2 : Addr} {k1 k2 : Nat} {xs ys : Array Value} {x y : Value} {f : Bool} {oT : Obj} {Q : Option Value → Shared → Prop} (D : ZipApart z TI TO i1 i2 l1 l2)
    (hz : ZO s.heap z TI TO T f) (hT : s.heap.get? T = some oT) (hTI : IsPair s.heap TI (.ref i1) (.ref i2))
    (h1 : s.heap.IsListIter i1 l1 k1) (h2 : s.heap.IsListIter i2 l2 k2) (hl1 : s.heap.IsList l1 xs) (hl2 : s.heap.IsList l2 ys) (hx : xs[k1]? = some x) (hy : ys[k2]? = some y)
    (hQ : ∀ h', ZO h' z TI TO T true → h'.IsListIter i1 l1 (k1 + 1) → h'.IsListIter i2 l2 (k2 + 1) → IsPair h' s.heap.objs.size x y → h'.objs.size = s.heap.objs.size + 1 →
      (∀ c o, c ≠ z → c ≠ i1 → c ≠ i2 → s.heap.get? c = some o → h'.get? c = some o) → Q (some (.ref s.heap.objs.size)) { s with heap := h' }) :
    wpAny (model prog w) A (pyNext (.ref z)) Q E s := by
  have hty : s.TypeIs (.ref z) "zip" := ⟨_, hz, rfl⟩
  unfold pyNext
  exact wpAny_bind (wpAny_attempt (wpAny_callSpecial?_slot (name := Str.ofString "__next__") hty F.slot_zip_next (wpAny_call_entry F.slot_zip_next hty F.entry_zip_next
    (zo_next D hz hT hTI h1 h2 hl1 hl2 hx hy fun h' a1 a2 a3 a4 a5 a6 => wpAny_pure (hQ h' a1 a2 a3 a4 a5 a6)) (F.args_zip_next_1 _))))
end
/-- the walk of list(zip(..)) after i pairs -/
def ZSt (h : Heap) (z TI TO S i1 i2 l1 l2 : Addr) (i : Nat) : Prop := IsPair h TI (.ref i1) (.ref i2) ∧ h.IsListIter i1 l1 i ∧ h.IsListIter i2 l2 i ∧
  ((i = 0 ∧ IsZip h z TI TO .none ∧ ∃ a b, IsPair h TO a b) ∨ ∃ T f oT, ZO h z TI TO T f ∧ h.get? T = some oT ∧ T ≠ z ∧ T ≠ i1 ∧ T ≠ i2 ∧ T ≠ S)
theorem ZSt.keep {h h' : Heap} {z TI TO S i1 i2 l1 l2 : Addr} {i : Nat} (x : ZSt h z TI TO S i1 i2 l1 l2 i) (k : ∀ b o, b ≠ S → h.get? b = some o → h'.get? b = some o) (n : z ≠ S ∧ TI ≠ S ∧ TO ≠ S ∧ i1 ≠ S ∧ i2 ≠ S) : ZSt h' z TI TO S i1 i2 l1 l2 i := by
  obtain ⟨n1, n2, n3, n4, n5⟩ := n
  obtain ⟨a, b, c, d⟩ := x
  refine ⟨k _ _ n2 a, b.at fun o e => k _ o n4 e, c.at fun o e => k _ o n5 e, ?_⟩
  rcases d with ⟨e0, e1, u, v, e2⟩ | ⟨T, f, oT, e1, e2, e3, e4, e5, e6⟩
  · exact .inl ⟨e0, k _ _ n1 e1, u, v, k _ _ n3 e2⟩
  · exact .inr ⟨T, f, oT, k _ _ n1 e1, k _ _ e6 e2, e3, e4, e5, e6⟩
section
variable {prog : Program} {w : World} {A : Around} {s : Shared} {R : Result → Shared → Prop} {xs ys : Array Value}
/-- the pairs that stand at as: above the heap's old end, pair j the j-th items -/
structure ZPairs (xs ys : Array Value) (lo : Addr) (h : Heap) (as : List Addr) : Prop where
  rise : as.Pairwise (· < ·)
  above : ∀ a ∈ as, lo ≤ a
  pairs : ∀ (j : Nat) (a : Addr), as[j]? = some a → ∃ x y, xs[j]? = some x ∧ ys[j]? = some y ∧ IsPair h a x y
theorem zl_loop {z TI TO S i1 i2 l1 l2 : Addr} {lo : Addr} (hh : A.handled = none) (D : ZipApart z TI TO i1 i2 l1 l2) (nS : z ≠ S ∧ TI ≠ S ∧ TO ≠ S ∧ i1 ≠ S ∧ i2 ≠ S) (hz : z < lo) (hSl : S < lo) (h1l : i1 < lo) (h2l : i2 < lo) (hTO : TO < lo) (n1 : l1 ≠ S) (n2 : l2 ≠ S) (hn : xs.size ≤ sizeLine) (hxy : xs.size = ys.size) (res : Value) {h₁ : Heap}
    (hR : ∀ h' tk acc c as, (∀ b o, b ≠ S → b ≠ z → b ≠ TO → b ≠ i1 → b ≠ i2 → h₁.get? b = some o → h'.get? b = some o) → h'.get? S = some { cls := .type "list", dict := none, data := .seq acc c, slots := #[] } → as.length = xs.size → ZPairs xs ys lo h' as →
      acc.toList = as.map Value.ref → R (.ok (.ret res)) { s with heap := h', toks := tk }) :
    ∀ (k i : Nat) (h : Heap) (tk c : Nat) (acc : Array Value) (as : List Addr), xs.size - i = k → i ≤ xs.size → ZSt h z TI TO S i1 i2 l1 l2 i → h.IsList l1 xs → h.IsList l2 ys → (∀ b o, b ≠ S → b ≠ z → b ≠ TO → b ≠ i1 → b ≠ i2 → h₁.get? b = some o → h.get? b = some o) →
      h.get? S = some { cls := .type "list", dict := none, data := .seq acc c, slots := #[] } → acc.toList = as.map Value.ref → as.length = i → ZPairs xs ys lo h as → lo ≤ h.objs.size →
      codeAny (model prog w) A (.builtin "list.extend.loop" ⟨[.ref S, .ref z, res], []⟩) R { s with heap := h, toks := tk } := by
  intro k
  induction k with
  | zero =>
    intro i h tk c acc as hk hi hst hX hY hkeep hS hacc hal hG hlo
    have hin : i = xs.size := by omega
    refine codeAny_builtin F.entry_extend_loop ?_
    rw [Around.under_plainId F.plain_extend_loop _]
    show wpAny _ A.in1 (pyNext (.ref z) >>= _) _ _ _
    have fin : ∀ h' : Heap, (∀ c o, c ≠ z → c ≠ TO → c ≠ i1 → c ≠ i2 → h.get? c = some o → h'.get? c = some o) → R (.ok (.ret res)) { s with heap := h', toks := tk } := fun h' kp => by
      refine hR h' tk acc c as (fun b o a1 a2 a3 a4 a5 e => kp b o a2 a3 a4 a5 (hkeep b o a1 a2 a3 a4 a5 e)) (kp S _ nS.1.symm nS.2.2.1.symm nS.2.2.2.1.symm nS.2.2.2.2.symm hS) (by omega) ⟨hG.rise, hG.above, fun j a hj => ?_⟩ hacc
      obtain ⟨x, y, e1, e2, e3⟩ := hG.pairs j a hj
      have hb := hG.above a (List.mem_of_getElem? hj)
      exact ⟨x, y, e1, e2, kp a _ (Nat.ne_of_gt (Nat.lt_of_lt_of_le hz hb)) (Nat.ne_of_gt (Nat.lt_of_lt_of_le hTO hb)) (Nat.ne_of_gt (Nat.lt_of_lt_of_le h1l hb)) (Nat.ne_of_gt (Nat.lt_of_lt_of_le h2l hb)) e3⟩
    obtain ⟨s1, s2, s3, s4⟩ := hst
    rcases s4 with ⟨e0, e1, u, v, e2⟩ | ⟨T, f, oT, e1, e2, e3, e4, e5, e6⟩
    · exact wpAny_bind (wpAny_pyNext_zip_end (s := { s with heap := h, toks := tk }) (A := A.in1) hh D e1 s1 e2 s2 s3 hX hY (.inl (by simp [hin])) fun h' kp => wpAny_pure (fin h' kp))
    · exact wpAny_bind (zo_end (s := { s with heap := h, toks := tk }) (A := A.in1) hh D e1 e2 s1 s2 hX (by simp [hin]) fun h' kp => wpAny_pure (fin h' fun c o c1 _ c3 _ e => kp c o c1 c3 e))
  | succ k ih =>
    intro i h tk c acc as hk hi hst hX hY hkeep hS hacc hal hG hlo
    have hlt : i < xs.size := by omega
    obtain ⟨x, hx⟩ : ∃ x, xs[i]? = some x := ⟨_, Array.getElem?_eq_getElem hlt⟩
    obtain ⟨y, hy⟩ : ∃ y, ys[i]? = some y := ⟨_, Array.getElem?_eq_getElem (by omega)⟩
    have hsz : acc.size = i := by rw [← Array.length_toList, hacc, List.length_map, hal]
    refine codeAny_builtin F.entry_extend_loop ?_
    rw [Around.under_plainId F.plain_extend_loop _]
    show wpAny _ A.in1 (pyNext (.ref z) >>= _) _ _ _
    have l1z := D.l1z; have l1TO := D.l1TO; have l1i1 := D.l1i1; have l1i2 := D.l1i2
    have step : ∀ h' : Heap, ZSt h' z TI TO S i1 i2 l1 l2 (i + 1) → IsPair h' h.objs.size x y → h'.objs.size = h.objs.size + 1 → (∀ c o, c ≠ z → c ≠ TO → c ≠ i1 → c ≠ i2 → h.get? c = some o → h'.get? c = some o) →
        wpAny (model prog w) A.in1 (updateSeq S (·.push (Value.ref h.objs.size)) >>= fun _ => again (.builtin "list.extend.loop" ⟨[.ref S, .ref z, res], []⟩)) (fun fin s' => match fin with | .done f => R (.ok f) s' | .again c' => c'.quiet = true ∧ codeAny (model prog w) A c' R s') (fun e s' => R (.error e) s') { s with heap := h', toks := tk } := fun h' hst' ht hz' kp => by
      have hS' := kp S _ nS.1.symm nS.2.2.1.symm nS.2.2.2.1.symm nS.2.2.2.2.symm hS
      have up : ∀ b o, b ≠ S → h'.get? b = some o → (h'.update S (Obj.mapSeq (·.push (Value.ref h.objs.size)))).get? b = some o := fun b o hb e => (Heap.get?_update_other _ _ (Ne.symm hb)).trans e
      have hSl' : S < h.objs.size := Heap.lt_size hS
      refine wpAny_bind ?_
      refine wpAny_updateSeq hS' rfl (wpAny_pure ⟨plainId_quiet F.plain_extend_loop _, ih (i + 1) _ tk _ (acc.push (Value.ref h.objs.size)) (as ++ [h.objs.size]) (by omega) hlt (hst'.keep up nS)
        (hX.at fun o e => up _ o n1 (kp _ o D.l1z D.l1TO D.l1i1 D.l1i2 e)) (hY.at fun o e => up _ o n2 (kp _ o D.l2z D.l2TO D.l2i1 D.l2i2 e))
        (fun b o a1 a2 a3 a4 a5 e => up b o a1 (kp b o a2 a3 a4 a5 (hkeep b o a1 a2 a3 a4 a5 e))) (Heap.get?_update_self _ hS' rfl) (by rw [Array.toList_push, hacc, List.map_append]; rfl) (by rw [List.length_append, hal]; rfl) ⟨?_, ?_, ?_⟩ ?_⟩) (by rw [hsz]; omega) (by show (acc.push (Value.ref h.objs.size)).size ≤ sizeLine + 1; rw [Array.size_push, hsz]; omega)
      · refine List.pairwise_append.mpr ⟨hG.rise, List.pairwise_singleton _ _, fun a ha b hb => ?_⟩
        rw [List.mem_singleton.mp hb]
        obtain ⟨j, hj⟩ := List.mem_iff_getElem?.mp ha
        obtain ⟨_, _, _, _, e⟩ := hG.pairs j a hj
        exact Heap.lt_size e
      · intro a ha
        rcases List.mem_append.mp ha with ha | ha
        · exact hG.above a ha
        · rw [List.mem_singleton.mp ha]; exact hlo
      · intro j b hj
        rcases Nat.lt_trichotomy j as.length with q | q | q
        · rw [List.getElem?_append_left q] at hj
          obtain ⟨x', y', e1, e2, e3⟩ := hG.pairs j b hj
          have hb := hG.above b (List.mem_of_getElem? hj)
          exact ⟨x', y', e1, e2, up b _ (Nat.ne_of_gt (Nat.lt_of_lt_of_le hSl hb)) (kp b _ (Nat.ne_of_gt (Nat.lt_of_lt_of_le hz hb)) (Nat.ne_of_gt (Nat.lt_of_lt_of_le hTO hb)) (Nat.ne_of_gt (Nat.lt_of_lt_of_le h1l hb)) (Nat.ne_of_gt (Nat.lt_of_lt_of_le h2l hb)) e3)⟩
        · subst q
          have hb : h.objs.size = b := by simpa using hj
          subst hb
          exact ⟨x, y, by rw [hal]; exact hx, by rw [hal]; exact hy, up _ _ (Nat.ne_of_gt hSl') ht⟩
        · have hnone : (as ++ [h.objs.size])[j]? = none := List.getElem?_eq_none (by rw [List.length_append, List.length_singleton]; omega)
          rw [hnone] at hj; cases hj
      · rw [Heap.size_after_update, hz']; exact Nat.le_trans hlo (Nat.le_succ _)
    obtain ⟨s1, s2, s3, s4⟩ := hst
    have hzh : z < h.objs.size ∧ i1 < h.objs.size ∧ i2 < h.objs.size ∧ S < h.objs.size := ⟨Nat.lt_of_lt_of_le hz hlo, Nat.lt_of_lt_of_le h1l hlo, Nat.lt_of_lt_of_le h2l hlo, Nat.lt_of_lt_of_le hSl hlo⟩
    rcases s4 with ⟨e0, e1, u, v, e2⟩ | ⟨T, f, oT, e1, e2, e3, e4, e5, e6⟩
    · refine wpAny_bind (wpAny_pyNext_zip_item (s := { s with heap := h, toks := tk }) (A := A.in1) D e1 s1 e2 s2 s3 hX hY hx hy fun h' a1 a2 a3 a4 a5 a6 kp => ?_)
      exact step h' ⟨kp _ _ D.TIz D.TITO D.TIi1 D.TIi2 s1, a3, a4, .inr ⟨h.objs.size, false, _, a1, a5, Nat.ne_of_gt hzh.1, Nat.ne_of_gt hzh.2.1, Nat.ne_of_gt hzh.2.2.1, Nat.ne_of_gt hzh.2.2.2⟩⟩ a5 a6 kp
    · refine wpAny_bind (zo_item (s := { s with heap := h, toks := tk }) (A := A.in1) D e1 e2 s1 s2 s3 hX hY hx hy fun h' a1 a2 a3 a4 a5 kp => ?_)
      exact step h' ⟨kp _ _ D.TIz D.TIi1 D.TIi2 s1, a2, a3, .inr ⟨T, true, oT, a1, kp _ _ e3 e4 e5 e2, e3, e4, e5, e6⟩⟩ a4 a5 fun c o c1 _ c3 c4 e => kp c o c1 c3 c4 e
end
section
variable {prog : Program} {w : World} {A : Around} {E : Value → Shared → Prop} {s : Shared} {xs ys : Array Value}
theorem zip_hint {z : Addr} (hT : s.TypeIs (.ref z) "zip") {Q : Bool → Shared → Prop} (h : Q true s) : wpAny (model prog w) A (Builtin.List.listLengthHint (.ref z)) Q E s := by
  unfold Builtin.List.listLengthHint
  refine wpAny_bind (wpAny_specialOf hT zip_no_len ?_)
  dsimp only
  refine wpAny_ite_split (fun hab => absurd hab (by decide)) fun _ => ?_
  refine wpAny_ite_split (fun hab => absurd hab (by decide)) fun _ => ?_
  refine wpAny_bind (wpAny_specialOf hT zip_no_hint ?_)
  exact wpAny_pure h
end
end PySem
end
section
set_option Elab.async false
set_option linter.all false
set_option maxRecDepth 100000
set_option maxHeartbeats 4000000
namespace PySem
open Sem (wp)
section
variable {prog : Program} {w : World} {A : Around} {E : Value → Shared → Prop} {s : Shared} {xs ys : Array Value}
theorem zl_call {z TI TO i1 i2 l1 l2 : Addr} {Q : Value → Shared → Prop} (hh : A.handled = none) (D : ZipApart z TI TO i1 i2 l1 l2) (hz : IsZip s.heap z TI TO .none) (hTI : IsPair s.heap TI (.ref i1) (.ref i2)) {a0 b0 : Value} (hTO : IsPair s.heap TO a0 b0)
    (h1 : s.heap.IsListIter i1 l1 0) (h2 : s.heap.IsListIter i2 l2 0) (hl1 : s.heap.IsList l1 xs) (hl2 : s.heap.IsList l2 ys) (hn : xs.size ≤ sizeLine) (hxy : xs.size = ys.size)
    (hQ : ∀ h' tk acc c as, (∀ b o, b ≠ z → b ≠ TO → b ≠ i1 → b ≠ i2 → s.heap.get? b = some o → h'.get? b = some o) → h'.get? s.heap.objs.size = some { cls := .type "list", dict := none, data := .seq acc c, slots := #[] } → as.length = xs.size → ZPairs xs ys (s.heap.objs.size + 1) h' as →
      acc.toList = as.map Value.ref → Q (.ref s.heap.objs.size) { s with heap := h', toks := tk }) :
    wpAny (model prog w) A (call (.type "list") [.ref z]) Q E s := by
  have lz : z < s.heap.objs.size := Heap.lt_size hz
  have lTI : TI < s.heap.objs.size := Heap.lt_size hTI
  have lTO : TO < s.heap.objs.size := Heap.lt_size hTO
  have li1 : i1 < s.heap.objs.size := by obtain ⟨_, e, _⟩ := h1; exact Heap.lt_size e
  have li2 : i2 < s.heap.objs.size := by obtain ⟨_, e, _⟩ := h2; exact Heap.lt_size e
  have ll1 : l1 < s.heap.objs.size := by obtain ⟨_, e, _⟩ := hl1; exact Heap.lt_size e
  have ll2 : l2 < s.heap.objs.size := by obtain ⟨_, e, _⟩ := hl2; exact Heap.lt_size e
  refine callType_codes (Q₁ := fun obj s₁ => obj = .ref s.heap.objs.size ∧ s₁ = { s with heap := s.heap.push { cls := .type "list", data := .seq #[] } }) F.called_list (F.typeCall_list_1 _) F.entry_list_init (code_list_new _ ⟨rfl, rfl⟩) fun obj s₁ e₁ => ?_
  obtain ⟨rfl, rfl⟩ := e₁
  generalize hS0 : s.heap.objs.size = S at *
  have gS : (s.heap.push { cls := .type "list", data := .seq #[] }).get? S = some { cls := .type "list", data := .seq #[] } := by rw [← hS0]; exact Heap.get?_push_size _ rfl
  refine ⟨⟨_, gS, rfl⟩, F.args_list_init_2 _ _, ?_⟩
  have kp : ∀ b o, s.heap.get? b = some o → (s.heap.push { cls := .type "list", data := .seq #[] }).get? b = some o := fun b o e => Heap.get?_push_of_some _ e
  have sz : (s.heap.push { cls := .type "list", data := .seq #[] }).objs.size = S + 1 := by rw [Heap.size_push, hS0]
  generalize s.heap.push { cls := .type "list", data := .seq #[] } = g0 at gS kp sz
  show wpAny _ _ (do let old ← Builtin.List.listItems (.ref S); Builtin.List.listUpdate (.ref S) (fun _ => #[]); letGo old.toList.reverse; Builtin.List.listExtendWith (.ref S) (.ref z) .none) _ _ { s with heap := g0 }
  refine wpAny_bind ?_
  unfold Builtin.List.listItems
  refine wpAny_bind (wpAny_seqItems gS rfl (wpAny_pure ?_))
  show wpAny _ _ (updateSeq S (fun _ => #[]) >>= fun _ => letGo (#[] : Array Value).toList.reverse >>= fun _ => Builtin.List.listExtendWith (.ref S) (.ref z) .none) _ _ { s with heap := g0 }
  refine wpAny_bind (wpAny_updateSeq gS rfl ?_)
  have g1 := Heap.get?_update_self (Obj.mapSeq (fun _ => (#[] : Array Value))) gS rfl
  have kp1 : ∀ b o, b ≠ S → s.heap.get? b = some o → (g0.update S (Obj.mapSeq (fun _ => (#[] : Array Value)))).get? b = some o := fun b o hb e => (Heap.get?_update_other _ _ (Ne.symm hb)).trans (kp b o e)
  have sz1 : (g0.update S (Obj.mapSeq (fun _ => (#[] : Array Value)))).objs.size = S + 1 := by rw [Heap.size_after_update, sz]
  generalize g0.update S (Obj.mapSeq (fun _ => (#[] : Array Value))) = g2 at g1 kp1 sz1
  refine wpAny_bind (wpAny_letGo ?_)
  have nz : z ≠ S := Nat.ne_of_lt lz
  have nTI : TI ≠ S := Nat.ne_of_lt lTI
  have nTO : TO ≠ S := Nat.ne_of_lt lTO
  have n1 : i1 ≠ S := Nat.ne_of_lt li1
  have n2 : i2 ≠ S := Nat.ne_of_lt li2
  have m1 : l1 ≠ S := Nat.ne_of_lt ll1
  have m2 : l2 ≠ S := Nat.ne_of_lt ll2
  have hty : Shared.TypeIs { s with heap := g2 } (.ref z) "zip" := ⟨_, kp1 _ _ nz hz, rfl⟩
  unfold Builtin.List.listExtendWith
  refine wpAny_bind (wpAny_typeOf (T := "zip") hty ?_)
  have c1 : Builtin.List.listSameRef (.ref S) (.ref z) = false := by simp [Builtin.List.listSameRef, Ne.symm nz]
  have c2 : (Value.type "zip" == Value.type "list") = false := by decide
  have c3 : (Value.type "zip" == Value.type "tuple") = false := by decide
  simp only [c1, c2, c3, Bool.or_false, Bool.false_eq_true, if_false]
  refine wpAny_bind (wpAny_pyIter_zip (s := { s with heap := g2 }) (kp1 _ _ nz hz) ?_)
  refine wpAny_bind (wpAny_holding (zip_hint hty ?_))
  simp only [Bool.true_or, if_true]
  refine wpAny_bind (wpAny_rule ?_)
  refine wpAny_bind ?_
  show wpAny _ _ (updateSeq S (·.push .none) >>= fun _ => updateSeq S (·.pop)) _ _ _
  refine wpAny_bind (wpAny_updateSeq g1 rfl ?_)
  have g3 := Heap.get?_update_self (Obj.mapSeq (·.push Value.none)) g1 rfl
  refine wpAny_updateSeq (hz := by seq_fits) g3 rfl ?_
  have g4 := Heap.get?_update_self (Obj.mapSeq (·.pop)) g3 rfl
  have kp4 : ∀ b o, b ≠ S → s.heap.get? b = some o → ((g2.update S (Obj.mapSeq (·.push Value.none))).update S (Obj.mapSeq (·.pop))).get? b = some o := fun b o hb e =>
    (Heap.get?_update_other _ _ (Ne.symm hb)).trans ((Heap.get?_update_other _ _ (Ne.symm hb)).trans (kp1 b o hb e))
  have sz4 : ((g2.update S (Obj.mapSeq (·.push Value.none))).update S (Obj.mapSeq (·.pop))).objs.size = S + 1 := by rw [Heap.size_after_update, Heap.size_after_update, sz1]
  generalize (g2.update S (Obj.mapSeq (·.push Value.none))).update S (Obj.mapSeq (·.pop)) = g5 at g4 kp4 sz4
  refine wpAny_pure ⟨plainId_quiet F.plain_extend_loop _, zl_loop (A := A.in1) (s := s) (h₁ := s.heap) (lo := S + 1) (xs := xs) (ys := ys) hh D ⟨nz, nTI, nTO, n1, n2⟩ (Nat.lt_succ_of_lt lz) (Nat.lt_succ_self _) (Nat.lt_succ_of_lt li1) (Nat.lt_succ_of_lt li2) (Nat.lt_succ_of_lt lTO) m1 m2 hn hxy .none
    (fun h' tk acc c as k1 k2 k3 k4 k5 => ⟨rfl, hQ h' tk acc c as (fun b o b1 b2 b3 b4 e => k1 b o (Nat.ne_of_lt (by have := Heap.lt_size e; rw [hS0] at this; exact this)) b1 b2 b3 b4 e) k2 k3 k4 k5⟩)
    xs.size 0 g5 s.toks _ #[] [] (Nat.sub_zero _) (Nat.zero_le _) ⟨kp4 _ _ nTI hTI, h1.at fun o e => kp4 _ o n1 e, h2.at fun o e => kp4 _ o n2 e, .inl ⟨rfl, kp4 _ _ nz hz, a0, b0, kp4 _ _ nTO hTO⟩⟩ (hl1.at fun o e => kp4 _ o m1 e) (hl2.at fun o e => kp4 _ o m2 e)
    (fun b o b1 _ _ _ _ e => kp4 b o b1 e) g4 rfl rfl ⟨List.Pairwise.nil, (fun _ ha => nomatch ha), (fun j a hj => by simp at hj)⟩ (Nat.le_of_eq sz4.symm)⟩
end
end PySem
namespace L2
open PySem PySem.Spec PyProof.Rows
section
variable {X : Cx}
/-! ### module constants -/
theorem pe_gi {x : Str} {i : Int} {pos : Pos} (hg : Gl X x) (h : ∃ t, X.mg x = some (.int i t)) (hd : (x == ("__debug__" : Str)) = false := by decide) : PE X (.Name x pos) (tC (.int i)) := by
  obtain ⟨t, e⟩ := h
  exact pe_glob hg e ⟨t, rfl⟩ hd
theorem pe_gr {x : Str} {a : Addr} {pos : Pos} (hg : Gl X x) (h : X.mg x = some (.ref a)) (hd : (x == ("__debug__" : Str)) = false := by decide) : PE X (.Name x pos) (tC (.ref a)) := pe_glob hg h rfl hd
/-! ### // by a divisor below 2^64 -/
def CDivL (_ j : Int) : Prop := 0 < j ∧ j < 18446744073709551616
theorem op_fdivL : OpR X (binaryOp .FloorDiv) (rI CDivL fun i j => .int (i / j)) := opI fun i j _ _ _ _ _ hc q => by
  have h1 : (0 : Int) < j := hc.1
  have h2 : j < 18446744073709551616 := hc.2
  refine floordiv_int (by omega) (by rw [Int.fdiv_eq_ediv_of_nonneg i (by omega)]; exact q) (.inl (PyProof.noPylong_of_log2 ?_))
  have h3 : j.natAbs ≠ 0 := by omega
  have : j.natAbs.log2 < 64 := (Nat.log2_lt h3).mpr (by omega)
  omega
/-! ### xs.extend(a tuple) -/
def rExtendT (K : PySem.W.Frag) : V → List V → Hp → VK → Prop := fun x vs H Q => ∃ l b xs zs, x = .ref l ∧ vs = [.ref b] ∧ H l = some (.lst xs) ∧ SqT K H b zs ∧ xs.length + zs.length ≤ sizeLine ∧ Q .non (upd H l (.lst (xs ++ zs)))
theorem mt_extendT : MtM X "list.extend" (rExtendT X.K) := by
  intro pins s σ H x vs v us Q I rx rs h
  obtain ⟨l, b, xs, zs, rfl, rfl, hl, hb, hz, q⟩ := h
  cases rx
  rw [Vals.ref1 rs]
  obtain ⟨z1, its, n, rv, el, e1⟩ := I.lstM hl
  obtain ⟨its2, rv2, ⟨o2, e2, c2, n2, d2⟩, z2⟩ := I.tuple hb
  have el2 := rv2.length
  have hsz : its.toArray.size + its2.toArray.size ≤ sizeLine := by rw [List.size_toArray, List.size_toArray]; omega
  have hlong : ¬ (!its.toArray.isEmpty && Builtin.List.listTooLong (its.toArray.size + its2.toArray.size)) = true := by
    rw [notLongL hsz, Bool.and_false]
    exact Bool.false_ne_true
  refine call_meets F.slot_list_extend ⟨_, e1, rfl⟩ F.entry_list_extend (F.args_list_extend_2 _ _) (ext_tup l its.toArray n b its2.toArray n2 o2 c2 d2 hlong (by rw [List.size_toArray]; omega) (by omega)) ⟨e1, e2, ?_⟩
  refine ⟨.non, _, I.lset (its' := its ++ its2) hl e1 (by simp) (rv.append rv2) ?_, rfl, q⟩
  rw [List.length_append]
  omega
/-! ### f[k](..): the callee is an item -/
def tCallV (X : Cx) (tf : TE) (t : TA) : TE := fun σ H Q => tf σ H fun v H1 => ∃ f, v = .ref f ∧ PySem.W.keepIn X.K (.ref f) = true ∧ t σ H1 fun vs H2 => ∃ k fd ps sp, FnOk X.prog X.w X.K X.mg X.base CX0 k f fd ps sp ∧ Room k X.A ∧ Binds X.K fd ps [] ∧ sp vs H2 Q E0
theorem pe_callV {func e : Expr} {es : List Expr} {pos : Pos} {tf : TE} {t : TA} (hf : PE X func tf) (ha : PA X (e :: es) t) (he : starEach (e :: es) X.env = (false, eval e X.env) :: starEach es X.env := by rfl) (hpl : (backTo pos (starEach es X.env)).any (·.1) = false := by rfl)
    (heq : eval (.Call func (e :: es) [] pos) X.env = (do callWith pos (← eval func X.env) [] (backTo pos (starEach (e :: es) X.env)) (backToKw pos (keywordEach [] X.env))) := by rfl) :
    PE X (.Call func (e :: es) [] pos) (tCallV X tf t) := by
  intro pins s σ H Q I h
  rw [heq]
  refine wpAny_bind (thn (hf pins s σ H _ I h) fun u s1 ⟨v, H1, I1, rv, f, ev, kp, q⟩ => ?_)
  subst ev
  obtain rfl : u = Value.ref f := rv
  refine PySem.W.callWith_K (h₀ := X.base) I.ok.mod.kin kp (thn (ha pos pins s1 σ H1 _ I1 q) fun us s2 ⟨vs, H2, I2, r, k, fd, ps, sp, F, hr, hb, q2⟩ => ⟨I2.kIn, ?_⟩) he hpl
  exact run_fn (CX := CX0) (E := E0) (dvs := []) (ds := []) F hr hb .nil pass0 I2 r (by rw [List.append_nil]; exact q2)
/-! ### set(xs), len of a set -/
theorem boot_set5 : bootBuiltins "set" = some (.type "set") := by decide +kernel
theorem boot_list5 : bootBuiltins "list" = some (.type "list") := by decide +kernel
theorem boot_all5 : bootBuiltins "all" = some (.builtin "all") := by decide +kernel
theorem boot_abs5 : bootBuiltins "abs" = some (.builtin "abs") := by decide +kernel
theorem boot_min5 : bootBuiltins "min" = some (.builtin "min") := by decide +kernel
theorem boot_max5 : bootBuiltins "max" = some (.builtin "max") := by decide +kernel
theorem dedup_len : ∀ (l acc : List Int), acc.Nodup → ((l.foldl PyProof.Rows.step_dedup acc).length ≤ acc.length + l.length) ∧ ((l.foldl PyProof.Rows.step_dedup acc).length = acc.length + l.length ↔ (acc ++ l).Nodup)
  | [], acc, h => by simp [h]
  | x :: l, acc, h => by
    rw [List.foldl_cons]
    unfold PyProof.Rows.step_dedup
    by_cases hx : acc.any (· == x) = true
    · rw [if_pos hx]
      obtain ⟨d1, d2⟩ := dedup_len l acc h
      refine ⟨by rw [List.length_cons]; exact Nat.le_trans d1 (by omega), fun e => ?_, fun e => ?_⟩
      · rw [List.length_cons] at e
        have d1' : (List.foldl PyProof.Rows.step_dedup acc l).length ≤ acc.length + l.length := d1
        have e' : (List.foldl PyProof.Rows.step_dedup acc l).length = acc.length + (l.length + 1) := e
        omega
      · obtain ⟨y, hy, e2⟩ := List.any_eq_true.mp hx
        have e3 : y = x := by simpa using e2
        subst e3
        have := (List.nodup_append.mp e).2.2 y hy y List.mem_cons_self
        exact absurd rfl this
    · rw [if_neg hx]
      have hn : x ∉ acc := fun m => hx (List.any_eq_true.mpr ⟨x, m, by simp⟩)
      obtain ⟨d1, d2⟩ := dedup_len l (acc ++ [x]) (nd_snoc h hn)
      rw [List.length_append, List.length_singleton] at d1 d2
      refine ⟨by rw [List.length_cons]; exact Nat.le_trans d1 (by omega), ?_⟩
      have e : acc ++ x :: l = acc ++ [x] ++ l := by simp
      rw [e, List.length_cons, ← d2]
      constructor
      · intro q; exact q.trans (by omega)
      · intro q; exact q.trans (by omega)
theorem cr_setOf (hc : X.calm = true) : CallR X (.type "set") (fun xs H Q => ∃ (a : Addr) (ns : List Int), xs = [.ref a] ∧ SqL X.K H a (ns.map V.int) ∧ ns.length + 1 < 4096 ∧ ∀ p S n, H p = none → n ≤ ns.length → (n = ns.length ↔ ns.Nodup) → Q (.ref p) (upd H p (.set S n))) := by
  intro pins s σ H vs us Q I r h
  obtain ⟨a, ns, rfl, hs, hlen, q⟩ := h
  obtain ⟨its, rv, hl, _⟩ := I.list hs
  rw [Vals.ref1 r]
  have hlen2 : its.length = ns.length := by rw [← rv.length, List.length_map]
  refine call_set_list (items := its.toArray) (ns := ns) (I.ok.hd hc) hl.isList (by simpa using rv.ints) (by rw [List.size_toArray, hlen2]; exact hlen) fun h' tk hS hk => ?_
  have e0 : its.toArray.size = ns.length := by rw [List.size_toArray, hlen2]
  rw [e0] at hS
  have hd : PyProof.Rows.firstMet (fun i => ns.getD i 0) ns.length = ns.foldl PyProof.Rows.step_dedup [] := by
    unfold PyProof.Rows.firstMet
    congr 1
    apply List.ext_getElem
    · simp
    · intro i h1 h2
      simp [List.getD, h2]
  rw [hd] at hS
  obtain ⟨d1, d2⟩ := dedup_len ns [] List.nodup_nil
  rw [List.length_nil, Nat.zero_add] at d1 d2
  rw [List.nil_append] at d2
  exact ⟨.ref s.heap.objs.size, _, I.laid (t' := tk) (o := .set (fun k' => (ns.foldl PyProof.Rows.step_dedup []).any fun x => x == k') (ns.foldl PyProof.Rows.step_dedup []).length) (fun b o e => hk b o (Heap.lt_size e) e) (Nat.le_refl _) hS, rfl, q _ _ _ (I.hok.fresh (Nat.le_refl _)) d1 d2⟩
theorem cr_lenSet : CallR X (.builtin "len") (fun xs H Q => ∃ a S n, xs = [V.ref a] ∧ H a = some (.set S n) ∧ Q (.int n) H) := by
  intro pins s σ H xs us Q I r h
  obtain ⟨a, S, n, rfl, ha, q⟩ := h
  rw [Vals.ref1 r]
  obtain ⟨o, es, ep, t, e1, e2, e3, e4, e5, e6, e7, e8⟩ := I.hok a _ ha
  subst e8
  refine call_len_set e1 e2 e3 e7 ?_ ⟨.int es.size, H, I.tok _, ⟨_, rfl⟩, q⟩
  have : es.size < 4096 := e6
  omega
/-! ### min(xs, default=None) -/
theorem minD_raw {prog : Program} {w : World} {A : Around} {E : Value → Shared → Prop} {s : Shared} {l : Addr} {its : List Value} {ns : List Int} {Q : Value → Shared → Prop} {dv : Value} (hh : A.handled = none) (hl : s.heap.IsList l its.toArray) (hi : IntsAre its ns) (hne : 0 < ns.length)
    (h : ∀ h' tk M t', (∀ b o, s.heap.get? b = some o → h'.get? b = some o) → M ∈ ns → (∀ a, a ∈ ns → M ≤ a) → Q (.int M t') { s with heap := h', toks := tk }) : wpAny (model prog w) A (call (.builtin "min") [.ref l] [("default", dv)]) Q E s := by
  obtain ⟨xs, e⟩ := hi.allInts.items
  have hn : numsOf (intItems xs).toList = ns := by rw [← e]; exact hi.numsOf
  rw [nums_intItems] at hn
  subst hn
  rw [e] at hl
  have hsz : 0 < xs.size := by simpa using hne
  refine mnD_walk (iter_intList hl fun s2 e2 st hfp hlI => ?_)
  subst e2
  refine ⟨_, _, _, _, _, _, _, rfl, Walks.list (A := A.in1) hh _ l hlI (intItems xs), st, hfp, by simpa [intItems] using hsz, CmpOf.ints_lt (numAt xs) (fun _ _ => intItems_at), fun v h' tk hP hk => ?_⟩
  have hv : (intItems xs)[argBest (fun i j => decide (numAt xs i < numAt xs j)) (xs.size - 1)]? = some v := by simpa [intItems] using hP
  obtain ⟨t, rfl⟩ := intItems_at hv
  obtain ⟨b1, b2⟩ := argBest_lt (numAt xs) (xs.size - 1)
  refine h h' tk _ t (old_kept hk) ?_ fun a ha => ?_
  · rw [numAt_eq]; exact PySem.getD_mem (by rw [List.length_map, Array.length_toList]; omega)
  · obtain ⟨j, hj, rfl⟩ := mem_getD ha
    rw [List.length_map, Array.length_toList] at hj
    rw [← numAt_eq]; exact b2 j (by omega)
theorem minD_none {prog : Program} {w : World} {A : Around} {E : Value → Shared → Prop} {s : Shared} {l : Addr} {Q : Value → Shared → Prop} {dv : Value} (hh : A.handled = none) (hl : s.heap.IsList l #[])
    (h : ∀ h' tk, (∀ b o, s.heap.get? b = some o → h'.get? b = some o) → Q dv { s with heap := h', toks := tk }) : wpAny (model prog w) A (call (.builtin "min") [.ref l] [("default", dv)]) Q E s := by
  have hl' : s.heap.IsList l (intItems #[]) := by simpa [intItems] using hl
  refine mnD_walk0 (iter_intList hl' fun s2 e2 st hfp hlI => ?_)
  subst e2
  have W : Walks prog w A.in1 s.heap.objs.size [s.heap.objs.size, l] [s.heap.objs.size] 0 (fun i v => (intItems #[])[i]? = some v) (fun i h => h.IsListIter s.heap.objs.size l i ∧ h.IsList l (intItems #[])) := by
    have W := Walks.list (prog := prog) (w := w) (A := A.in1) hh s.heap.objs.size l hlI (intItems #[])
    have e : (intItems #[]).size = 0 := by simp [intItems]
    rw [e] at W
    exact W
  refine ⟨_, _, _, _, _, rfl, W, ?_, ?_⟩
  · exact st
  · exact fun h' tk hk => h h' tk (old_kept hk)
def tMinD (K : PySem.W.Frag) (ta : TA) : TE := fun σ H Q => ta σ H fun vs H1 => ∃ (a : Addr) (ns : List Int), vs = [.ref a] ∧ SqL K H1 a (ns.map V.int) ∧ (ns = [] → Q .non H1) ∧ ∀ m, m ∈ ns → (∀ y, y ∈ ns → m ≤ y) → Q (.int m) H1
theorem pe_minD {e : Expr} {ta : TA} {p pos kp p1 : Pos} {j : Nat} (hc : X.calm = true) (hg : Gl X "min") (hm : X.mg "min" = none) (ha : PA X [e] ta) (he : starEach [e] X.env = [(false, eval e X.env)] := by rfl) :
    PE X (.Call (.Name "min" p) [e] [⟨some "default", .Constant .none j p1, kp⟩] pos) (tMinD X.K ta) := by
  intro pins s σ H Q I h
  refine wpAny_Call_Name_kw (ld_blt I hg hm boot_min5 ?_)
  refine PyProof.Rows.callWith_kw (thn (ha pos pins s σ H _ I h) fun us s1 ⟨vs, H1, I1, r1, a, ns, ex, hq, q0, q1⟩ => ?_) (by rw [he]; rfl) (by rw [he]; rfl)
  subst ex
  rw [Vals.ref1 r1]
  refine PyProof.Rows.kws_cons ((pe_non : PE X (.Constant .none j p1) _) pins s1 σ H1 (fun v H' => v = .non ∧ H' = H1) I1 ⟨rfl, rfl⟩ |> fun z => thn z fun u s2 ⟨v, H2, I2, rv, ev, eh⟩ => PyProof.Rows.kws_nil ?_)
  subst ev eh
  obtain rfl : u = Value.none := rv
  obtain ⟨its, rv, hl, _⟩ := I2.list hq
  show wpAny _ _ (call (.builtin "min") [.ref a] [("default", Value.none)]) _ _ _
  cases ns with
  | nil =>
    have e0 : its = [] := by cases rv; rfl
    subst e0
    exact minD_none (I.ok.hd hc) hl.isList fun h' tk hk => ⟨.non, H2, I2.kept hk, rfl, q0 rfl⟩
  | cons n ns => exact minD_raw (I.ok.hd hc) hl.isList rv.ints (by simp) fun h' tk m t' hk m1 m2 => ⟨.int m, H2, I2.kept hk, ⟨_, rfl⟩, q1 m m1 m2⟩
/-! ### enumerate(xs, start=k) -/
theorem pi_enumS {e k : Expr} {te tk : TE} {p pos tpos kp : Pos} {elts : List Expr} {kk : Nat} (hg : Gl X "enumerate") (hm : X.mg "enumerate" = none) (he : PE X e te) (hk : PE X k tk) (hs : starEach [e] X.env = [(false, eval e X.env)] := by rfl) :
    PI X (.Tuple elts kk tpos) (.Call (.Name "enumerate" p) [e] [⟨some "start", k, kp⟩] pos) (iEnumS X.K te tk) := by
  intro pins s σ H R I h
  refine wpAny_Call_Name_kw (ld_blt I hg hm boot_enumerate ?_)
  have h : te σ H fun v H1 => tk σ H1 fun kv H2 => ∃ a xs j, v = .ref a ∧ kv = .int j ∧ -(2 ^ 62) ≤ j ∧ j < 2 ^ 62 ∧ SqL X.K H2 a xs ∧ R (IteS X.K a j) H2 := h
  refine callWith_tyK ?_ (by rw [hs]; rfl) (by rw [hs]; rfl)
  refine thn ((pa_cons he pa_nil hs : PA X [e] _) pos pins s σ H (fun vs H1 => match vs with | [v] => tk σ H1 fun kv H2 => ∃ a xs j, v = .ref a ∧ kv = .int j ∧ -(2 ^ 62) ≤ j ∧ j < 2 ^ 62 ∧ SqL X.K H2 a xs ∧ R (IteS X.K a j) H2 | _ => False) I h) fun us s1 ⟨vs, H1, I1, r1, q⟩ => ?_
  match vs, r1, q with
  | [v], r1, q =>
    obtain ⟨u, rfl, ru⟩ := vals1 r1
    refine PyProof.Rows.kws_cons (thn (hk pins s1 σ H1 _ I1 q) fun ku s2 ⟨kv, H2, I2, rk, a, xs, j, ev, ek, j1, j2, hq, q2⟩ => PyProof.Rows.kws_nil ?_)
    subst ev ek
    obtain rfl : u = Value.ref a := ru
    obtain ⟨t, rfl⟩ := rk
    obtain ⟨its, rv, pl, hz⟩ := I2.list hq
    show wpAny _ _ (call (.type "enumerate") [.ref a] [("start", .int j t)]) _ _ _
    refine call_enumS ⟨j1, j2⟩ pl.isList fun h' he' hit hsz hk' => wpAny_pyIter_enum he' ?_
    have I3 : Inv X pins σ H2 { s2 with heap := h' } := I2.kept (t' := s2.toks) hk'
    refine ⟨s2.heap.objs.size + 1, [s2.heap.objs.size + 1, s2.heap.objs.size], _, _, H2, rfl, I3, turn_enumS a (s2.heap.objs.size + 1) s2.heap.objs.size j, ⟨⟨.none, by rw [show j + ((0 : Nat) : Int) = j by omega]; exact he'⟩, hit, Nat.succ_ne_self _⟩, fun b hb => ?_, q2⟩
    have e' : b = s2.heap.objs.size + 1 ∨ b = s2.heap.objs.size := by simpa using hb
    have hle : s2.heap.objs.size ≤ b := by
      rcases e' with z | z
      · rw [z]; exact Nat.le_add_right _ _
      · rw [z]; exact Nat.le_refl _
    exact I2.fpOk hle (I2.hok.fresh hle)
/-! ### xs[::2], xs[1::2] -/
theorem pick_step2 (its : List Value) (lo : Option Int) (hlo : lo = none ∨ lo = some 1) : slicePick its.toArray lo none (some 2) = (Mu.evens (its.drop (lo.getD 0).toNat)).toArray := by
  unfold slicePick
  have key : ∀ a : Nat, a ≤ its.length → (sliceRange (a : Int) (its.length : Int) 2).filterMap (its.toArray[·]?) = Mu.evens (its.drop a) := fun a ha => by
    unfold sliceRange
    simp only [show (2 : Int) > 0 by decide, if_true]
    have e1 : (if (a : Int) < (its.length : Int) then ((its.length : Int) - a + 2 - 1) / 2 else 0).toNat = (its.length - a + 1) / 2 := by
      by_cases h : (a : Int) < its.length
      · rw [if_pos h]; omega
      · rw [if_neg h]; omega
    rw [e1, ← Mu.pick2 its ((its.length - a + 1) / 2) a rfl]
    have e2 : (List.range ((its.length - a + 1) / 2)).map (fun (k : Nat) => ((a : Int) + 2 * (k : Int)).toNat) = (List.range ((its.length - a + 1) / 2)).map fun k => a + 2 * k := List.map_congr_left fun k _ => by omega
    rw [e2]
    simp
  have hn : its.toArray.size = its.length := List.size_toArray
  congr 1
  rcases hlo with rfl | rfl
  · have e : sliceBounds none none (some 2) its.toArray.size = (0, (its.length : Int), 2) := by simp [sliceBounds]
    rw [e]
    exact key 0 (Nat.zero_le _)
  · by_cases h : 1 ≤ its.length
    · have e : sliceBounds (some 1) none (some 2) its.toArray.size = (1, (its.length : Int), 2) := by
        simp [sliceBounds]
        omega
      rw [e]
      exact key 1 h
    · have e0 : its = [] := List.length_eq_zero_iff.mp (by omega)
      subst e0
      rfl
theorem Vals.evens : ∀ {xs : List V} {us : List Value}, Vals xs us → Vals (Mu.evens xs) (Mu.evens us)
  | [], _, r => by cases r; exact .nil
  | [x], _, r => by cases r with | cons r1 r2 => cases r2; exact .cons r1 .nil
  | x :: y :: xs, _, r => by
    cases r with
    | cons r1 r2 =>
      cases r2 with
      | cons r3 r4 => exact .cons r1 (Vals.evens r4)
def tStep2 (K : PySem.W.Frag) (te : TE) (tl : TO) : TE := fun σ H Q => te σ H fun x H1 => tl σ H1 fun lo H2 => ∃ a xs, x = .ref a ∧ SqL K H2 a xs ∧ (lo = none ∨ lo = some 1) ∧ ∀ p, H2 p = none → Q (.ref p) (upd H2 p (.lst (Mu.evens (xs.drop (lo.getD 0).toNat))))
theorem pe_step2 {e : Expr} {te : TE} {lo : Option Expr} {tl : TO} {pos p2 p3 : Pos} {j : Nat} (he : PE X e te) (hl : PO X lo tl) : PE X (.Subscript e (.Slice lo none (some (.Constant (.int 2) j p3)) p2) pos) (tStep2 X.K te tl) := by
  intro pins s σ H Q I h
  refine Subscript_ (thn (he pins s σ H _ I h) fun v s1 ⟨x, H1, I1, r1, q1⟩ => ?_)
  refine wpAny_Slice (thn (hl pins s1 σ H1 _ I1 q1) fun vl s2 ⟨l, H2, I2, pl, q2⟩ => ?_)
  rw [evalPart_none]
  refine wpAny_pure ?_
  rw [evalPart_some]
  refine thn ((pe_int : PE X (.Constant (.int 2) j p3) _) pins s2 σ H2 (fun v H' => v = .int 2 ∧ H' = H2) I2 ⟨rfl, rfl⟩) fun vs s3 ⟨v2, H3, I3, r3, e3, e4⟩ => ?_
  subst e3 e4
  obtain ⟨t3, rfl⟩ := r3
  obtain ⟨a, xs, rfl, hx, hlo, q⟩ := q2
  cases r1
  have I4 : Inv X pins σ H3 { s3 with heap := s3.heap.push { cls := .type "slice", data := .fields #[vl, .none, .int 2 t3] } } := I3.kept (t' := s3.toks) fun b ob q => Heap.get?_push_of_some _ q
  obtain ⟨its, r, ht, hz⟩ := I4.list hx
  have hlen := r.length
  show wpAny (model X.prog X.w) X.A (subscriptTail e (.Slice lo none (some (.Constant (.int 2) j p3)) p2) (.ref a) (.ref s3.heap.objs.size)) (EP X pins σ Q) X.xe { s3 with heap := s3.heap.push { cls := .type "slice", data := .fields #[vl, .none, .int 2 t3] } }
  refine tail_any (ops := [.ref a, .ref s3.heap.objs.size]) (T := "list") ht.isList.typeIs slot_list_getitem.lookup ?_ (by with_unfolding_all rfl)
  refine wpAny_getItem_list_slice (st := some 2) ht.isList (Heap.IsSliceOf.new ..) pl .none (.int 2 t3) (by simp) ?_ (by rw [List.size_toArray] <;> omega)
  rw [pick_step2 its l hlo]
  have rv : Vals (Mu.evens (xs.drop (l.getD 0).toNat)) (Mu.evens (its.drop (l.getD 0).toNat)) := (r.drop _).evens
  refine ⟨.ref _, _, I4.laid (t' := s3.toks) (o := .lst (Mu.evens (xs.drop (l.getD 0).toNat))) (fun b ob q => Heap.get?_push_of_some _ q) (Nat.le_refl _) ?_, rfl, q _ (I4.hok.fresh (Nat.le_refl _))⟩
  refine ⟨?_, _, 0, rv, Heap.get?_push_size _ rfl⟩
  rw [Mu.evens_length, List.length_drop]
  omega
/-! ### list(zip(xs, ys)) -/
theorem Inv.laidMany {pins : List (Addr × Obj)} {σ : St} {H H' : Hp} {s : Shared} {h' : Heap} {t' : Nat} (I : Inv X pins σ H s) (k : ∀ b u, s.heap.get? b = some u → h'.get? b = some u) (old : ∀ b, b < s.heap.objs.size → H' b = H b)
    (new : ∀ b o, s.heap.objs.size ≤ b → H' b = some o → ObjOk X.prog X.w H' h' b o) : Inv X pins σ H' { s with heap := h', toks := t' } := by
  have sm : ∀ b o, H b = some o → H' b = some o := fun b o e => (old b (I.hok.lt e)).trans e
  refine I.un ⟨fun b o q _ _ _ => k b o q, fun b o q _ _ _ => ⟨o.slots, k b o q⟩, fun b o q n _ => (old b (Heap.lt_size q)).trans n, fun b o q _ => ⟨o, k b o q⟩, fun b xs q => sm b _ q, fun b o u q => sm b _ q, fun b ps q => ⟨#[], by rw [sm b _ q]; simp⟩⟩ fun b o e => ?_
  by_cases hb : b < s.heap.objs.size
  · rw [old b hb] at e
    exact (I.hok b o e).stay (fun c u _ q => k c u q) (fun c q => sm c _ q) fun c xs q => sm c _ q
  · exact new b o (Nat.le_of_not_lt hb) e
theorem lookup_zip {as : List Addr} {ts : List (List V)} (hn : as.Nodup) : ∀ {j : Nat} {a : Addr} {t : List V}, as[j]? = some a → ts[j]? = some t → (as.zip ts).lookup a = some t := by
  induction as generalizing ts with
  | nil => intro j a t h; simp at h
  | cons b bs ih =>
    intro j a t h1 h2
    obtain ⟨n1, n2⟩ := List.nodup_cons.mp hn
    cases ts with
    | nil => simp at h2
    | cons u us =>
      rw [List.zip_cons_cons, List.lookup_cons]
      cases j with
      | zero =>
        have e1 : b = a := Option.some.inj h1
        have e2 : u = t := Option.some.inj h2
        subst e1 e2
        simp
      | succ j =>
        have h1' : bs[j]? = some a := h1
        have hne : (a == b) = false := by
          rw [beq_eq_false_iff_ne]
          intro z; subst z
          exact n1 (List.mem_of_getElem? h1')
        rw [hne]
        exact ih n2 h1' h2
theorem of_lookup_zip {as : List Addr} : ∀ {ts : List (List V)} {a : Addr} {t : List V}, (as.zip ts).lookup a = some t → ∃ j : Nat, as[j]? = some a ∧ ts[j]? = some t := by
  induction as with
  | nil => intro ts a t h; simp at h
  | cons b bs ih =>
    intro ts a t h
    cases ts with
    | nil => simp at h
    | cons u us =>
      rw [List.zip_cons_cons, List.lookup_cons] at h
      cases hab : (a == b) with
      | true =>
        rw [hab] at h
        have e1 : a = b := by simpa using hab
        exact ⟨0, by rw [e1]; rfl, h⟩
      | false =>
        rw [hab] at h
        obtain ⟨j, h1, h2⟩ := ih h
        exact ⟨j + 1, h1, h2⟩
def rListZip (K : PySem.W.Frag) : List V → Hp → VK → Prop := fun vs H Q => ∃ a b xs ys, vs = [.ref a, .ref b] ∧ SqL K H a xs ∧ SqL K H b ys ∧ xs.length = ys.length ∧ ∀ (l : Addr) (as : List Addr) (H' : Hp), H l = none → as.length = xs.length → H' l = some (.lst (as.map V.ref)) →
  (∀ (j : Nat) (c : Addr) (x y : V), as[j]? = some c → xs[j]? = some x → ys[j]? = some y → H' c = some (.tup [x, y])) → (∀ c ∈ as, H c = none ∧ c ≠ l) → Same H H' → Q (.ref l) H'
theorem Vals.at {xs : List V} {us : List Value} (r : Vals xs us) {j : Nat} {u : Value} (h : us[j]? = some u) : ∃ x, xs[j]? = some x ∧ RelV x u := by
  have hl := r.length
  have hj : j < xs.length := by rw [hl]; exact (List.getElem?_eq_some_iff.mp h).1
  obtain ⟨u', e, q⟩ := r.get (List.getElem?_eq_getElem hj)
  rw [h] at e; cases e
  exact ⟨_, List.getElem?_eq_getElem hj, q⟩
theorem vals_refs : ∀ as : List Addr, Vals (as.map V.ref) (as.map Value.ref)
  | [] => .nil
  | a :: r => .cons rfl (vals_refs r)
theorem pe_listzip {e e2 : Expr} {ta : TA} {p pos p2 pos2 : Pos} (hc : X.calm = true) (hgl : Gl X "list") (hgz : Gl X "zip") (hml : X.mg "list" = none) (hmz : X.mg "zip" = none) (ha : PA X [e, e2] ta)
    (hs : starEach [e, e2] X.env = (false, eval e X.env) :: starEach [e2] X.env := by rfl) (hpl : (backTo pos2 (starEach [e2] X.env)).any (·.1) = false := by rfl) :
    PE X (.Call (.Name "list" p) [.Call (.Name "zip" p2) [e, e2] [] pos2] [] pos) (fun σ H Q => ta σ H fun vs H1 => rListZip X.K vs H1 Q) := by
  intro pins s σ H Q I h
  refine wpAny_Call_Name_kw (ld_blt I hgl hml boot_list5 ?_)
  refine PyProof.Rows.callWith_type1 (rest := []) (Calls.spliced_cons ?_) rfl rfl
  refine Call_ (ld_blt I hgz hmz boot_zip5 (PyProof.Rows.callWith_type1 (thn (ha pos2 pins s σ H _ I h) fun us s1 ⟨vs, H1, I1, r1, q1⟩ => ?_) hs hpl))
  obtain ⟨a, b, xs, ys, ex, hqx, hqy, hxy, q⟩ := q1
  subst ex
  cases r1 with
  | cons r rr =>
    cases rr with
    | cons r' rr =>
      cases rr
      cases r
      cases r'
      obtain ⟨its, rv, p1, hz1⟩ := I1.list hqx
      obtain ⟨its2, rv2, p2', _⟩ := I1.list hqy
      have la : a < s1.heap.objs.size := p1.lt
      have lb : b < s1.heap.objs.size := p2'.lt
      have e1 := rv.length
      have e2' := rv2.length
      refine call_zip_2 p1.isList p2'.isList fun h2 hz hTI hTO h1 h2' hsz hk => Calls.spliced_nil ?_
      refine zl_call (s := { s1 with heap := h2 }) (xs := its.toArray) (ys := its2.toArray) (I.ok.hd hc) (PySem.W.ktu_apart s1.heap.objs.size a b la lb) hz hTI hTO h1 h2' (p1.isList.at fun o e => hk _ o e) (p2'.isList.at fun o e => hk _ o e) (by rw [List.size_toArray]; omega) (by rw [List.size_toArray, List.size_toArray]; omega) fun h3 tk acc c as k1 k2 k3 k4 k5 => ?_
      have hsz2 : h2.objs.size = s1.heap.objs.size + 5 := hsz
      have kk : ∀ b o, s1.heap.get? b = some o → h3.get? b = some o := fun b o e => by
        have hb := Heap.lt_size e
        exact k1 b o (Nat.ne_of_lt (Nat.lt_of_lt_of_le hb (Nat.le_add_right _ _))) (Nat.ne_of_lt (Nat.lt_of_lt_of_le hb (Nat.le_add_right _ _))) (Nat.ne_of_lt hb) (Nat.ne_of_lt (Nat.lt_of_lt_of_le hb (Nat.le_add_right _ _))) (hk b o e)
      rw [List.size_toArray] at k3
      have nd : as.Nodup := k4.rise.imp fun hab => Nat.ne_of_lt hab
      have hab : ∀ c ∈ as, s1.heap.objs.size ≤ c ∧ c ≠ h2.objs.size := fun c hc => by
        have := k4.above c hc
        have : h2.objs.size + 1 ≤ c := this
        exact ⟨by omega, Nat.ne_of_gt this⟩
      let ts : List (List V) := List.zipWith (fun x y => [x, y]) xs ys
      let H' : Hp := fun b => if b = h2.objs.size then some (.lst (as.map V.ref)) else match (as.zip ts).lookup b with | some t => some (.tup t) | none => H1 b
      have hl : H' h2.objs.size = some (.lst (as.map V.ref)) := if_pos rfl
      have old : ∀ b, b < s1.heap.objs.size → H' b = H1 b := fun b hb => by
        show (if b = h2.objs.size then _ else _) = _
        rw [if_neg (by omega)]
        cases e : (as.zip ts).lookup b with
        | none => rfl
        | some t =>
          obtain ⟨j, j1, _⟩ := of_lookup_zip e
          have := (hab b (List.mem_of_getElem? j1)).1
          exact absurd (Nat.lt_of_lt_of_le hb this) (Nat.lt_irrefl _)
      have pr : ∀ (j : Nat) (c : Addr) (x y : V), as[j]? = some c → xs[j]? = some x → ys[j]? = some y → H' c = some (.tup [x, y]) := fun j c x y h1 h2 h3 => by
        show (if c = _ then _ else _) = _
        rw [if_neg (hab c (List.mem_of_getElem? h1)).2, lookup_zip nd h1 (show ts[j]? = some [x, y] by rw [List.getElem?_zipWith, h2, h3])]
      have fresh : ∀ c, s1.heap.objs.size ≤ c → H1 c = none := fun c hc => I1.hok.fresh hc
      have I3 : Inv X pins σ H' { s1 with heap := h3, toks := tk } := by
        refine I1.laidMany kk old fun b o hb e => ?_
        have e : (if b = h2.objs.size then some (.lst (as.map V.ref)) else match (as.zip ts).lookup b with | some t => some (.tup t) | none => H1 b) = some o := e
        by_cases hbl : b = h2.objs.size
        · rw [if_pos hbl] at e
          cases e
          subst hbl
          refine ⟨by rw [List.length_map, k3]; omega, as.map Value.ref, c, ?_, ?_⟩
          · exact vals_refs as
          · rw [← k5]
            simpa using k2
        · rw [if_neg hbl] at e
          cases e2 : (as.zip ts).lookup b with
          | none => rw [e2] at e; rw [show H1 b = none from fresh b hb] at e; cases e
          | some t =>
            rw [e2] at e
            cases e
            obtain ⟨j, j1, j2⟩ := of_lookup_zip e2
            obtain ⟨u, v, u1, u2, u3⟩ := k4.pairs j b j1
            obtain ⟨x, x1, x2⟩ := rv.at (by simpa using u1)
            obtain ⟨y, y1, y2⟩ := rv2.at (by simpa using u2)
            have et : t = [x, y] := by
              rw [show ts[j]? = some [x, y] by rw [List.getElem?_zipWith, x1, y1]] at j2
              exact (Option.some.inj j2).symm
            subst et
            exact ⟨by show 2 ≤ sizeLine; decide, [u, v], .cons x2 (.cons y2 .nil), ⟨_, u3, rfl, _, rfl⟩⟩
      exact ⟨.ref h2.objs.size, H', I3, rfl, q _ as H' (fresh _ (by omega)) (by omega) hl pr (fun c hc => ⟨fresh c (hab c hc).1, (hab c hc).2⟩) fun b o e => (old b (I1.hok.lt e)).trans e⟩
end
end L2
end
section
set_option Elab.async false
set_option linter.all false
set_option maxRecDepth 100000
set_option maxHeartbeats 4000000
namespace Sb
open PySem PySem.Spec PyProof.Rows L2
def top (i : Nat) : Stmt := PySem.Challenge.pw_scorebookdesk_s01_answers.main.body.getD i (.Pass ⟨0, 0, 0, 0⟩)
abbrev s_none_above : Stmt := top 6
abbrev s_points_of : Stmt := top 9
abbrev s_point_numbers : Stmt := top 10
abbrev s_points_fit : Stmt := top 11
abbrev s_value_between : Stmt := top 12
abbrev s_line_value : Stmt := top 13
abbrev s_Voice : Stmt := inClass (top 17) 0
abbrev s_voice_fits : Stmt := top 18
abbrev s_voice_numbers : Stmt := top 19
abbrev s_held : Stmt := top 20
abbrev s_loudness : Stmt := top 21
abbrev s_saw : Stmt := top 26
abbrev s_square : Stmt := top 27
abbrev s_triangle : Stmt := top 28
abbrev s_arcs : Stmt := top 29
abbrev s_wave_value : Stmt := top 31
abbrev s_Note : Stmt := inClass (top 35) 0
abbrev s_note_fits : Stmt := top 36
abbrev s_note_numbers : Stmt := top 37
abbrev s_note_end : Stmt := top 38
abbrev s_sounds_at : Stmt := top 39
abbrev s_given_at : Stmt := top 40
abbrev s_Score : Stmt := inClass (top 44) 0
abbrev s_voice_of : Stmt := top 45
abbrev s_note_numbered : Stmt := top 46
abbrev s_sounding : Stmt := top 47
abbrev s_next_change : Stmt := top 48
abbrev s_heard_within : Stmt := top 49
abbrev s_line_part : Stmt := top 50
abbrev s_note_part : Stmt := top 51
abbrev s_sums : Stmt := top 52
abbrev s_samples : Stmt := top 53
abbrev s_peak : Stmt := top 54
abbrev s_Reader : Stmt := inClass (top 59) 0
abbrev s_row_of : Stmt := top 60
abbrev s_read : Stmt := top 61
abbrev s_read_count : Stmt := top 62
abbrev s_read_voice : Stmt := top 63
abbrev s_read_line : Stmt := top 64
abbrev s_read_next_number : Stmt := top 65
abbrev s_read_note : Stmt := top 66
abbrev s_read_notes : Stmt := top 67
abbrev s_score_of : Stmt := top 68
abbrev s_Player : Stmt := inClass (top 77) 0
abbrev s_with_lists : Stmt := top 78
abbrev s_part_fits : Stmt := top 79
abbrev s_answer_voice : Stmt := top 80
abbrev s_answer_line : Stmt := top 81
abbrev s_answer_note : Stmt := top 82
abbrev s_answer_drop : Stmt := top 83
abbrev s_answer_move : Stmt := top 84
abbrev s_answer_render : Stmt := top 85
abbrev s_answer_raw : Stmt := top 86
abbrev s_answer_sounds : Stmt := top 87
abbrev s_answer_next : Stmt := top 88
abbrev s_answer_loud : Stmt := top 89
abbrev s_answer_line_at : Stmt := top 90
abbrev s_answer_seek : Stmt := top 91
abbrev s_answer_play : Stmt := top 92
abbrev s_answer_peak : Stmt := top 93
abbrev s_answer_notes : Stmt := top 94
abbrev s_answer_save : Stmt := top 95
abbrev s_answer_load : Stmt := top 96
abbrev s_call_end : Stmt := top 100
abbrev s_answers : Stmt := top 101
/-- the addresses behind the top -/
structure Adr where
  f_none_above : Addr
  d_none_above : FuncData
  f_points_of : Addr
  d_points_of : FuncData
  f_point_numbers : Addr
  d_point_numbers : FuncData
  f_points_fit : Addr
  d_points_fit : FuncData
  f_value_between : Addr
  d_value_between : FuncData
  f_line_value : Addr
  d_line_value : FuncData
  f_Voice : Addr
  d_Voice : FuncData
  f_voice_fits : Addr
  d_voice_fits : FuncData
  f_voice_numbers : Addr
  d_voice_numbers : FuncData
  f_held : Addr
  d_held : FuncData
  f_loudness : Addr
  d_loudness : FuncData
  f_saw : Addr
  d_saw : FuncData
  f_square : Addr
  d_square : FuncData
  f_triangle : Addr
  d_triangle : FuncData
  f_arcs : Addr
  d_arcs : FuncData
  f_wave_value : Addr
  d_wave_value : FuncData
  f_Note : Addr
  d_Note : FuncData
  f_note_fits : Addr
  d_note_fits : FuncData
  f_note_numbers : Addr
  d_note_numbers : FuncData
  f_note_end : Addr
  d_note_end : FuncData
  f_sounds_at : Addr
  d_sounds_at : FuncData
  f_given_at : Addr
  d_given_at : FuncData
  f_Score : Addr
  d_Score : FuncData
  f_voice_of : Addr
  d_voice_of : FuncData
  f_note_numbered : Addr
  d_note_numbered : FuncData
  f_sounding : Addr
  d_sounding : FuncData
  f_next_change : Addr
  d_next_change : FuncData
  f_heard_within : Addr
  d_heard_within : FuncData
  f_line_part : Addr
  d_line_part : FuncData
  f_note_part : Addr
  d_note_part : FuncData
  f_sums : Addr
  d_sums : FuncData
  f_samples : Addr
  d_samples : FuncData
  f_peak : Addr
  d_peak : FuncData
  f_Reader : Addr
  d_Reader : FuncData
  f_row_of : Addr
  d_row_of : FuncData
  f_read : Addr
  d_read : FuncData
  f_read_count : Addr
  d_read_count : FuncData
  f_read_voice : Addr
  d_read_voice : FuncData
  f_read_line : Addr
  d_read_line : FuncData
  f_read_next_number : Addr
  d_read_next_number : FuncData
  f_read_note : Addr
  d_read_note : FuncData
  f_read_notes : Addr
  d_read_notes : FuncData
  f_score_of : Addr
  d_score_of : FuncData
  f_Player : Addr
  d_Player : FuncData
  f_with_lists : Addr
  d_with_lists : FuncData
  f_part_fits : Addr
  d_part_fits : FuncData
  f_answer_voice : Addr
  d_answer_voice : FuncData
  f_answer_line : Addr
  d_answer_line : FuncData
  f_answer_note : Addr
  d_answer_note : FuncData
  f_answer_drop : Addr
  d_answer_drop : FuncData
  f_answer_move : Addr
  d_answer_move : FuncData
  f_answer_render : Addr
  d_answer_render : FuncData
  f_answer_raw : Addr
  d_answer_raw : FuncData
  f_answer_sounds : Addr
  d_answer_sounds : FuncData
  f_answer_next : Addr
  d_answer_next : FuncData
  f_answer_loud : Addr
  d_answer_loud : FuncData
  f_answer_line_at : Addr
  d_answer_line_at : FuncData
  f_answer_seek : Addr
  d_answer_seek : FuncData
  f_answer_play : Addr
  d_answer_play : FuncData
  f_answer_peak : Addr
  d_answer_peak : FuncData
  f_answer_notes : Addr
  d_answer_notes : FuncData
  f_answer_save : Addr
  d_answer_save : FuncData
  f_answer_load : Addr
  d_answer_load : FuncData
  f_call_end : Addr
  d_call_end : FuncData
  f_answers : Addr
  d_answers : FuncData
  c_Voice : Addr
  c_Note : Addr
  c_Score : Addr
  c_NoScoresRow : Addr
  c_Reader : Addr
  c_Player : Addr
  t_GREATEST_voices : Addr
  t_AT_FIRST : Addr
  t_WAVES : Addr
  t_GREATEST_notes : Addr
  t_GREATEST_OF_LOUD : Addr
  t_ANSWERERS : Addr
  t_PLAIN_NUMBERS : Addr
  t_CALLS_WITH_ROW : Addr
structure Def (K : PySem.W.Frag) (mg : Str → Option Value) (x qual : Str) (st : Stmt) (f : Addr) (fd : FuncData) (ps : List Str) : Prop where
  fn : Fun K x qual st f fd
  m : mg x = some (.ref f)
  b : Binds K fd ps []
structure Cla (K : PySem.W.Frag) (mg : Str → Option Value) (x qual : Str) (st : Stmt) (C f : Addr) (fd : FuncData) (ps flds : List Str) : Prop where
  fn : Fun K "__init__" qual st f fd
  b : Binds K fd ps []
  m : mg x = some (.ref C)
  made : Mk K C f
  cl : Cls K C
  no : ∀ y ∈ flds, NoAttr K C y
structure Txt (K : PySem.W.Frag) (mg : Str → Option Value) (A : Adr) : Prop where
  none_above : Def K mg "none_above" "none_above" s_none_above A.f_none_above A.d_none_above ["numbers", "greatest"]
  points_of : Def K mg "points_of" "points_of" s_points_of A.f_points_of A.d_points_of ["numbers"]
  point_numbers : Def K mg "point_numbers" "point_numbers" s_point_numbers A.f_point_numbers A.d_point_numbers ["points"]
  points_fit : Def K mg "points_fit" "points_fit" s_points_fit A.f_points_fit A.d_points_fit ["numbers"]
  value_between : Def K mg "value_between" "value_between" s_value_between A.f_value_between A.d_value_between ["earlier", "later", "t"]
  line_value : Def K mg "line_value" "line_value" s_line_value A.f_line_value A.d_line_value ["points", "t"]
  Voice : Cla K mg "Voice" "Voice.__init__" s_Voice A.c_Voice A.f_Voice A.d_Voice ["self", "numbers"] ["wave", "rise", "fall", "stay", "fade"]
  voice_fits : Def K mg "voice_fits" "voice_fits" s_voice_fits A.f_voice_fits A.d_voice_fits ["numbers"]
  voice_numbers : Def K mg "voice_numbers" "voice_numbers" s_voice_numbers A.f_voice_numbers A.d_voice_numbers ["voice"]
  held : Def K mg "held" "held" s_held A.f_held A.d_held ["voice", "k"]
  loudness : Def K mg "loudness" "loudness" s_loudness A.f_loudness A.d_loudness ["voice", "length", "k"]
  saw : Def K mg "saw" "saw" s_saw A.f_saw A.d_saw ["place"]
  square : Def K mg "square" "square" s_square A.f_square A.d_square ["place"]
  triangle : Def K mg "triangle" "triangle" s_triangle A.f_triangle A.d_triangle ["place"]
  arcs : Def K mg "arcs" "arcs" s_arcs A.f_arcs A.d_arcs ["place"]
  wave_value : Def K mg "wave_value" "wave_value" s_wave_value A.f_wave_value A.d_wave_value ["wave", "place"]
  Note : Cla K mg "Note" "Note.__init__" s_Note A.c_Note A.f_Note A.d_Note ["self", "number", "numbers"] ["number", "voice_number", "at", "length", "step", "level"]
  note_fits : Def K mg "note_fits" "note_fits" s_note_fits A.f_note_fits A.d_note_fits ["numbers"]
  note_numbers : Def K mg "note_numbers" "note_numbers" s_note_numbers A.f_note_numbers A.d_note_numbers ["note"]
  note_end : Def K mg "note_end" "note_end" s_note_end A.f_note_end A.d_note_end ["note", "voice"]
  sounds_at : Def K mg "sounds_at" "sounds_at" s_sounds_at A.f_sounds_at A.d_sounds_at ["note", "voice", "t"]
  given_at : Def K mg "given_at" "given_at" s_given_at A.f_given_at A.d_given_at ["note", "voice", "value", "t"]
  Score : Cla K mg "Score" "Score.__init__" s_Score A.c_Score A.f_Score A.d_Score ["self"] ["voices", "lines", "notes", "next_number"]
  voice_of : Def K mg "voice_of" "voice_of" s_voice_of A.f_voice_of A.d_voice_of ["score", "note"]
  note_numbered : Def K mg "note_numbered" "note_numbered" s_note_numbered A.f_note_numbered A.d_note_numbered ["score", "number"]
  sounding : Def K mg "sounding" "sounding" s_sounding A.f_sounding A.d_sounding ["score", "t"]
  next_change : Def K mg "next_change" "next_change" s_next_change A.f_next_change A.d_next_change ["score", "t"]
  heard_within : Def K mg "heard_within" "heard_within" s_heard_within A.f_heard_within A.d_heard_within ["score", "first", "end"]
  line_part : Def K mg "line_part" "line_part" s_line_part A.f_line_part A.d_line_part ["points", "first", "n"]
  note_part : Def K mg "note_part" "note_part" s_note_part A.f_note_part A.d_note_part ["score", "note", "values", "first"]
  sums : Def K mg "sums" "sums" s_sums A.f_sums A.d_sums ["score", "first", "n"]
  samples : Def K mg "samples" "samples" s_samples A.f_samples A.d_samples ["score", "first", "n"]
  peak : Def K mg "peak" "peak" s_peak A.f_peak A.d_peak ["score", "first", "n"]
  Reader : Cla K mg "Reader" "Reader.__init__" s_Reader A.c_Reader A.f_Reader A.d_Reader ["self", "row"] ["row", "begin"]
  row_of : Def K mg "row_of" "row_of" s_row_of A.f_row_of A.d_row_of ["score"]
  read : Def K mg "read" "read" s_read A.f_read A.d_read ["reader", "n"]
  read_count : Def K mg "read_count" "read_count" s_read_count A.f_read_count A.d_read_count ["reader", "most"]
  read_voice : Def K mg "read_voice" "read_voice" s_read_voice A.f_read_voice A.d_read_voice ["reader"]
  read_line : Def K mg "read_line" "read_line" s_read_line A.f_read_line A.d_read_line ["reader"]
  read_next_number : Def K mg "read_next_number" "read_next_number" s_read_next_number A.f_read_next_number A.d_read_next_number ["reader"]
  read_note : Def K mg "read_note" "read_note" s_read_note A.f_read_note A.d_read_note ["reader"]
  read_notes : Def K mg "read_notes" "read_notes" s_read_notes A.f_read_notes A.d_read_notes ["reader", "next_number"]
  score_of : Def K mg "score_of" "score_of" s_score_of A.f_score_of A.d_score_of ["row"]
  Player : Cla K mg "Player" "Player.__init__" s_Player A.c_Player A.f_Player A.d_Player ["self"] ["score", "place"]
  with_lists : Def K mg "with_lists" "with_lists" s_with_lists A.f_with_lists A.d_with_lists ["number", "lists"]
  part_fits : Def K mg "part_fits" "part_fits" s_part_fits A.f_part_fits A.d_part_fits ["first", "n"]
  answer_voice : Def K mg "answer_voice" "answer_voice" s_answer_voice A.f_answer_voice A.d_answer_voice ["player", "numbers"]
  answer_line : Def K mg "answer_line" "answer_line" s_answer_line A.f_answer_line A.d_answer_line ["player", "numbers"]
  answer_note : Def K mg "answer_note" "answer_note" s_answer_note A.f_answer_note A.d_answer_note ["player", "numbers"]
  answer_drop : Def K mg "answer_drop" "answer_drop" s_answer_drop A.f_answer_drop A.d_answer_drop ["player", "numbers"]
  answer_move : Def K mg "answer_move" "answer_move" s_answer_move A.f_answer_move A.d_answer_move ["player", "numbers"]
  answer_render : Def K mg "answer_render" "answer_render" s_answer_render A.f_answer_render A.d_answer_render ["player", "numbers"]
  answer_raw : Def K mg "answer_raw" "answer_raw" s_answer_raw A.f_answer_raw A.d_answer_raw ["player", "numbers"]
  answer_sounds : Def K mg "answer_sounds" "answer_sounds" s_answer_sounds A.f_answer_sounds A.d_answer_sounds ["player", "numbers"]
  answer_next : Def K mg "answer_next" "answer_next" s_answer_next A.f_answer_next A.d_answer_next ["player", "numbers"]
  answer_loud : Def K mg "answer_loud" "answer_loud" s_answer_loud A.f_answer_loud A.d_answer_loud ["player", "numbers"]
  answer_line_at : Def K mg "answer_line_at" "answer_line_at" s_answer_line_at A.f_answer_line_at A.d_answer_line_at ["player", "numbers"]
  answer_seek : Def K mg "answer_seek" "answer_seek" s_answer_seek A.f_answer_seek A.d_answer_seek ["player", "numbers"]
  answer_play : Def K mg "answer_play" "answer_play" s_answer_play A.f_answer_play A.d_answer_play ["player", "numbers"]
  answer_peak : Def K mg "answer_peak" "answer_peak" s_answer_peak A.f_answer_peak A.d_answer_peak ["player", "numbers"]
  answer_notes : Def K mg "answer_notes" "answer_notes" s_answer_notes A.f_answer_notes A.d_answer_notes ["player", "numbers"]
  answer_save : Def K mg "answer_save" "answer_save" s_answer_save A.f_answer_save A.d_answer_save ["player", "numbers"]
  answer_load : Def K mg "answer_load" "answer_load" s_answer_load A.f_answer_load A.d_answer_load ["player", "numbers"]
  call_end : Def K mg "call_end" "call_end" s_call_end A.f_call_end A.d_call_end ["calls", "begin"]
  answers : Def K mg "answers" "answers" s_answers A.f_answers A.d_answers ["calls"]
  c_TIME_END : ∃ t, mg "TIME_END" = some (.int (1099511627776) t)
  c_VOICE_COUNT : ∃ t, mg "VOICE_COUNT" = some (.int (8) t)
  c_MOST_NOTES : ∃ t, mg "MOST_NOTES" = some (.int (64) t)
  c_NUMBERS_END : ∃ t, mg "NUMBERS_END" = some (.int (4294967296) t)
  c_FULL : ∃ t, mg "FULL" = some (.int (256) t)
  c_MOST_POINTS : ∃ t, mg "MOST_POINTS" = some (.int (16) t)
  c_ROUND : ∃ t, mg "ROUND" = some (.int (65536) t)
  c_HALF : ∃ t, mg "HALF" = some (.int (32768) t)
  c_TOP : ∃ t, mg "TOP" = some (.int (32767) t)
  c_FULL_PRODUCT : ∃ t, mg "FULL_PRODUCT" = some (.int (16777216) t)
  c_LOWEST : ∃ t, mg "LOWEST" = some (.int (-32768) t)
  c_HIGHEST : ∃ t, mg "HIGHEST" = some (.int (32767) t)
  c_VOICE_SIZE : ∃ t, mg "VOICE_SIZE" = some (.int (5) t)
  c_NOTE_SIZE : ∃ t, mg "NOTE_SIZE" = some (.int (6) t)
  c_NOT_AS_TOLD : ∃ t, mg "NOT_AS_TOLD" = some (.int (-1) t)
  c_NO_SUCH_NOTE : ∃ t, mg "NO_SUCH_NOTE" = some (.int (-4) t)
  c_NONE_LATER : ∃ t, mg "NONE_LATER" = some (.int (-5) t)
  c_NO_ROOM : ∃ t, mg "NO_ROOM" = some (.int (-6) t)
  c_NO_ROW : ∃ t, mg "NO_ROW" = some (.int (-6) t)
  c_LONGEST_PART : ∃ t, mg "LONGEST_PART" = some (.int (256) t)
  t_GREATEST_voices : mg "GREATEST_voices" = some (.ref A.t_GREATEST_voices)
  q_GREATEST_voices : ∀ H : Hp, SqT K H A.t_GREATEST_voices [.int 3, .int 65535, .int 65535, .int 256, .int 65535]
  t_AT_FIRST : mg "AT_FIRST" = some (.ref A.t_AT_FIRST)
  q_AT_FIRST : ∀ H : Hp, SqT K H A.t_AT_FIRST [.int 0, .int 0, .int 0, .int 256, .int 0]
  t_WAVES : mg "WAVES" = some (.ref A.t_WAVES)
  q_WAVES : ∀ H : Hp, SqT K H A.t_WAVES [.ref A.f_saw, .ref A.f_square, .ref A.f_triangle, .ref A.f_arcs]
  t_GREATEST_notes : mg "GREATEST_notes" = some (.ref A.t_GREATEST_notes)
  q_GREATEST_notes : ∀ H : Hp, SqT K H A.t_GREATEST_notes [.int 7, .int 1099511627775, .int 16777216, .int 65535, .int 256]
  t_GREATEST_OF_LOUD : mg "GREATEST_OF_LOUD" = some (.ref A.t_GREATEST_OF_LOUD)
  q_GREATEST_OF_LOUD : ∀ H : Hp, SqT K H A.t_GREATEST_OF_LOUD [.int 7, .int 16777216, .int 33554432]
  t_ANSWERERS : mg "ANSWERERS" = some (.ref A.t_ANSWERERS)
  q_ANSWERERS : ∀ H : Hp, SqT K H A.t_ANSWERERS [.ref A.f_answer_voice, .ref A.f_answer_line, .ref A.f_answer_note, .ref A.f_answer_drop, .ref A.f_answer_move, .ref A.f_answer_render, .ref A.f_answer_raw, .ref A.f_answer_sounds, .ref A.f_answer_next, .ref A.f_answer_loud, .ref A.f_answer_line_at, .ref A.f_answer_seek, .ref A.f_answer_play, .ref A.f_answer_peak, .ref A.f_answer_notes, .ref A.f_answer_save, .ref A.f_answer_load]
  t_PLAIN_NUMBERS : mg "PLAIN_NUMBERS" = some (.ref A.t_PLAIN_NUMBERS)
  q_PLAIN_NUMBERS : ∀ H : Hp, SqT K H A.t_PLAIN_NUMBERS [.int 6, .int 1, .int 5, .int 1, .int 2, .int 2, .int 2, .int 1, .int 1, .int 3, .int 2, .int 1, .int 1, .int 2, .int 0, .int 0, .int 0]
  t_CALLS_WITH_ROW : mg "CALLS_WITH_ROW" = some (.ref A.t_CALLS_WITH_ROW)
  q_CALLS_WITH_ROW : ∀ H : Hp, SqT K H A.t_CALLS_WITH_ROW [.int 1, .int 16]
  b_len : mg "len" = none
  b_all : mg "all" = none
  b_zip : mg "zip" = none
  b_list : mg "list" = none
  b_range : mg "range" = none
  b_min : mg "min" = none
  b_max : mg "max" = none
  b_abs : mg "abs" = none
  b_enumerate : mg "enumerate" = none
  b_set : mg "set" = none
  x_m : mg "NoScoresRow" = some (.ref A.c_NoScoresRow)
  x_n : PySem.W.nsIn K mainGlobals "NoScoresRow" = some (some (.ref A.c_NoScoresRow))
  x_in : PySem.W.excIn K A.c_NoScoresRow (bmVE) "ValueError.__new__" = true
theorem sc_none_above : FnScope ["numbers", "greatest", "limit", "number"] ["numbers", "greatest"] (defScope s_none_above) := ⟨rfl, rfl, rfl, by decide +kernel, rfl, by decide +kernel, by decide +kernel⟩
theorem sc_points_of : FnScope ["numbers"] ["numbers"] (defScope s_points_of) := ⟨rfl, rfl, rfl, by decide +kernel, rfl, by decide +kernel, by decide +kernel⟩
theorem sc_point_numbers : FnScope ["points", "numbers", "point"] ["points"] (defScope s_point_numbers) := ⟨rfl, rfl, rfl, by decide +kernel, rfl, by decide +kernel, by decide +kernel⟩
theorem sc_points_fit : FnScope ["numbers", "least", "point"] ["numbers"] (defScope s_points_fit) := ⟨rfl, rfl, rfl, by decide +kernel, rfl, by decide +kernel, by decide +kernel⟩
theorem sc_value_between : FnScope ["earlier", "later", "t", "climb"] ["earlier", "later", "t"] (defScope s_value_between) := ⟨rfl, rfl, rfl, by decide +kernel, rfl, by decide +kernel, by decide +kernel⟩
theorem sc_line_value : FnScope ["points", "t", "earlier", "later"] ["points", "t"] (defScope s_line_value) := ⟨rfl, rfl, rfl, by decide +kernel, rfl, by decide +kernel, by decide +kernel⟩
theorem sc_Voice : FnScope ["self", "numbers"] ["self", "numbers"] (defScope s_Voice) := ⟨rfl, rfl, rfl, by decide +kernel, rfl, by decide +kernel, by decide +kernel⟩
theorem sc_voice_fits : FnScope ["numbers"] ["numbers"] (defScope s_voice_fits) := ⟨rfl, rfl, rfl, by decide +kernel, rfl, by decide +kernel, by decide +kernel⟩
theorem sc_voice_numbers : FnScope ["voice"] ["voice"] (defScope s_voice_numbers) := ⟨rfl, rfl, rfl, by decide +kernel, rfl, by decide +kernel, by decide +kernel⟩
theorem sc_held : FnScope ["voice", "k"] ["voice", "k"] (defScope s_held) := ⟨rfl, rfl, rfl, by decide +kernel, rfl, by decide +kernel, by decide +kernel⟩
theorem sc_loudness : FnScope ["voice", "length", "k"] ["voice", "length", "k"] (defScope s_loudness) := ⟨rfl, rfl, rfl, by decide +kernel, rfl, by decide +kernel, by decide +kernel⟩
theorem sc_saw : FnScope ["place"] ["place"] (defScope s_saw) := ⟨rfl, rfl, rfl, by decide +kernel, rfl, by decide +kernel, by decide +kernel⟩
theorem sc_square : FnScope ["place"] ["place"] (defScope s_square) := ⟨rfl, rfl, rfl, by decide +kernel, rfl, by decide +kernel, by decide +kernel⟩
theorem sc_triangle : FnScope ["place"] ["place"] (defScope s_triangle) := ⟨rfl, rfl, rfl, by decide +kernel, rfl, by decide +kernel, by decide +kernel⟩
theorem sc_arcs : FnScope ["place", "within", "height"] ["place"] (defScope s_arcs) := ⟨rfl, rfl, rfl, by decide +kernel, rfl, by decide +kernel, by decide +kernel⟩
theorem sc_wave_value : FnScope ["wave", "place"] ["wave", "place"] (defScope s_wave_value) := ⟨rfl, rfl, rfl, by decide +kernel, rfl, by decide +kernel, by decide +kernel⟩
theorem sc_Note : FnScope ["self", "number", "numbers"] ["self", "number", "numbers"] (defScope s_Note) := ⟨rfl, rfl, rfl, by decide +kernel, rfl, by decide +kernel, by decide +kernel⟩
theorem sc_note_fits : FnScope ["numbers"] ["numbers"] (defScope s_note_fits) := ⟨rfl, rfl, rfl, by decide +kernel, rfl, by decide +kernel, by decide +kernel⟩
theorem sc_note_numbers : FnScope ["note"] ["note"] (defScope s_note_numbers) := ⟨rfl, rfl, rfl, by decide +kernel, rfl, by decide +kernel, by decide +kernel⟩
theorem sc_note_end : FnScope ["note", "voice"] ["note", "voice"] (defScope s_note_end) := ⟨rfl, rfl, rfl, by decide +kernel, rfl, by decide +kernel, by decide +kernel⟩
theorem sc_sounds_at : FnScope ["note", "voice", "t"] ["note", "voice", "t"] (defScope s_sounds_at) := ⟨rfl, rfl, rfl, by decide +kernel, rfl, by decide +kernel, by decide +kernel⟩
theorem sc_given_at : FnScope ["note", "voice", "value", "t", "k", "wave"] ["note", "voice", "value", "t"] (defScope s_given_at) := ⟨rfl, rfl, rfl, by decide +kernel, rfl, by decide +kernel, by decide +kernel⟩
theorem sc_Score : FnScope ["self", "number"] ["self"] (defScope s_Score) := ⟨rfl, rfl, rfl, by decide +kernel, rfl, by decide +kernel, by decide +kernel⟩
theorem sc_voice_of : FnScope ["score", "note"] ["score", "note"] (defScope s_voice_of) := ⟨rfl, rfl, rfl, by decide +kernel, rfl, by decide +kernel, by decide +kernel⟩
theorem sc_note_numbered : FnScope ["score", "number", "note"] ["score", "number"] (defScope s_note_numbered) := ⟨rfl, rfl, rfl, by decide +kernel, rfl, by decide +kernel, by decide +kernel⟩
theorem sc_sounding : FnScope ["score", "t", "note"] ["score", "t"] (defScope s_sounding) := ⟨rfl, rfl, rfl, by decide +kernel, rfl, by decide +kernel, by decide +kernel⟩
theorem sc_next_change : FnScope ["score", "t", "begins", "ends", "note", "time"] ["score", "t"] (defScope s_next_change) := ⟨rfl, rfl, rfl, by decide +kernel, rfl, by decide +kernel, by decide +kernel⟩
theorem sc_heard_within : FnScope ["score", "first", "end", "note"] ["score", "first", "end"] (defScope s_heard_within) := ⟨rfl, rfl, rfl, by decide +kernel, rfl, by decide +kernel, by decide +kernel⟩
theorem sc_line_part : FnScope ["points", "first", "n", "t"] ["points", "first", "n"] (defScope s_line_part) := ⟨rfl, rfl, rfl, by decide +kernel, rfl, by decide +kernel, by decide +kernel⟩
theorem sc_note_part : FnScope ["score", "note", "values", "first", "voice", "t", "value"] ["score", "note", "values", "first"] (defScope s_note_part) := ⟨rfl, rfl, rfl, by decide +kernel, rfl, by decide +kernel, by decide +kernel⟩
theorem sc_sums : FnScope ["score", "first", "n", "totals", "values", "note", "part", "given", "points", "total"] ["score", "first", "n"] (defScope s_sums) := ⟨rfl, rfl, rfl, by decide +kernel, rfl, by decide +kernel, by decide +kernel⟩
theorem sc_samples : FnScope ["score", "first", "n", "total"] ["score", "first", "n"] (defScope s_samples) := ⟨rfl, rfl, rfl, by decide +kernel, rfl, by decide +kernel, by decide +kernel⟩
theorem sc_peak : FnScope ["score", "first", "n", "greatest", "time", "t", "sample"] ["score", "first", "n"] (defScope s_peak) := ⟨rfl, rfl, rfl, by decide +kernel, rfl, by decide +kernel, by decide +kernel⟩
theorem sc_Reader : FnScope ["self", "row"] ["self", "row"] (defScope s_Reader) := ⟨rfl, rfl, rfl, by decide +kernel, rfl, by decide +kernel, by decide +kernel⟩
theorem sc_row_of : FnScope ["score", "row", "voice", "points", "note"] ["score"] (defScope s_row_of) := ⟨rfl, rfl, rfl, by decide +kernel, rfl, by decide +kernel, by decide +kernel⟩
theorem sc_read : FnScope ["reader", "n", "end", "numbers"] ["reader", "n"] (defScope s_read) := ⟨rfl, rfl, rfl, by decide +kernel, rfl, by decide +kernel, by decide +kernel⟩
theorem sc_read_count : FnScope ["reader", "most", "count"] ["reader", "most"] (defScope s_read_count) := ⟨rfl, rfl, rfl, by decide +kernel, rfl, by decide +kernel, by decide +kernel⟩
theorem sc_read_voice : FnScope ["reader", "numbers"] ["reader"] (defScope s_read_voice) := ⟨rfl, rfl, rfl, by decide +kernel, rfl, by decide +kernel, by decide +kernel⟩
theorem sc_read_line : FnScope ["reader", "numbers"] ["reader"] (defScope s_read_line) := ⟨rfl, rfl, rfl, by decide +kernel, rfl, by decide +kernel, by decide +kernel⟩
theorem sc_read_next_number : FnScope ["reader", "number"] ["reader"] (defScope s_read_next_number) := ⟨rfl, rfl, rfl, by decide +kernel, rfl, by decide +kernel, by decide +kernel⟩
theorem sc_read_note : FnScope ["reader", "numbers"] ["reader"] (defScope s_read_note) := ⟨rfl, rfl, rfl, by decide +kernel, rfl, by decide +kernel, by decide +kernel⟩
theorem sc_read_notes : FnScope ["reader", "next_number", "notes", "numbers", "note", "number", "place"] ["reader", "next_number"] (defScope s_read_notes) := ⟨rfl, rfl, rfl, by decide +kernel, rfl, by decide +kernel, by decide +kernel⟩
theorem sc_score_of : FnScope ["row", "reader", "score", "v"] ["row"] (defScope s_score_of) := ⟨rfl, rfl, rfl, by decide +kernel, rfl, by decide +kernel, by decide +kernel⟩
theorem sc_Player : FnScope ["self"] ["self"] (defScope s_Player) := ⟨rfl, rfl, rfl, by decide +kernel, rfl, by decide +kernel, by decide +kernel⟩
theorem sc_with_lists : FnScope ["number", "lists", "answer", "numbers"] ["number", "lists"] (defScope s_with_lists) := ⟨rfl, rfl, rfl, by decide +kernel, rfl, by decide +kernel, by decide +kernel⟩
theorem sc_part_fits : FnScope ["first", "n"] ["first", "n"] (defScope s_part_fits) := ⟨rfl, rfl, rfl, by decide +kernel, rfl, by decide +kernel, by decide +kernel⟩
theorem sc_answer_voice : FnScope ["player", "numbers", "v", "score"] ["player", "numbers"] (defScope s_answer_voice) := ⟨rfl, rfl, rfl, by decide +kernel, rfl, by decide +kernel, by decide +kernel⟩
theorem sc_answer_line : FnScope ["player", "numbers", "v", "score"] ["player", "numbers"] (defScope s_answer_line) := ⟨rfl, rfl, rfl, by decide +kernel, rfl, by decide +kernel, by decide +kernel⟩
theorem sc_answer_note : FnScope ["player", "numbers", "score", "number"] ["player", "numbers"] (defScope s_answer_note) := ⟨rfl, rfl, rfl, by decide +kernel, rfl, by decide +kernel, by decide +kernel⟩
theorem sc_answer_drop : FnScope ["player", "numbers", "score", "dropped", "note"] ["player", "numbers"] (defScope s_answer_drop) := ⟨rfl, rfl, rfl, by decide +kernel, rfl, by decide +kernel, by decide +kernel⟩
theorem sc_answer_move : FnScope ["player", "numbers", "note"] ["player", "numbers"] (defScope s_answer_move) := ⟨rfl, rfl, rfl, by decide +kernel, rfl, by decide +kernel, by decide +kernel⟩
theorem sc_answer_render : FnScope ["player", "numbers"] ["player", "numbers"] (defScope s_answer_render) := ⟨rfl, rfl, rfl, by decide +kernel, rfl, by decide +kernel, by decide +kernel⟩
theorem sc_answer_raw : FnScope ["player", "numbers"] ["player", "numbers"] (defScope s_answer_raw) := ⟨rfl, rfl, rfl, by decide +kernel, rfl, by decide +kernel, by decide +kernel⟩
theorem sc_answer_sounds : FnScope ["player", "numbers", "found"] ["player", "numbers"] (defScope s_answer_sounds) := ⟨rfl, rfl, rfl, by decide +kernel, rfl, by decide +kernel, by decide +kernel⟩
theorem sc_answer_next : FnScope ["player", "numbers", "found"] ["player", "numbers"] (defScope s_answer_next) := ⟨rfl, rfl, rfl, by decide +kernel, rfl, by decide +kernel, by decide +kernel⟩
theorem sc_answer_loud : FnScope ["player", "numbers"] ["player", "numbers"] (defScope s_answer_loud) := ⟨rfl, rfl, rfl, by decide +kernel, rfl, by decide +kernel, by decide +kernel⟩
theorem sc_answer_line_at : FnScope ["player", "numbers"] ["player", "numbers"] (defScope s_answer_line_at) := ⟨rfl, rfl, rfl, by decide +kernel, rfl, by decide +kernel, by decide +kernel⟩
theorem sc_answer_seek : FnScope ["player", "numbers"] ["player", "numbers"] (defScope s_answer_seek) := ⟨rfl, rfl, rfl, by decide +kernel, rfl, by decide +kernel, by decide +kernel⟩
theorem sc_answer_play : FnScope ["player", "numbers", "first", "n"] ["player", "numbers"] (defScope s_answer_play) := ⟨rfl, rfl, rfl, by decide +kernel, rfl, by decide +kernel, by decide +kernel⟩
theorem sc_answer_peak : FnScope ["player", "numbers", "found"] ["player", "numbers"] (defScope s_answer_peak) := ⟨rfl, rfl, rfl, by decide +kernel, rfl, by decide +kernel, by decide +kernel⟩
theorem sc_answer_notes : FnScope ["player", "numbers", "found", "note"] ["player", "numbers"] (defScope s_answer_notes) := ⟨rfl, rfl, rfl, by decide +kernel, rfl, by decide +kernel, by decide +kernel⟩
theorem sc_answer_save : FnScope ["player", "numbers", "row"] ["player", "numbers"] (defScope s_answer_save) := ⟨rfl, rfl, rfl, by decide +kernel, rfl, by decide +kernel, by decide +kernel⟩
theorem sc_answer_load : FnScope ["player", "numbers"] ["player", "numbers"] (defScope s_answer_load) := ⟨rfl, rfl, rfl, by decide +kernel, rfl, by decide +kernel, by decide +kernel⟩
theorem sc_call_end : FnScope ["calls", "begin", "end"] ["calls", "begin"] (defScope s_call_end) := ⟨rfl, rfl, rfl, by decide +kernel, rfl, by decide +kernel, by decide +kernel⟩
theorem sc_answers : FnScope ["calls", "player", "given", "begin", "end", "answer"] ["calls"] (defScope s_answers) := ⟨rfl, rfl, rfl, by decide +kernel, rfl, by decide +kernel, by decide +kernel⟩

section
variable {X : Cx} {CX : CXT} {k : Nat} {x qual : Str} {st : Stmt} {f C : Addr} {fd : FuncData} {ps flds : List Str} {sp : Sp} {E : XK} {e : Expr} {es : List Expr} {t : TA} {p pos : Pos}
/-- f(..): the promise of f at its arguments -/
def tF (sp : Sp) (E : XK) (t : TA) : TE := fun σ H Q => t σ H fun vs H1 => sp vs H1 Q E
theorem pcall (D : Def X.K X.mg x qual st f fd ps) (F : FnOk X.prog X.w X.K X.mg X.base CX k f fd ps sp) (hr : Room k X.A) (hx : Passes CX X E) (ha : PA X (e :: es) t) (hg : Gl X x := by rfl)
    (hdb : (x == ("__debug__" : Str)) = false := by decide) (he : starEach (e :: es) X.env = (false, eval e X.env) :: starEach es X.env := by rfl) (hpl : (backTo pos (starEach es X.env)).any (·.1) = false := by rfl) :
    PE X (.Call (.Name x p) (e :: es) [] pos) (tF sp E t) := by
  have q := pe_call (p := p) (pos := pos) (dvs := []) (ds := []) F hr hg D.m D.fn.kp D.b .nil hx ha hdb he hpl
  have z : tCall sp [] E t = tF sp E t := by
    funext σ H Q
    unfold tCall tF
    congr
    funext vs H1
    rw [List.append_nil]
  rw [z] at q
  exact q
def tM (C : Addr) (sp : Sp) (E : XK) (t : TA) : TE := fun σ H Q => t σ H fun vs H1 => ∀ x dx, H1 x = none → H1 dx = none → dx ≠ x → sp (.ref x :: vs) (upd (upd H1 dx (.own x)) x (.ins C dx [])) (fun v H2 => v = .non ∧ Q (.ref x) H2) E
theorem pmake (D : Cla X.K X.mg x qual st C f fd ps flds) (F : FnOk X.prog X.w X.K X.mg X.base CX k f fd ps sp) (hr : Room (k + 1) X.A) (hx : Passes CX X E) (ha : PA X (e :: es) t) (hg : Gl X x := by rfl)
    (hdb : (x == ("__debug__" : Str)) = false := by decide) (he : starEach (e :: es) X.env = (false, eval e X.env) :: starEach es X.env := by rfl) (hpl : (backTo pos (starEach es X.env)).any (·.1) = false := by rfl) :
    PE X (.Call (.Name x p) (e :: es) [] pos) (tM C sp E t) := by
  have q := pe_make (p := p) (pos := pos) (dvs := []) (ds := []) D.made F hr hg D.m D.b .nil hx ha hdb he hpl
  have z : tMake C sp [] E t = tM C sp E t := by
    funext σ H Q
    unfold tMake tM
    congr
    funext vs H1
    rw [List.append_nil]
  rw [z] at q
  exact q
theorem pmake0 (D : Cla X.K X.mg x qual st C f fd ps flds) (F : FnOk X.prog X.w X.K X.mg X.base CX k f fd ps sp) (hr : Room (k + 1) X.A) (hx : Passes CX X E) (hg : Gl X x := by rfl) (hdb : (x == ("__debug__" : Str)) = false := by decide) :
    PE X (.Call (.Name x p) [] [] pos) (tM C sp E tNil) := pe_make0 (p := p) (pos := pos) (dvs := []) (ds := []) D.made F hr hg D.m D.b .nil hx hdb
end
theorem pe_fldK {X : Cx} (K : PySem.W.Frag) {e : Expr} {f : Str} {pos : Pos} {ta : TE} (hK : X.K = K) (he : PE X e ta) (hb : attributeBase e f X.env (eval e X.env) = eval e X.env) : PE X (.Attribute e f pos) (tFld K ta f) := by
  subst hK
  exact pe_fld he hb
theorem pg_two {X : Cx} (K : PySem.W.Frag) (i j : Nat) {x y : Str} {k : Nat} {pos px py : Pos} (hK : X.K = K) (hc : X.calm = true) (hN : X.N.Nodup) (hi : X.N[i]? = some x) (hj : X.N[j]? = some y) (hx : X.env.scope.names.lookup x = some .local) (hy : X.env.scope.names.lookup y = some .local) :
    PG X (.Tuple [.Name x px, .Name y py] k pos) (gTup K 2 (gCons (gName i) (gCons (gName j) gNil))) := by
  subst hK
  exact pg_tup (n := 2) hc (pgs_cons (pg_name hN hi (.inl hx) (.inr hx)) (pgs_cons (pg_name hN hj (.inl hy) (.inr hy)) pgs_nil)) rfl rfl
/-! ### what stands in the heap -/
open ScoreNs
abbrev iv (n : Nat) : V := .int (n : Int)
abbrev nv (l : List Nat) : List V := l.map iv
def voiceF (v : Voice) : List (Str × V) := [("wave", iv v.wave), ("rise", iv v.rise), ("fall", iv v.fall), ("stay", iv v.stay), ("fade", iv v.fade)]
def noteF (n : Note) : List (Str × V) := [("number", iv n.id), ("voice_number", iv n.voice), ("at", iv n.at_), ("length", iv n.len), ("step", iv n.step), ("level", iv n.level)]
def scoreF (lv ll ln : Addr) (n : Nat) : List (Str × V) := [("voices", .ref lv), ("lines", .ref ll), ("notes", .ref ln), ("next_number", iv n)]
def VoiceAt (A : Adr) (H : Hp) (a : Addr) (v : Voice) : Prop := ∃ dx, H a = some (.ins A.c_Voice dx (voiceF v))
def NoteAt (A : Adr) (H : Hp) (a : Addr) (n : Note) : Prop := ∃ dx, H a = some (.ins A.c_Note dx (noteF n))
def PtAt (H : Hp) (q : Addr × (Nat × Nat)) : Prop := H q.1 = some (.tup [iv q.2.1, iv q.2.2])
def LineAt (H : Hp) (l : Addr) (pt : Line) : Prop := ∃ qs : List (Addr × (Nat × Nat)), H l = some (.lst (qs.map fun q => .ref q.1)) ∧ (∀ q ∈ qs, PtAt H q) ∧ qs.map (·.2) = pt
structure Sc (A : Adr) (H : Hp) (a : Addr) (s : Score) (dx lv ll ln : Addr) (vp : List (Addr × Voice)) (lp : List (Addr × Line)) (np : List (Addr × Note)) : Prop where
  ob : H a = some (.ins A.c_Score dx (scoreF lv ll ln s.next))
  hv : H lv = some (.lst (vp.map fun p => .ref p.1))
  vs : ∀ p ∈ vp, VoiceAt A H p.1 p.2
  ve : vp.map (·.2) = s.voices
  hl : H ll = some (.lst (lp.map fun p => .ref p.1))
  ls : ∀ p ∈ lp, LineAt H p.1 p.2
  le : lp.map (·.2) = s.lines
  hn : H ln = some (.lst (np.map fun p => .ref p.1))
  ns : ∀ p ∈ np, NoteAt A H p.1 p.2
  ne : np.map (·.2) = s.notes
  d1 : lv ≠ ll
  d2 : lv ≠ ln
  d3 : ll ≠ ln
  d4 : ∀ p ∈ lp, p.1 ≠ lv ∧ p.1 ≠ ll ∧ p.1 ≠ ln
  nd : (np.map (·.1)).Nodup
/-- a score, the addresses that its calls may write -/
def ScoreAt (A : Adr) (H : Hp) (a : Addr) (s : Score) (F : List Addr) : Prop := ∃ dx lv ll ln vp lp np, Sc A H a s dx lv ll ln vp lp np ∧ F = a :: lv :: ll :: ln :: (lp.map (·.1) ++ np.map (·.1))
def playerF (a : Addr) (n : Nat) : List (Str × V) := [("score", .ref a), ("place", iv n)]
def PlayerAt (A : Adr) (H : Hp) (p : Addr) (st : State) (F : List Addr) : Prop := ∃ dx a G, H p = some (.ins A.c_Player dx (playerF a st.place)) ∧ ScoreAt A H a st.score G ∧ F = p :: G
theorem VoiceAt.same {A : Adr} {H H' : Hp} {a : Addr} {v : Voice} (x : VoiceAt A H a v) (e : Same H H') : VoiceAt A H' a v := let ⟨dx, h⟩ := x; ⟨dx, e _ _ h⟩
theorem NoteAt.same {A : Adr} {H H' : Hp} {a : Addr} {v : Note} (x : NoteAt A H a v) (e : Same H H') : NoteAt A H' a v := let ⟨dx, h⟩ := x; ⟨dx, e _ _ h⟩
theorem LineAt.same {H H' : Hp} {a : Addr} {v : Line} (x : LineAt H a v) (e : Same H H') : LineAt H' a v := let ⟨qs, h1, h2, h3⟩ := x; ⟨qs, e _ _ h1, fun q hq => e _ _ (h2 q hq), h3⟩
theorem Sc.same {A : Adr} {H H' : Hp} {a dx lv ll ln : Addr} {s : Score} {vp : List (Addr × Voice)} {lp : List (Addr × Line)} {np : List (Addr × Note)} (x : Sc A H a s dx lv ll ln vp lp np) (e : Same H H') : Sc A H' a s dx lv ll ln vp lp np :=
  ⟨e _ _ x.ob, e _ _ x.hv, fun p hp => (x.vs p hp).same e, x.ve, e _ _ x.hl, fun p hp => (x.ls p hp).same e, x.le, e _ _ x.hn, fun p hp => (x.ns p hp).same e, x.ne, x.d1, x.d2, x.d3, x.d4, x.nd⟩
theorem ScoreAt.same {A : Adr} {H H' : Hp} {a : Addr} {s : Score} {F : List Addr} (x : ScoreAt A H a s F) (e : Same H H') : ScoreAt A H' a s F :=
  let ⟨dx, lv, ll, ln, vp, lp, np, h, f⟩ := x; ⟨dx, lv, ll, ln, vp, lp, np, h.same e, f⟩
theorem PlayerAt.same {A : Adr} {H H' : Hp} {p : Addr} {st : State} {F : List Addr} (x : PlayerAt A H p st F) (e : Same H H') : PlayerAt A H' p st F :=
  let ⟨dx, a, G, h1, h2, h3⟩ := x; ⟨dx, a, G, e _ _ h1, h2.same e, h3⟩
theorem iteB {b : Bool} {A B : Prop} (h1 : b = true → A) (h2 : b = false → B) : if b = true then A else B := by
  cases b
  · exact h2 rfl
  · exact h1 rfl
/-- a test of two ints -/
theorem tst {c : Prop} {d : Decidable c} {R : Bool → Prop} (h1 : c → R true) (h0 : ¬ c → R false) : ∃ k, V.bl (@decide c d) = V.bl k ∧ R k := by
  cases d with
  | isTrue h => exact ⟨true, rfl, h1 h⟩
  | isFalse h => exact ⟨false, rfl, h0 h⟩
theorem iteD {c : Prop} [inst : Decidable c] {A B : Prop} (h1 : c → A) (h2 : ¬ c → B) : if decide c = true then A else B := iteB (fun h => h1 (of_decide_eq_true h)) fun h => h2 (of_decide_eq_false h)
theorem Same.new {H : Hp} {l : Addr} {o : HO} (h : H l = Option.none) : Same H (upd H l o) := fun b u e => by
  rw [upd_ne (ne_of_none e h)]
  exact e
theorem SqT.same {K : PySem.W.Frag} {H H' : Hp} {a : Addr} {xs : List V} (e : Same H H') (h : SqT K H a xs) : SqT K H' a xs := by
  rcases h with (h | ⟨o, h⟩) | h
  · exact .inl (.inl (e _ _ h))
  · exact .inl (.inr ⟨o, e _ _ h⟩)
  · exact .inr h
end Sb
end
section
set_option Elab.async false
set_option linter.all false
set_option maxRecDepth 100000
set_option maxHeartbeats 4000000
namespace Sb
open PySem PySem.Spec PyProof.Rows L2 ScoreNs Mu
section
variable {P : Program} {w : World} {K : PySem.W.Frag} {mg : Str → Option Value} {base : Heap} {A : Adr}
/-! ### waves -/
def spW (i : Nat) : Sp := fun vs H Q _ => ∃ p : Nat, vs = [iv p] ∧ p < 65536 ∧ Q (.int (wave i p)) H
theorem ok_saw (T : Txt K mg A) : FnOk P w K mg base CX0 1 A.f_saw A.d_saw ["place"] (spW 0) := by
  refine T.saw.fn.ok sc_saw (fun vs H Q E h => ?_) (fun cdv A' outer s H vs Q E hr h => ?_)
  · obtain ⟨p, rfl, _⟩ := h; rfl
  · obtain ⟨p, rfl, hp, k⟩ := h
    refine ⟨_, (pss_one (ps_ret (pe_op op_sub (pv 0) (pe_gi rfl T.c_HALF)))), ?_⟩
    exact ⟨_, rfl, _, _, rfl, rfl, k⟩
theorem ok_square (T : Txt K mg A) : FnOk P w K mg base CX0 1 A.f_square A.d_square ["place"] (spW 1) := by
  refine T.square.fn.ok sc_square (fun vs H Q E h => ?_) (fun cdv A' outer s H vs Q E hr h => ?_)
  · obtain ⟨p, rfl, _⟩ := h; rfl
  · obtain ⟨p, rfl, hp, k⟩ := h
    refine ⟨_, (pss_cons (ps_if (pt_cmpR op_lt (pv 0) (pe_gi rfl T.c_HALF) (nomark _))
  (pss_one (ps_ret (pe_gi rfl T.c_TOP)))
  pss_nil)
  (pss_one (ps_ret (pe_un un_neg (pe_gi rfl T.c_HALF))))), ?_⟩
    rw [wave1_int] at k
    refine ⟨_, rfl, _, _, rfl, rfl, tst (fun h => iteT ?_) fun h => iteF ?_⟩
    · rw [if_pos h] at k; exact k
    · rw [if_neg h] at k; exact ⟨_, rfl, k⟩
theorem ok_triangle (T : Txt K mg A) : FnOk P w K mg base CX0 1 A.f_triangle A.d_triangle ["place"] (spW 2) := by
  refine T.triangle.fn.ok sc_triangle (fun vs H Q E h => ?_) (fun cdv A' outer s H vs Q E hr h => ?_)
  · obtain ⟨p, rfl, _⟩ := h; rfl
  · obtain ⟨p, rfl, hp, k⟩ := h
    refine ⟨_, (pss_cons (ps_if (pt_cmpR op_lt (pv 0) (pe_gi rfl T.c_HALF) (nomark _))
  (pss_one (ps_ret (pe_op op_sub (pe_op op_mul pe_int (pv 0)) (pe_gi rfl T.c_HALF))))
  pss_nil)
  (pss_one (ps_ret (pe_op op_sub pe_int (pe_op op_mul pe_int (pv 0)))))), ?_⟩
    rw [wave2_int] at k
    refine ⟨_, rfl, _, _, rfl, rfl, tst (fun h => iteT ?_) fun h => iteF ?_⟩
    · rw [if_pos h] at k; exact ⟨_, rfl, _, _, rfl, rfl, .inl ⟨by decide, by decide⟩, _, _, rfl, rfl, k⟩
    · rw [if_neg h] at k; exact ⟨_, rfl, _, _, rfl, rfl, .inl ⟨by decide, by decide⟩, _, _, rfl, rfl, k⟩
theorem ok_arcs (T : Txt K mg A) : FnOk P w K mg base CX0 1 A.f_arcs A.d_arcs ["place"] (spW 3) := by
  refine T.arcs.fn.ok sc_arcs (fun vs H Q E h => ?_) (fun cdv A' outer s H vs Q E hr h => ?_)
  · obtain ⟨p, rfl, _⟩ := h; rfl
  · obtain ⟨p, rfl, hp, k⟩ := h
    refine ⟨_, (pss_cons (ps_set (i := 1) sc_arcs.nd rfl (Or.inl rfl) (pe_op op_mod (pv 0) (pe_gi rfl T.c_HALF)))
  (pss_cons (ps_set (i := 2) sc_arcs.nd rfl (Or.inl rfl) (pe_op op_fdivL (pe_op op_mul (pe_op op_mul pe_int (pv 1)) (pe_op op_sub (pe_gi rfl T.c_HALF) (pv 1))) (pe_gi rfl T.c_HALF)))
  (pss_cons (ps_if (pt_cmpR op_lt (pv 0) (pe_gi rfl T.c_HALF) (nomark _))
  (pss_one (ps_ret (pe_callB (call_min2 rfl) (by rfl) T.b_min boot_min5 (pa_cons (pv 2) (pa_cons (pe_gi rfl T.c_TOP) pa_nil)))))
  pss_nil)
  (pss_one (ps_ret (pe_un un_neg (pv 2))))))), ?_⟩
    rw [wave3_int] at k
    refine ⟨_, rfl, _, _, rfl, rfl, (by show (0 : Int) < 32768; decide), ?_⟩
    refine ⟨_, rfl, _, _, rfl, rfl, .inl ⟨by decide, by decide⟩, _, rfl, _, _, rfl, rfl, _, _, rfl, rfl, .inl ⟨by omega, by omega⟩, _, _, rfl, rfl, ⟨by decide, by decide⟩, ?_⟩
    refine ⟨_, rfl, _, _, rfl, rfl, tst (fun h => iteT ?_) fun h => iteF ?_⟩
    · rw [if_pos h] at k; exact ⟨_, rfl, _, _, rfl, k⟩
    · rw [if_neg h] at k; exact ⟨_, rfl, _, rfl, k⟩
def sp_wave_value : Sp := fun vs H Q _ => ∃ u p : Nat, vs = [iv u, iv p] ∧ u ≤ 3 ∧ p < 65536 ∧ Q (.int (wave u p)) H
theorem ok_wave_value (T : Txt K mg A) : FnOk P w K mg base CX0 2 A.f_wave_value A.d_wave_value ["wave", "place"] sp_wave_value := by
  refine T.wave_value.fn.ok sc_wave_value (fun vs H Q E h => ?_) (fun cdv A' outer s H vs Q E hr h => ?_)
  · obtain ⟨u, p, rfl, _⟩ := h; rfl
  · obtain ⟨u, p, rfl, hu, hp, k⟩ := h
    refine ⟨_, (pss_one (ps_ret (pe_callV (pe_ix ix_tup (pe_gr rfl T.t_WAVES) (pv 0) (fun _ _ => rfl)) (pa_cons (pv 1) pa_nil)))), ?_⟩
    have hix : ∀ v, ([V.ref A.f_saw, .ref A.f_square, .ref A.f_triangle, .ref A.f_arcs] : List V)[u]? = some v → atI ([V.ref A.f_saw, .ref A.f_square, .ref A.f_triangle, .ref A.f_arcs] : List V) (u : Int) = some v := fun v e => atI_nat e
    match u, hu, k, hix with
    | 0, _, k, hix => exact ⟨_, rfl, _, _, _, _, rfl, rfl, T.q_WAVES H, hix _ rfl, _, rfl, T.saw.fn.kp, _, rfl, 1, _, _, _, ok_saw T, hr, T.saw.b, p, rfl, hp, k⟩
    | 1, _, k, hix => exact ⟨_, rfl, _, _, _, _, rfl, rfl, T.q_WAVES H, hix _ rfl, _, rfl, T.square.fn.kp, _, rfl, 1, _, _, _, ok_square T, hr, T.square.b, p, rfl, hp, k⟩
    | 2, _, k, hix => exact ⟨_, rfl, _, _, _, _, rfl, rfl, T.q_WAVES H, hix _ rfl, _, rfl, T.triangle.fn.kp, _, rfl, 1, _, _, _, ok_triangle T, hr, T.triangle.b, p, rfl, hp, k⟩
    | 3, _, k, hix => exact ⟨_, rfl, _, _, _, _, rfl, rfl, T.q_WAVES H, hix _ rfl, _, rfl, T.arcs.fn.kp, _, rfl, 1, _, _, _, ok_arcs T, hr, T.arcs.b, p, rfl, hp, k⟩
end
end Sb
end
section
set_option Elab.async false
set_option linter.all false
set_option maxRecDepth 100000
set_option maxHeartbeats 4000000
namespace Sb
open PySem PySem.Spec PyProof.Rows L2 ScoreNs Mu
/-! ### walks of comprehensions and loops over zip, enumerate -/
section
variable {K : PySem.W.Frag} {g : TG} {tt : TT} {te : TE} {vs : List Nat} {σ : L2.St} {H1 : Hp} {D : Addr} {Qd : Hp → Prop}
/-- a walk whose item i is a new pair -/
structure Pairing (J : It) (n : Nat) (f : Nat → V × V) (Pv : Nat → Hp → Prop) : Prop where
  go : ∀ i H, i < n → Pv i H → J.go i H
  yld : ∀ i H v H', i < n → Pv i H → J.yld i H v H' → ∃ T, v = .ref T ∧ H T = none ∧ H' = upd H T (.tup [(f i).1, (f i).2])
  stop : ∀ H, Pv n H → J.stop n H
theorem lc_pair {J : It} {n : Nat} {f : Nat → V × V} (Pv : Nat → Hp → Prop) (p : Pairing J n f Pv) (h0 : Pv 0 (upd H1 D (.lst [])))
    (hs : ∀ i H T, i < n → Pv i H → H T = none → g (.ref T) (wipe σ vs) (upd H T (.tup [(f i).1, (f i).2])) fun σ2 H2 => wipe σ2 vs = wipe σ vs ∧ tt σ2 H2 fun b H3 =>
      if b = true then te σ2 H3 fun y H4 => ∃ acc, H4 D = some (.lst acc) ∧ acc.length < sizeLine ∧ Pv (i + 1) (upd H4 D (.lst (acc ++ [y]))) else Pv (i + 1) H3) (hd : ∀ H, Pv n H → Qd H) :
    ∃ W : Nat → Nat → Hp → Prop, (∃ m, W 0 m (upd H1 D (.lst []))) ∧ ∀ i m H, W i m H →
      (J.stop i H ∧ Qd H) ∨ (J.go i H ∧ ∃ Nx : Hp → Prop, (∀ H', Nx H' → ∃ m', m' < m ∧ W (i + 1) m' H') ∧ ∀ x H', J.yld i H x H' → g x (wipe σ vs) H' fun σ2 H2 => wipe σ2 vs = wipe σ vs ∧ tt σ2 H2 fun b H3 =>
        if b = true then te σ2 H3 fun y H4 => ∃ acc, H4 D = some (.lst acc) ∧ acc.length < sizeLine ∧ Nx (upd H4 D (.lst (acc ++ [y]))) else Nx H3) := by
  refine ⟨fun i m H => m = n - i ∧ i ≤ n ∧ Pv i H, ⟨n, by simp, Nat.zero_le _, h0⟩, ?_⟩
  rintro i m H ⟨rfl, hi, q⟩
  by_cases hlt : i < n
  · refine .inr ⟨p.go i H hlt q, Pv (i + 1), fun H' p' => ⟨n - (i + 1), by omega, rfl, hlt, p'⟩, fun x H' y => ?_⟩
    obtain ⟨T, e1, e2, e3⟩ := p.yld i H x H' hlt q y
    subst e1 e3
    exact hs i _ T hlt q e2
  · have e : i = n := by omega
    subst e
    exact .inl ⟨p.stop H q, hd H q⟩
theorem for_pair {J : It} {n : Nat} {f : Nat → V × V} {tb : TS} {Dn : Ends} (Pv : Nat → L2.St → Hp → Prop) (p : Pairing J n f fun i H => ∃ σ, Pv i σ H) (h0 : Pv 0 σ H1)
    (hs : ∀ i σ H T, i < n → Pv i σ H → H T = none → g (.ref T) σ (upd H T (.tup [(f i).1, (f i).2])) fun σ2 H2 => tb { Dn with nx := Pv (i + 1), ct := Pv (i + 1), bk := Dn.nx } σ2 H2) (hd : ∀ σ H, Pv n σ H → Dn.nx σ H) :
    ∃ W : Nat → Nat → L2.St → Hp → Prop, (∃ m, W 0 m σ H1) ∧ ∀ i m σ H, W i m σ H →
      (J.stop i H ∧ Dn.nx σ H) ∨ (J.go i H ∧ ∃ N : L2.St → Hp → Prop, (∀ σ' H', N σ' H' → ∃ m', m' < m ∧ W (i + 1) m' σ' H') ∧ ∀ x H', J.yld i H x H' → g x σ H' fun σ2 H2 => tb { Dn with nx := N, ct := N, bk := Dn.nx } σ2 H2) := by
  refine ⟨fun i m σ H => m = n - i ∧ i ≤ n ∧ Pv i σ H, ⟨n, by simp, Nat.zero_le _, h0⟩, ?_⟩
  rintro i m σ H ⟨rfl, hi, q⟩
  by_cases hlt : i < n
  · refine .inr ⟨p.go i H hlt ⟨σ, q⟩, Pv (i + 1), fun σ' H' p' => ⟨n - (i + 1), by omega, rfl, hlt, p'⟩, fun x H' y => ?_⟩
    obtain ⟨T, e1, e2, e3⟩ := p.yld i H x H' hlt ⟨σ, q⟩ y
    subst e1 e3
    exact hs i σ _ T hlt q e2
  · have e : i = n := by omega
    subst e
    exact .inl ⟨p.stop H ⟨σ, q⟩, hd σ H q⟩
theorem yesI {σ : L2.St} {H : Hp} {A B : Hp → Prop} (h : A H) : tYes σ H fun b H3 => if b = true then A H3 else B H3 := by
  exact iteT (B := B H) h
def at2 (xs ys : List V) (i : Nat) : V × V := (xs.getD i .non, ys.getD i .non)
theorem getD_some {xs : List V} {i : Nat} {x : V} (h : xs[i]? = some x) : xs.getD i .non = x := by
  rw [List.getD_eq_getElem?_getD, h]; rfl
theorem pairing_zipT {a b : Addr} {xs ys : List V} {n : Nat} {Pv : Nat → Hp → Prop} (hn : n = min xs.length ys.length) (hl : ∀ i H, i ≤ n → Pv i H → SqL K H a xs ∧ SqT K H b ys) : Pairing (ItzT K a b) n (at2 xs ys) Pv where
  go := fun i H hi q => by
    obtain ⟨h1, h2⟩ := hl i H (Nat.le_of_lt hi) q
    exact ⟨xs, ys, xs[i]'(by omega), ys[i]'(by omega), h1, h2, List.getElem?_eq_getElem _, List.getElem?_eq_getElem _⟩
  yld := fun i H v H' hi q y => by
    obtain ⟨h1, h2⟩ := hl i H (Nat.le_of_lt hi) q
    obtain ⟨T, x, y, e1, e2, e3, e4, e5⟩ := y
    refine ⟨T, e1, e2, ?_⟩
    unfold at2
    rw [getD_some (e4 xs h1), getD_some (e5 ys h2)]
    exact e3
  stop := fun H q => by
    obtain ⟨h1, h2⟩ := hl n H (Nat.le_refl _) q
    exact ⟨xs, ys, h1, h2, by omega⟩
theorem pairing_zip {a b : Addr} {xs ys : List V} {n : Nat} {Pv : Nat → Hp → Prop} (hn : n = min xs.length ys.length) (hl : ∀ i H, i ≤ n → Pv i H → SqL K H a xs ∧ SqL K H b ys) : Pairing (Itz K a b) n (at2 xs ys) Pv where
  go := fun i H hi q => by
    obtain ⟨h1, h2⟩ := hl i H (Nat.le_of_lt hi) q
    exact ⟨xs, ys, xs[i]'(by omega), ys[i]'(by omega), h1, h2, List.getElem?_eq_getElem _, List.getElem?_eq_getElem _⟩
  yld := fun i H v H' hi q y => by
    obtain ⟨h1, h2⟩ := hl i H (Nat.le_of_lt hi) q
    obtain ⟨T, x, y, e1, e2, e3, e4, e5⟩ := y
    refine ⟨T, e1, e2, ?_⟩
    unfold at2
    rw [getD_some (e4 xs h1), getD_some (e5 ys h2)]
    exact e3
  stop := fun H q => by
    obtain ⟨h1, h2⟩ := hl n H (Nat.le_refl _) q
    exact ⟨xs, ys, h1, h2, by omega⟩
theorem pairing_enum {a : Addr} {xs : List V} {j : Int} {n : Nat} {Pv : Nat → Hp → Prop} (hn : n = xs.length) (hl : ∀ i H, i ≤ n → Pv i H → SqL K H a xs) : Pairing (IteS K a j) n (fun i => (.int (j + (i : Nat)), xs.getD i .non)) Pv where
  go := fun i H hi q => ⟨xs, xs[i]'(by omega), hl i H (Nat.le_of_lt hi) q, List.getElem?_eq_getElem _⟩
  yld := fun i H v H' hi q y => by
    obtain ⟨T, x, e1, e2, e3, e4⟩ := y
    refine ⟨T, e1, e2, ?_⟩
    rw [getD_some (e4 xs (hl i H (Nat.le_of_lt hi) q))]
    exact e3
  stop := fun H q => ⟨xs, hl n H (Nat.le_refl _) q, by omega⟩
end
/-! ### attributes -/
abbrev FldP (K : PySem.W.Frag) (H : Hp) (a : Addr) (f : Str) (Q : V → Prop) : Prop := ∃ a' C' dx' fs' x, V.ref a = V.ref a' ∧ H a' = some (.ins C' dx' fs') ∧ Cls K C' ∧ NoAttr K C' f ∧ fs'.lookup f = some x ∧ Q x
theorem fget {K : PySem.W.Frag} {H : Hp} {a C dx : Addr} {fs : List (Str × V)} {f : Str} {v : V} {Q : V → Prop} (h : H a = some (.ins C dx fs)) (c : Cls K C) (n : NoAttr K C f) (l : fs.lookup f = some v) (q : Q v) :
    FldP K H a f Q := ⟨a, C, dx, fs, v, rfl, h, c, n, l, q⟩
section
variable {K : PySem.W.Frag} {mg : Str → Option Value} {A : Adr} {H : Hp} {a : Addr} {Q : V → Prop} {v : Voice} {n : Note}
theorem v_wave (T : Txt K mg A) (h : VoiceAt A H a v) (q : Q (iv v.wave)) : FldP K H a "wave" Q := let ⟨_, e⟩ := h; fget e T.Voice.cl (T.Voice.no "wave" (by decide)) rfl q
theorem v_rise (T : Txt K mg A) (h : VoiceAt A H a v) (q : Q (iv v.rise)) : FldP K H a "rise" Q := let ⟨_, e⟩ := h; fget e T.Voice.cl (T.Voice.no "rise" (by decide)) rfl q
theorem v_fall (T : Txt K mg A) (h : VoiceAt A H a v) (q : Q (iv v.fall)) : FldP K H a "fall" Q := let ⟨_, e⟩ := h; fget e T.Voice.cl (T.Voice.no "fall" (by decide)) rfl q
theorem v_stay (T : Txt K mg A) (h : VoiceAt A H a v) (q : Q (iv v.stay)) : FldP K H a "stay" Q := let ⟨_, e⟩ := h; fget e T.Voice.cl (T.Voice.no "stay" (by decide)) rfl q
theorem v_fade (T : Txt K mg A) (h : VoiceAt A H a v) (q : Q (iv v.fade)) : FldP K H a "fade" Q := let ⟨_, e⟩ := h; fget e T.Voice.cl (T.Voice.no "fade" (by decide)) rfl q
theorem n_number (T : Txt K mg A) (h : NoteAt A H a n) (q : Q (iv n.id)) : FldP K H a "number" Q := let ⟨_, e⟩ := h; fget e T.Note.cl (T.Note.no "number" (by decide)) rfl q
theorem n_voice (T : Txt K mg A) (h : NoteAt A H a n) (q : Q (iv n.voice)) : FldP K H a "voice_number" Q := let ⟨_, e⟩ := h; fget e T.Note.cl (T.Note.no "voice_number" (by decide)) rfl q
theorem n_at (T : Txt K mg A) (h : NoteAt A H a n) (q : Q (iv n.at_)) : FldP K H a "at" Q := let ⟨_, e⟩ := h; fget e T.Note.cl (T.Note.no "at" (by decide)) rfl q
theorem n_length (T : Txt K mg A) (h : NoteAt A H a n) (q : Q (iv n.len)) : FldP K H a "length" Q := let ⟨_, e⟩ := h; fget e T.Note.cl (T.Note.no "length" (by decide)) rfl q
theorem n_step (T : Txt K mg A) (h : NoteAt A H a n) (q : Q (iv n.step)) : FldP K H a "step" Q := let ⟨_, e⟩ := h; fget e T.Note.cl (T.Note.no "step" (by decide)) rfl q
theorem n_level (T : Txt K mg A) (h : NoteAt A H a n) (q : Q (iv n.level)) : FldP K H a "level" Q := let ⟨_, e⟩ := h; fget e T.Note.cl (T.Note.no "level" (by decide)) rfl q
variable {dx lv ll ln : Addr} {m : Nat}
theorem s_voices (T : Txt K mg A) (h : H a = some (.ins A.c_Score dx (scoreF lv ll ln m))) (q : Q (.ref lv)) : FldP K H a "voices" Q := fget h T.Score.cl (T.Score.no "voices" (by decide)) rfl q
theorem s_lines (T : Txt K mg A) (h : H a = some (.ins A.c_Score dx (scoreF lv ll ln m))) (q : Q (.ref ll)) : FldP K H a "lines" Q := fget h T.Score.cl (T.Score.no "lines" (by decide)) rfl q
theorem s_notes (T : Txt K mg A) (h : H a = some (.ins A.c_Score dx (scoreF lv ll ln m))) (q : Q (.ref ln)) : FldP K H a "notes" Q := fget h T.Score.cl (T.Score.no "notes" (by decide)) rfl q
theorem s_next (T : Txt K mg A) (h : H a = some (.ins A.c_Score dx (scoreF lv ll ln m))) (q : Q (iv m)) : FldP K H a "next_number" Q := fget h T.Score.cl (T.Score.no "next_number" (by decide)) rfl q
theorem p_score (T : Txt K mg A) {b : Addr} (h : H a = some (.ins A.c_Player dx (playerF b m))) (q : Q (.ref b)) : FldP K H a "score" Q := fget h T.Player.cl (T.Player.no "score" (by decide)) rfl q
theorem p_place (T : Txt K mg A) {b : Addr} (h : H a = some (.ins A.c_Player dx (playerF b m))) (q : Q (iv m)) : FldP K H a "place" Q := fget h T.Player.cl (T.Player.no "place" (by decide)) rfl q
end
/-! ### lists of numbers -/
theorem line16 {n : Nat} (h : n ≤ 16000) : n < sizeLine := Nat.lt_of_le_of_lt h (by decide)
theorem dle (a b : Nat) : decide ((a : Int) ≤ (b : Int)) = decide (a ≤ b) := by
  by_cases h : a ≤ b
  · rw [decide_eq_true h, decide_eq_true (by omega)]
  · rw [decide_eq_false h, decide_eq_false (by omega)]
theorem dlt (a b : Nat) : decide ((a : Int) < (b : Int)) = decide (a < b) := by
  by_cases h : a < b
  · rw [decide_eq_true h, decide_eq_true (by omega)]
  · rw [decide_eq_false h, decide_eq_false (by omega)]
theorem nv_app (a b : List Nat) : nv (a ++ b) = nv a ++ nv b := List.map_append
theorem at_nv {ns : List Nat} {j n : Nat} (h : ns[j]? = some n) : (nv ns)[j]? = some (iv n) := by rw [List.getElem?_map, h]; rfl
theorem atI_nv {ns : List Nat} {j n : Nat} {z : Int} (e : z = (j : Int)) (h : ns[j]? = some n) : atI (nv ns) z = some (iv n) := at_of e (at_nv h)
theorem of_nv {ns : List Nat} {j : Nat} {x : V} (h : (nv ns)[j]? = some x) : ∃ n, ns[j]? = some n ∧ x = iv n := by
  rw [List.getElem?_map] at h
  cases e : ns[j]? with
  | none => rw [e] at h; cases h
  | some n => rw [e] at h; exact ⟨n, rfl, (Option.some.inj h).symm⟩
theorem of_map {α : Type} {f : α → V} {l : List α} {j : Nat} {x : V} (h : (l.map f)[j]? = some x) : ∃ n, l[j]? = some n ∧ x = f n := by
  rw [List.getElem?_map] at h
  cases e : l[j]? with
  | none => rw [e] at h; cases h
  | some n => rw [e] at h; exact ⟨n, rfl, (Option.some.inj h).symm⟩
theorem take_snoc {α : Type} {l : List α} {i : Nat} {x : α} (h : l[i]? = some x) : l.take (i + 1) = l.take i ++ [x] := by
  rw [List.take_add_one, h]; rfl
end Sb
end
section
set_option Elab.async false
set_option linter.all false
set_option maxRecDepth 100000
set_option maxHeartbeats 4000000
namespace Sb
open PySem PySem.Spec PyProof.Rows L2 ScoreNs Mu
section
variable {P : Program} {w : World} {K : PySem.W.Frag} {mg : Str → Option Value} {base : Heap} {A : Adr}
/-! ### none_above -/
def noneAbove (ns gs : List Nat) : Bool := (List.zipWith (fun n g => decide (n ≤ g)) ns gs).all id
def sp_none_above (K : PySem.W.Frag) : Sp := fun vs H Q _ => ∃ (a b : Addr) (ns gs : List Nat), vs = [.ref a, .ref b] ∧ SqL K H a (nv ns) ∧ SqT K H b (nv gs) ∧ gs.length ≤ 16000 ∧ ∀ H', Same H H' → Q (.bl (noneAbove ns gs)) H'
theorem ok_none_above (T : Txt K mg A) : FnOk P w K mg base CX0 1 A.f_none_above A.d_none_above ["numbers", "greatest"] (sp_none_above K) := by
  refine T.none_above.fn.ok sc_none_above (fun vs H Q E h => ?_) (fun cdv A' outer s H vs Q E hr h => ?_)
  · obtain ⟨a, b, ns, gs, rfl, _⟩ := h; rfl
  · obtain ⟨a, b, ns, gs, rfl, h1, h2, h3, k⟩ := h
    refine ⟨_, (pss_one (ps_ret (pe_callB (cr_all rfl) (by rfl) T.b_all boot_all5 (pa_cons (pe_lc rfl sc_none_above.nd (pi_zipLT rfl T.b_zip (pa_cons (pv 0) (pa_cons (pv 1) pa_nil))) (own := [("number", 3), ("limit", 2)]) (blkOk_by (by show blkC ["numbers", "greatest", "limit", "number"] (defScope s_none_above) _ _ = true; decide +kernel)) (fun _ _ _ _ _ => pg_two K 3 2 rfl rfl sc_none_above.nd rfl rfl rfl rfl) (fun _ _ _ _ _ => pts_nil) (fun _ _ _ _ _ => (pe_cmpR op_le (pv 3) (pv 2) (nomark _)))) pa_nil)))), ?_⟩
    refine ⟨_, rfl, _, rfl, a, b, _, _, rfl, h1, h2, fun D hD => ?_⟩
    let f : Nat → Bool := fun i => decide (ns.getD i 0 ≤ gs.getD i 0)
    let n := min ns.length gs.length
    refine lc_pair (n := n) (f := at2 (nv ns) (nv gs)) (fun i H' => Same H H' ∧ H' D = some (.lst (((List.range i).map f).map V.bl))) (pairing_zipT (by simp [n]) fun i H' _ q => ⟨q.1.seq h1, SqT.same q.1 h2⟩) ⟨Same.new hD, upd_same⟩ (fun i H' Tp hi ⟨q1, q2⟩ hT => ?_) fun H' ⟨q1, q2⟩ => ?_
    · have e1 : (nv ns).getD i .non = iv (ns.getD i 0) := by
        rw [List.getD_eq_getElem?_getD, List.getD_eq_getElem?_getD, List.getElem?_map, List.getElem?_eq_getElem (by omega : i < ns.length)]; rfl
      have e2 : (nv gs).getD i .non = iv (gs.getD i 0) := by
        rw [List.getD_eq_getElem?_getD, List.getD_eq_getElem?_getD, List.getElem?_map, List.getElem?_eq_getElem (by omega : i < gs.length)]; rfl
      refine ⟨Tp, _, rfl, SqT.of upd_same, rfl, _, _, rfl, _, _, rfl, rfl, rfl, yesI ?_⟩
      refine ⟨_, rfl, _, rfl, _, _, e1, e2, _, (by rw [upd_ne (ne_of_none q2 hT)]; exact q2), (by rw [List.length_map, List.length_map, List.length_range]; exact line16 (by omega)), fun b o e => ?_, ?_⟩
      · rw [upd_ne (ne_of_none e hD), upd_ne (ne_of_none (q1 b o e) hT)]
        exact q1 b o e
      · rw [upd_same, List.range_succ, List.map_append, List.map_append]
        show some (HO.lst (_ ++ [V.bl (decide ((ns.getD i 0 : Int) ≤ (gs.getD i 0 : Int)))])) = _
        rw [dle]; rfl
    · refine ⟨D, (List.range n).map f, rfl, SqL.of q2, ?_⟩
      have e : (List.range n).map f = List.zipWith (fun n g => decide (n ≤ g)) ns gs := by
        apply List.ext_getElem
        · simp [n]
        · intro i h1 h2
          simp only [List.length_map, List.length_range, n] at h1
          simp [f, List.getD_eq_getElem?_getD, List.getElem?_eq_getElem (by omega : i < ns.length), List.getElem?_eq_getElem (by omega : i < gs.length)]
      rw [e]
      exact k H' q1
/-! ### points_of, point_numbers, points_fit -/
theorem evens_map {α β : Type} (f : α → β) : ∀ l : List α, evens (l.map f) = (evens l).map f
  | [] => rfl
  | [_] => rfl
  | a :: b :: r => by
    show f a :: evens (r.map f) = f a :: (evens r).map f
    rw [evens_map f r]
def sp_points_of (K : PySem.W.Frag) : Sp := fun vs H Q _ => ∃ (a : Addr) (ns : List Nat), vs = [.ref a] ∧ SqL K H a (nv ns) ∧ ns.length % 2 = 0 ∧ ∀ l H', H l = none → LineAt H' l (pairs ns) → Same H H' → Q (.ref l) H'
theorem ok_points_of (T : Txt K mg A) : FnOk P w K mg base CX0 1 A.f_points_of A.d_points_of ["numbers"] (sp_points_of K) := by
  refine T.points_of.fn.ok sc_points_of (fun vs H Q E h => ?_) (fun cdv A' outer s H vs Q E hr h => ?_)
  · obtain ⟨a, ns, rfl, _⟩ := h; rfl
  · obtain ⟨a, ns, rfl, h1, h2, k⟩ := h
    refine ⟨_, (pss_one (ps_ret (pe_listzip rfl rfl rfl T.b_list T.b_zip (pa_cons (pe_step2 (pv 0) po_none) (pa_cons (pe_step2 (pv 0) (po_some pe_int)) pa_nil))))), ?_⟩
    have ev : evens (nv ns) = nv (evens ns) := evens_map iv ns
    have od : evens ((nv ns).drop 1) = nv (odds ns) := by rw [← List.map_drop]; exact evens_map iv _
    have l1 := evens_length ns
    have l2 : (odds ns).length = ns.length / 2 := by
      unfold odds; rw [evens_length, List.length_drop]; omega
    refine ⟨_, rfl, a, _, rfl, h1, .inl rfl, fun p hp => ?_⟩
    have s1 : Same H (upd H p (.lst (evens (nv ns)))) := Same.new hp
    refine ⟨_, rfl, 1, rfl, a, _, rfl, s1.seq h1, .inr rfl, fun q hq => ?_⟩
    have s2 : Same _ (upd (upd H p (.lst (evens (nv ns)))) q (.lst (evens ((nv ns).drop 1)))) := Same.new hq
    have nq : p ≠ q := ne_of_none upd_same hq
    refine ⟨p, q, _, _, rfl, SqL.of (by rw [upd_ne nq, upd_same]), SqL.of upd_same, ?_, fun l as H' hl el hL hP hN s3 => ?_⟩
    · show (evens (nv ns)).length = (evens ((nv ns).drop 1)).length
      rw [ev, od, List.length_map, List.length_map]; omega
    · have sm : Same H H' := (s1.trans s2).trans s3
      refine k l H' ((s1.trans s2).free hl) ⟨as.zip (pairs ns), ?_, ?_, ?_⟩ sm
      · have el' : as.length = (pairs ns).length := by
          have e : as.length = (evens (nv ns)).length := el
          rw [e, ev, List.length_map, l1, pairs_length]; omega
        rw [hL]
        congr 2
        have : (as.zip (pairs ns)).map (fun q => V.ref q.1) = ((as.zip (pairs ns)).map (·.1)).map V.ref := by rw [List.map_map]; rfl
        rw [this, List.map_fst_zip (by omega)]
      · intro x hx
        obtain ⟨j, hj⟩ := List.mem_iff_getElem?.mp hx
        obtain ⟨h3, h4⟩ := List.getElem?_zip_eq_some.mp hj
        unfold pairs at h4
        obtain ⟨h5, h6⟩ := List.getElem?_zip_eq_some.mp h4
        refine hP j x.1 (iv x.2.1) (iv x.2.2) h3 ?_ ?_
        · show (evens (nv ns))[j]? = _
          rw [ev]; exact at_nv h5
        · show (evens ((nv ns).drop 1))[j]? = _
          rw [od]; exact at_nv h6
      · rw [List.map_snd_zip]
        have e : as.length = (evens (nv ns)).length := el
        rw [pairs_length, e, ev, List.length_map, l1]; omega
def sp_point_numbers : Sp := fun vs H Q _ => ∃ (l : Addr) (pt : Line), vs = [.ref l] ∧ LineAt H l pt ∧ pt.length ≤ 16 ∧ ∀ m H', H m = none → H' m = some (.lst (nv (pt.flatMap fun p => [p.1, p.2]))) → Same H H' → Q (.ref m) H'
theorem ok_point_numbers (T : Txt K mg A) : FnOk P w K mg base CX0 1 A.f_point_numbers A.d_point_numbers ["points"] sp_point_numbers := by
  refine T.point_numbers.fn.ok sc_point_numbers (fun vs H Q E h => ?_) (fun cdv A' outer s H vs Q E hr h => ?_)
  · obtain ⟨a, ns, rfl, _⟩ := h; rfl
  · obtain ⟨l, pt, rfl, ⟨qs, q1, q2, q3⟩, h2, k⟩ := h
    refine ⟨_, (pss_cons (ps_set (i := 1) sc_point_numbers.nd rfl (Or.inl rfl) (pe_lst pa_nil))
  (pss_cons (ps_for PassesOwn.never rfl (pi_list (pv 0)) (pg_name (i := 2) sc_point_numbers.nd rfl (Or.inl rfl))
  (pss_one (ps_expr (pe_bm PySem.F.plainAttrs_list PySem.F.slot_list_extend PySem.F.type_list_extend mt_extendT (pv 1) (pa_cons (pv 2) pa_nil)))))
  (pss_one (ps_ret (pv 1))))), ?_⟩
    refine ⟨Nat.zero_le _, fun m hm => ?_⟩
    have s1 : Same H (upd H m (.lst [])) := Same.new hm
    have hq : qs.length ≤ 16 := by rw [← List.length_map (f := (·.2)), q3]; exact h2
    let row : Nat → List Nat := fun i => (qs.take i).flatMap fun q => [q.2.1, q.2.2]
    have rl : ∀ i, (row i).length ≤ 32 := fun i => by
      have := flat_len (fun (q : Addr × (Nat × Nat)) => [q.2.1, q.2.2]) 2 (qs.take i) (fun _ _ => Nat.le_refl _)
      rw [List.length_take] at this
      exact Nat.le_trans this (by omega)
    refine ⟨_, rfl, l, rfl, ⟨_, SqL.of (s1 _ _ q1)⟩, for_list (K := K) (a := l) (xs := qs.map fun q => V.ref q.1) (fun i σ H' => ∃ v : Option V, σ = [some (.ref l), some (.ref m), v] ∧ Same H H' ∧ H' m = some (.lst (nv (row i))))
      ⟨none, rfl, s1, upd_same⟩ (fun i σ H' _ ⟨_, _, s5, _⟩ => SqL.of (s5 _ _ q1)) ?_ ?_⟩
    · rintro i y σ H' hi ⟨v, rfl, s5, hm'⟩
      obtain ⟨q, hq', rfl⟩ := of_map hi
      have hp := q2 q (List.mem_of_getElem? hq')
      refine ⟨_, rfl, .inl ⟨rfl, _, SqL.of hm'⟩, _, rfl, m, q.1, _, _, rfl, rfl, hm', SqT.of (s5 _ _ hp), ?_, ?_⟩
      · rw [List.length_map]
        have := rl i
        exact Nat.le_of_lt (line16 (by show (row i).length + 2 ≤ 16000; omega))
      · refine ⟨_, rfl, fun b o e => by rw [upd_ne (ne_of_none e hm)]; exact s5 b o e, ?_⟩
        rw [upd_same]
        show _ = some (HO.lst (nv (row (i + 1))))
        have : row (i + 1) = row i ++ [q.2.1, q.2.2] := by
          show (qs.take (i + 1)).flatMap _ = _
          rw [take_snoc hq', List.flatMap_append]
          simp [row]
        rw [this, nv_app]
        rfl
    · rintro σ H' ⟨v, rfl, s5, hm'⟩
      refine ⟨_, rfl, k m H' hm ?_ s5⟩
      rw [hm', List.length_map]
      show some (HO.lst (nv ((qs.take qs.length).flatMap fun q => [q.2.1, q.2.2]))) = _
      rw [List.take_length, ← q3, List.flatMap_map]
/-- numbers, time and value one after another, are a line's -/
def fitL (ns : List Nat) : Bool := match pairsOf ns with | none => false | some p => Line.fine p
def sp_points_fit (K : PySem.W.Frag) : Sp := fun vs H Q _ => ∃ (a : Addr) (ns : List Nat), vs = [.ref a] ∧ SqL K H a (nv ns) ∧ ∀ H', Same H H' → Q (.bl (fitL ns)) H'
theorem ok_points_fit (T : Txt K mg A) : FnOk P w K mg base CX0 2 A.f_points_fit A.d_points_fit ["numbers"] (sp_points_fit K) := by
  refine T.points_fit.fn.ok sc_points_fit (fun vs H Q E h => ?_) (fun cdv A' outer s H vs Q E hr h => ?_)
  · obtain ⟨a, ns, rfl, _⟩ := h; rfl
  · obtain ⟨a, ns, rfl, h1, k⟩ := h
    refine ⟨_, (pss_cons (ps_if (PW.pt (pw_or (pt_cmpR op_eq (pe_op op_mod (pe_callB call_len_seq (by rfl) T.b_len PySem.boot_len (pa_cons (pv 0) pa_nil)) pe_int) pe_int (nomark _)) (pw_or1 (pt_cmpR op_gt (pe_callB call_len_seq (by rfl) T.b_len PySem.boot_len (pa_cons (pv 0) pa_nil)) (pe_op op_mul pe_int (pe_gi rfl T.c_MOST_POINTS)) (nomark _)))))
  (pss_one (ps_ret pe_bl))
  pss_nil)
  (pss_cons (ps_set (i := 1) sc_points_fit.nd rfl (Or.inl rfl) pe_int)
  (pss_cons (ps_for PassesOwn.never rfl (pi_list (pcall T.points_of (ok_points_of T) (hr.mono (by decide)) pass0 (pa_cons (pv 0) pa_nil))) (pg_name (i := 2) sc_points_fit.nd rfl (Or.inl rfl))
  (pss_cons (ps_if (PW.pt (pw_or (pt_cmpR op_lt (pe_ix ix_tup (pv 2) pe_int (fun _ _ => rfl)) (pv 1) (nomark _)) (pw_or (pt_cmpR op_ge (pe_ix ix_tup (pv 2) pe_int (fun _ _ => rfl)) (pe_gi rfl T.c_TIME_END) (nomark _)) (pw_or1 (pt_cmpR op_gt (pe_ix ix_tup (pv 2) pe_int (fun _ _ => rfl)) (pe_gi rfl T.c_FULL) (nomark _))))))
  (pss_one (ps_ret pe_bl))
  pss_nil)
  (pss_one (ps_set (i := 1) sc_points_fit.nd rfl (Or.inl rfl) (pe_op op_add (pe_ix ix_tup (pv 2) pe_int (fun _ _ => rfl)) pe_int)))))
  (pss_one (ps_ret pe_bl))))), ?_⟩
    refine ⟨_, rfl, a, _, rfl, .inl h1, _, _, rfl, rfl, (by show (0 : Int) < 2; decide), rfl, tst (fun h => ?_) fun h => ?_⟩
    · have e : fitL ns = false := by
        unfold fitL
        have h' : ((nv ns).length : Int) % 2 = 1 := V.int.inj h
        rw [List.length_map] at h'
        rw [pairsOf_odd ns (by omega)]
      rw [e] at k
      exact iteT (iteT (k H (Same.refl H)))
    · have h0 : ns.length % 2 = 0 := by
        have h' : ¬ ((nv ns).length : Int) % 2 = 1 := fun z => h (congrArg V.int z)
        rw [List.length_map] at h'
        omega
      have ef : fitL ns = (decide (ns.length ≤ 32) && okFrom 0 (pairs ns)) := by
        unfold fitL
        rw [pairsOf_even ns h0]
        show Line.fine (pairs ns) = _
        rw [← okFrom_line, pairs_length]
        congr 1
        by_cases q : ns.length ≤ 32
        · rw [decide_eq_true q, decide_eq_true (by omega)]
        · rw [decide_eq_false q, decide_eq_false (by omega)]
      refine iteF ⟨_, rfl, a, _, rfl, .inl h1, _, _, rfl, rfl, .inl ⟨by decide, by decide⟩, _, _, rfl, rfl, tst (fun h3 => iteT ?_) fun h3 => iteF ?_⟩
      · rw [List.length_map] at h3
        rw [ef, decide_eq_false (by omega), Bool.false_and] at k
        exact k H (Same.refl H)
      · rw [List.length_map] at h3
        have h32 : ns.length ≤ 32 := by omega
        rw [ef, decide_eq_true h32, Bool.true_and] at k
        refine ⟨_, rfl, a, ns, rfl, h1, h0, fun l H1 hl hL s1 => ?_⟩
        obtain ⟨qs, q1, q2, q3⟩ := hL
        refine ⟨l, rfl, ⟨_, SqL.of q1⟩, for_list (K := K) (a := l) (xs := qs.map fun q => V.ref q.1) (fun i σ H' => ∃ (v : Option V) (m : Nat), σ = [some (.ref a), some (iv m), v] ∧ H' = H1 ∧ okFrom 0 (pairs ns) = okFrom m ((pairs ns).drop i))
          ⟨none, 0, rfl, rfl, rfl⟩ (fun i σ H' _ ⟨_, _, _, e, _⟩ => by rw [e]; exact SqL.of q1) ?_ ?_⟩
        · rintro i y σ H' hi ⟨v, m, rfl, rfl, ek⟩
          obtain ⟨q, hq, rfl⟩ := of_map hi
          have hp := q2 q (List.mem_of_getElem? hq)
          have hd : (pairs ns).drop i = q.2 :: (pairs ns).drop (i + 1) := by
            have : (pairs ns)[i]? = some q.2 := by rw [← q3, List.getElem?_map, hq]; rfl
            obtain ⟨hlt, e⟩ := List.getElem?_eq_some_iff.mp this
            rw [List.drop_eq_getElem_cons hlt, e]
          rw [hd] at ek
          have ek : okFrom 0 (pairs ns) = (!(decide (q.2.1 < m) || decide (TIME ≤ q.2.1) || decide (FULL < q.2.2)) && okFrom (q.2.1 + 1) ((pairs ns).drop (i + 1))) := ek
          have hT : TIME = 1099511627776 := rfl
          have hF : FULL = 256 := rfl
          refine ⟨_, rfl, q.1, _, _, _, rfl, rfl, SqT.of hp, at_of (j := 0) rfl rfl, _, rfl, _, _, rfl, rfl, tst (fun c1 => iteT (iteT ?_)) fun c1 => iteF ?_⟩
          · rw [decide_eq_true (show q.2.1 < m by omega)] at ek
            rw [ek] at k
            exact k H' s1
          refine ⟨_, rfl, q.1, _, _, _, rfl, rfl, SqT.of hp, at_of (j := 0) rfl rfl, _, _, rfl, rfl, tst (fun c2 => iteT (iteT ?_)) fun c2 => iteF ?_⟩
          · rw [decide_eq_true (show TIME ≤ q.2.1 by omega), Bool.or_true, Bool.true_or] at ek
            rw [ek] at k
            exact k H' s1
          refine ⟨_, rfl, q.1, _, _, _, rfl, rfl, SqT.of hp, at_of (j := 1) rfl rfl, _, _, rfl, rfl, tst (fun c3 => iteT ?_) fun c3 => iteF ?_⟩
          · rw [decide_eq_true (show FULL < q.2.2 by omega), Bool.or_true] at ek
            rw [ek] at k
            exact k H' s1
          refine ⟨_, rfl, q.1, _, _, _, rfl, rfl, SqT.of hp, at_of (j := 0) rfl rfl, _, _, rfl, rfl, ?_⟩
          refine ⟨_, q.2.1 + 1, rfl, rfl, ?_⟩
          rw [ek, decide_eq_false (show ¬ q.2.1 < m by omega), decide_eq_false (show ¬ TIME ≤ q.2.1 by omega), decide_eq_false (show ¬ FULL < q.2.2 by omega)]
          rfl
        · rintro σ H' ⟨v, m, rfl, rfl, ek⟩
          have e : (pairs ns).drop (qs.map fun q => V.ref q.1).length = [] := by
            rw [List.length_map, ← q3, List.drop_eq_nil_of_le (by rw [List.length_map]; exact Nat.le_refl _)]
          rw [e] at ek
          rw [show okFrom 0 (pairs ns) = true from ek] at k
          exact k H' s1
/-! ### line_value -/
def sp_value_between : Sp := fun vs H Q _ => ∃ (a b : Addr) (p q : Nat × Nat) (t : Nat), vs = [.ref a, .ref b, iv t] ∧ PtAt H (a, p) ∧ PtAt H (b, q) ∧ p.1 ≤ t ∧ t < q.1 ∧ q.1 < 1099511627776 ∧ p.2 ≤ 256 ∧ q.2 ≤ 256 ∧
  Q (.int ((p.2 : Int) + ((q.2 : Int) - (p.2 : Int)) * ((t : Int) - (p.1 : Int)) / ((q.1 : Int) - (p.1 : Int)))) H
theorem ok_value_between (T : Txt K mg A) : FnOk P w K mg base CX0 1 A.f_value_between A.d_value_between ["earlier", "later", "t"] sp_value_between := by
  refine T.value_between.fn.ok sc_value_between (fun vs H Q E h => ?_) (fun cdv A' outer s H vs Q E hr h => ?_)
  · obtain ⟨a, b, p, q, t, rfl, _⟩ := h; rfl
  · obtain ⟨a, b, p, q, t, rfl, h1, h2, h3, h4, h5, h6, h7, k⟩ := h
    refine ⟨_, (pss_cons (ps_set (i := 3) sc_value_between.nd rfl (Or.inl rfl) (pe_op op_sub (pe_ix ix_tup (pv 1) pe_int (fun _ _ => rfl)) (pe_ix ix_tup (pv 0) pe_int (fun _ _ => rfl))))
  (pss_one (ps_ret (pe_op op_add (pe_ix ix_tup (pv 0) pe_int (fun _ _ => rfl)) (pe_op op_fdivL (pe_op op_mul (pv 3) (pe_op op_sub (pv 2) (pe_ix ix_tup (pv 0) pe_int (fun _ _ => rfl)))) (pe_op op_sub (pe_ix ix_tup (pv 1) pe_int (fun _ _ => rfl)) (pe_ix ix_tup (pv 0) pe_int (fun _ _ => rfl)))))))), ?_⟩
    refine ⟨_, rfl, b, _, _, _, rfl, rfl, SqT.of h2, at_of (j := 1) rfl rfl, _, rfl, a, _, _, _, rfl, rfl, SqT.of h1, at_of (j := 1) rfl rfl, _, _, rfl, rfl, ?_⟩
    refine ⟨_, rfl, a, _, _, _, rfl, rfl, SqT.of h1, at_of (j := 1) rfl rfl, _, rfl, _, rfl, _, rfl, a, _, _, _, rfl, rfl, SqT.of h1, at_of (j := 0) rfl rfl, _, _, rfl, rfl, _, _, rfl, rfl, .inl ⟨by show -(2 ^ 64) < (q.2 : Int) - (p.2 : Int); omega, by show (q.2 : Int) - (p.2 : Int) < 2 ^ 64; omega⟩, ?_⟩
    refine ⟨_, rfl, b, _, _, _, rfl, rfl, SqT.of h2, at_of (j := 0) rfl rfl, _, rfl, a, _, _, _, rfl, rfl, SqT.of h1, at_of (j := 0) rfl rfl, _, _, rfl, rfl, _, _, rfl, rfl, ⟨by show 0 < (q.1 : Int) - (p.1 : Int); omega, by show (q.1 : Int) - (p.1 : Int) < 18446744073709551616; omega⟩, _, _, rfl, rfl, k⟩
def sp_line_value : Sp := fun vs H Q _ => ∃ (l : Addr) (pt : Line) (t : Nat), vs = [.ref l, iv t] ∧ LineAt H l pt ∧ LOk pt ∧ Q (iv (Line.at_ pt t)) H
theorem ok_line_value (T : Txt K mg A) : FnOk P w K mg base CX0 2 A.f_line_value A.d_line_value ["points", "t"] sp_line_value := by
  refine T.line_value.fn.ok sc_line_value (fun vs H Q E h => ?_) (fun cdv A' outer s H vs Q E hr h => ?_)
  · obtain ⟨l, pt, t, rfl, _⟩ := h; rfl
  · obtain ⟨l, pt, t, rfl, ⟨qs, q1, q2, q3⟩, ok, k⟩ := h
    refine ⟨_, (pss_cons (ps_if (pt_cmpR op_eq (pe_callB call_len_seq (by rfl) T.b_len PySem.boot_len (pa_cons (pv 0) pa_nil)) pe_int (nomark _))
  (pss_one (ps_ret (pe_gi rfl T.c_FULL)))
  pss_nil)
  (pss_cons (ps_set (i := 2) sc_line_value.nd rfl (Or.inl rfl) (pe_ix ix_list (pv 0) pe_int (fun _ _ => rfl)))
  (pss_cons (ps_if (pt_cmpR op_le (pv 1) (pe_ix ix_tup (pv 2) pe_int (fun _ _ => rfl)) (nomark _))
  (pss_one (ps_ret (pe_ix ix_tup (pv 2) pe_int (fun _ _ => rfl))))
  pss_nil)
  (pss_cons (ps_for PassesOwn.never rfl (pi_list (pv 0)) (pg_name (i := 3) sc_line_value.nd rfl (Or.inl rfl))
  (pss_cons (ps_if (pt_cmpR op_lt (pv 1) (pe_ix ix_tup (pv 3) pe_int (fun _ _ => rfl)) (nomark _))
  (pss_one (ps_ret (pcall T.value_between (ok_value_between T) (hr.mono (by decide)) pass0 (pa_cons (pv 2) (pa_cons (pv 3) (pa_cons (pv 1) pa_nil))))))
  pss_nil)
  (pss_one (ps_set (i := 2) sc_line_value.nd rfl (Or.inl rfl) (pv 3)))))
  (pss_one (ps_ret (pe_ix ix_tup (pv 2) pe_int (fun _ _ => rfl)))))))), ?_⟩
    refine ⟨_, rfl, l, _, rfl, .inl (SqL.of q1), rfl, tst (fun h => iteT ?_) fun h => iteF ?_⟩
    · have e : qs = [] := by
        have h' : (((qs.map fun q => V.ref q.1).length : Nat) : Int) = 0 := V.int.inj h
        rw [List.length_map] at h'
        exact List.length_eq_zero_iff.mp (by omega)
      subst e
      subst q3
      exact k
    · cases qs with
      | nil => exact absurd rfl h
      | cons q0 qs =>
        have hp0 := q2 q0 List.mem_cons_self
        subst q3
        have k : Q (iv (if t ≤ q0.2.1 then q0.2.2 else Line.from_ q0.2 (qs.map (·.2)) t)) H := k
        refine ⟨_, rfl, l, _, _, _, rfl, rfl, SqL.of q1, at_of (j := 0) rfl rfl, ?_⟩
        refine ⟨_, rfl, _, rfl, q0.1, _, _, _, rfl, rfl, SqT.of hp0, at_of (j := 0) rfl rfl, _, _, rfl, rfl, tst (fun h2 => iteT ?_) fun h2 => iteF ?_⟩
        · rw [if_pos (by omega)] at k
          exact ⟨_, rfl, q0.1, _, _, _, rfl, rfl, SqT.of hp0, at_of (j := 1) rfl rfl, k⟩
        · rw [if_neg (by omega)] at k
          have hb : ∀ q ∈ q0 :: qs, q.2.1 < 1099511627776 ∧ q.2.2 ≤ 256 := fun q hq => ok.pts q.2 (List.mem_map_of_mem hq)
          refine ⟨_, rfl, l, rfl, ⟨_, SqL.of q1⟩, for_list (K := K) (a := l) (xs := (q0 :: qs).map fun q => V.ref q.1) (fun i σ H' => ∃ (v : Option V) (e : Addr × (Nat × Nat)), σ = [some (.ref l), some (iv t), some (.ref e.1), v] ∧ H' = H ∧ e ∈ q0 :: qs ∧ e.2.1 ≤ t ∧
              Line.from_ q0.2 (qs.map (·.2)) t = Line.from_ e.2 (((q0 :: qs).drop i).map (·.2)) t)
            ⟨none, q0, rfl, rfl, List.mem_cons_self, by omega, ?_⟩ (fun i σ H' _ ⟨_, _, _, e, _⟩ => by rw [e]; exact SqL.of q1) ?_ ?_⟩
          · show _ = Line.from_ q0.2 (q0.2 :: qs.map (·.2)) t
            rw [from_skip (by omega)]
          · rintro i y σ H' hi ⟨v, e, rfl, rfl, em, et, ek⟩
            obtain ⟨q, hq, rfl⟩ := of_map hi
            have qm := List.mem_of_getElem? hq
            have hp := q2 q qm
            have hd : (q0 :: qs).drop i = q :: (q0 :: qs).drop (i + 1) := by
              obtain ⟨hlt, e⟩ := List.getElem?_eq_some_iff.mp hq
              rw [List.drop_eq_getElem_cons hlt, e]
            rw [hd, List.map_cons] at ek
            refine ⟨_, rfl, _, rfl, q.1, _, _, _, rfl, rfl, SqT.of hp, at_of (j := 0) rfl rfl, _, _, rfl, rfl, tst (fun c => iteT ?_) fun c => iteF ?_⟩
            · have hlt : t < q.2.1 := by omega
              refine ⟨_, rfl, _, rfl, _, rfl, e.1, q.1, e.2, q.2, t, rfl, q2 e em, hp, et, hlt, (hb q qm).1, (hb e em).2, (hb q qm).2, ?_⟩
              rw [ek] at k
              have k : Q (.int ((Line.from_ e.2 (q.2 :: ((q0 :: qs).drop (i + 1)).map (·.2)) t : Nat) : Int)) H' := k
              rw [from_int et hlt] at k
              exact k
            · have hge : ¬ t < q.2.1 := by omega
              rw [from_skip hge] at ek
              exact ⟨_, rfl, _, q, rfl, rfl, qm, by omega, ek⟩
          · rintro σ H' ⟨v, e, rfl, rfl, em, et, ek⟩
            have hz : ((q0 :: qs).drop ((q0 :: qs).map fun q => V.ref q.1).length).map (·.2) = [] := by
              rw [List.length_map, List.drop_length]; rfl
            rw [hz] at ek
            rw [show Line.from_ q0.2 (qs.map (·.2)) t = e.2.2 from ek] at k
            exact ⟨_, rfl, e.1, _, _, _, rfl, rfl, SqT.of (q2 e em), at_of (j := 1) rfl rfl, k⟩
end
end Sb
end
section
set_option Elab.async false
set_option linter.all false
set_option maxRecDepth 100000
set_option maxHeartbeats 4000000
namespace Sb
open PySem PySem.Spec PyProof.Rows L2 ScoreNs Mu
section
variable {P : Program} {w : World} {K : PySem.W.Frag} {mg : Str → Option Value} {base : Heap} {A : Adr}
def RdN (K : PySem.W.Frag) (H : Hp) (a : Addr) (xs : List V) : Prop := SqL K H a xs ∨ SqT K H a xs
theorem RdN.upd {H : Hp} {a x C dx C' dx' : Addr} {xs : List V} {fs fs' : List (Str × V)} (h : RdN K H a xs) (hx : H x = some (.ins C dx fs)) : RdN K (upd H x (.ins C' dx' fs')) a xs := by
  rcases h with ((h | ⟨o, h⟩) | h) | ((h | ⟨o, h⟩) | h)
  · exact .inl (.inl (.inl (by rw [upd_ne (ne_of h hx (by intro z; cases z))]; exact h)))
  · exact .inl (.inl (.inr ⟨o, by rw [upd_ne (ne_of h hx (by intro z; cases z))]; exact h⟩))
  · exact .inl (.inr h)
  · exact .inr (.inl (.inl (by rw [upd_ne (ne_of h hx (by intro z; cases z))]; exact h)))
  · exact .inr (.inl (.inr ⟨o, by rw [upd_ne (ne_of h hx (by intro z; cases z))]; exact h⟩))
  · exact .inr (.inr h)
theorem RdN.ix {H : Hp} {a : Addr} {xs : List V} {j : Nat} {v : V} {Q : V → Prop} (h : RdN K H a xs) (e : xs[j]? = some v) (q : Q v) : (∃ p ys i x, V.ref a = .ref p ∧ V.int (j : Int) = .int i ∧ SqL K H p ys ∧ atI ys i = some x ∧ Q x) ∨ (∃ p ys i x, V.ref a = .ref p ∧ V.int (j : Int) = .int i ∧ SqT K H p ys ∧ atI ys i = some x ∧ Q x) := by
  rcases h with h | h
  · exact .inl ⟨a, xs, _, v, rfl, rfl, h, atI_nat e, q⟩
  · exact .inr ⟨a, xs, _, v, rfl, rfl, h, atI_nat e, q⟩
def sp_Voice (K : PySem.W.Frag) (A : Adr) : Sp := fun vs H Q _ => ∃ (x dx a : Addr) (v : Voice), vs = [.ref x, .ref a] ∧ H x = some (.ins A.c_Voice dx []) ∧ RdN K H a (nv v.row) ∧ ∀ H', H' x = some (.ins A.c_Voice dx (voiceF v)) → (∀ b, b ≠ x → H' b = H b) → Q .non H'
theorem ok_Voice (T : Txt K mg A) : FnOk P w K mg base CX0 1 A.f_Voice A.d_Voice ["self", "numbers"] (sp_Voice K A) := by
  refine T.Voice.fn.ok sc_Voice (fun vs H Q E h => ?_) (fun cdv A' outer s H vs Q E hr h => ?_)
  · obtain ⟨x, dx, a, v, rfl, _⟩ := h; rfl
  · obtain ⟨x, dx, a, v, rfl, h1, h2, k⟩ := h
    refine ⟨_, (pss_cons (ps_fld (pv 0) (pe_ix (ix_list.or ix_tup) (pv 1) pe_int (fun _ _ => rfl)) rfl)
  (pss_cons (ps_fld (pv 0) (pe_ix (ix_list.or ix_tup) (pv 1) pe_int (fun _ _ => rfl)) rfl)
  (pss_cons (ps_fld (pv 0) (pe_ix (ix_list.or ix_tup) (pv 1) pe_int (fun _ _ => rfl)) rfl)
  (pss_cons (ps_fld (pv 0) (pe_ix (ix_list.or ix_tup) (pv 1) pe_int (fun _ _ => rfl)) rfl)
  (pss_one (ps_fld (pv 0) (pe_ix (ix_list.or ix_tup) (pv 1) pe_int (fun _ _ => rfl)) rfl)))))), ?_⟩
    have no := T.Voice.no
    have g1 := h2.upd (fs' := putF "wave" (iv v.wave) []) (C' := A.c_Voice) (dx' := dx) h1
    have g2 := g1.upd (x := x) (fs' := putF "rise" (iv v.rise) (putF "wave" (iv v.wave) [])) (C' := A.c_Voice) (dx' := dx) upd_same
    have g3 := g2.upd (x := x) (fs' := putF "fall" (iv v.fall) (putF "rise" (iv v.rise) (putF "wave" (iv v.wave) []))) (C' := A.c_Voice) (dx' := dx) upd_same
    have g4 := g3.upd (x := x) (fs' := putF "stay" (iv v.stay) (putF "fall" (iv v.fall) (putF "rise" (iv v.rise) (putF "wave" (iv v.wave) [])))) (C' := A.c_Voice) (dx' := dx) upd_same
    refine ⟨_, rfl, h2.ix (j := 0) rfl ⟨_, rfl, x, _, dx, _, rfl, h1, T.Voice.cl, no "wave" (by decide), by decide, ?_⟩⟩
    refine ⟨_, rfl, g1.ix (j := 1) rfl ⟨_, rfl, x, _, dx, _, rfl, upd_same, T.Voice.cl, no "rise" (by decide), ?_, ?_⟩⟩
    · exact Nat.lt_of_le_of_lt (length_putF _ _ _) (by decide)
    refine ⟨_, rfl, g2.ix (j := 2) rfl ⟨_, rfl, x, _, dx, _, rfl, upd_same, T.Voice.cl, no "fall" (by decide), ?_, ?_⟩⟩
    · show 2 < 1000; decide
    refine ⟨_, rfl, g3.ix (j := 3) rfl ⟨_, rfl, x, _, dx, _, rfl, upd_same, T.Voice.cl, no "stay" (by decide), ?_, ?_⟩⟩
    · show 3 < 1000; decide
    refine ⟨_, rfl, g4.ix (j := 4) rfl ⟨_, rfl, x, _, dx, _, rfl, upd_same, T.Voice.cl, no "fade" (by decide), ?_, ?_⟩⟩
    · show 4 < 1000; decide
    refine k _ ?_ fun b hb => ?_
    · rw [upd_same]; rfl
    · rw [upd_ne hb, upd_ne hb, upd_ne hb, upd_ne hb, upd_ne hb]
def GV : List Nat := [3, 65535, 65535, 256, 65535]
def sp_voice_fits (K : PySem.W.Frag) : Sp := fun vs H Q _ => ∃ (a : Addr) (ns : List Nat), vs = [.ref a] ∧ SqL K H a (nv ns) ∧ ∀ H', Same H H' → Q (.bl (noneAbove ns GV)) H'
theorem ok_voice_fits (T : Txt K mg A) : FnOk P w K mg base CX0 2 A.f_voice_fits A.d_voice_fits ["numbers"] (sp_voice_fits K) := by
  refine T.voice_fits.fn.ok sc_voice_fits (fun vs H Q E h => ?_) (fun cdv A' outer s H vs Q E hr h => ?_)
  · obtain ⟨a, ns, rfl, _⟩ := h; rfl
  · obtain ⟨a, ns, rfl, h1, k⟩ := h
    refine ⟨_, (pss_one (ps_ret (pcall T.none_above (ok_none_above T) (hr.mono (by decide)) pass0 (pa_cons (pv 0) (pa_cons (pe_gr rfl T.t_GREATEST_voices) pa_nil))))), ?_⟩
    exact ⟨_, rfl, a, _, ns, GV, rfl, h1, T.q_GREATEST_voices H, by decide, k⟩
def sp_voice_numbers (A : Adr) : Sp := fun vs H Q _ => ∃ (a : Addr) (v : Voice), vs = [.ref a] ∧ VoiceAt A H a v ∧ ∀ l, H l = none → Q (.ref l) (upd H l (.lst (nv v.row)))
theorem ok_voice_numbers (T : Txt K mg A) : FnOk P w K mg base CX0 1 A.f_voice_numbers A.d_voice_numbers ["voice"] (sp_voice_numbers A) := by
  refine T.voice_numbers.fn.ok sc_voice_numbers (fun vs H Q E h => ?_) (fun cdv A' outer s H vs Q E hr h => ?_)
  · obtain ⟨a, v, rfl, _⟩ := h; rfl
  · obtain ⟨a, v, rfl, h1, k⟩ := h
    refine ⟨_, (pss_one (ps_ret (pe_lst (pa_cons (pe_fld (pv 0) rfl) (pa_cons (pe_fld (pv 0) rfl) (pa_cons (pe_fld (pv 0) rfl) (pa_cons (pe_fld (pv 0) rfl) (pa_cons (pe_fld (pv 0) rfl) pa_nil)))))))), ?_⟩
    exact ⟨_, rfl, v_wave T h1 ⟨_, rfl, v_rise T h1 ⟨_, rfl, v_fall T h1 ⟨_, rfl, v_stay T h1 ⟨_, rfl, v_fade T h1 ⟨by show 5 ≤ sizeLine; decide, k⟩⟩⟩⟩⟩⟩
def sp_held (A : Adr) : Sp := fun vs H Q _ => ∃ (a : Addr) (v : Voice) (k : Nat), vs = [.ref a, iv k] ∧ VoiceAt A H a v ∧ VOk v ∧ Q (iv (v.held k)) H
theorem ok_held (T : Txt K mg A) : FnOk P w K mg base CX0 1 A.f_held A.d_held ["voice", "k"] (sp_held A) := by
  refine T.held.fn.ok sc_held (fun vs H Q E h => ?_) (fun cdv A' outer s H vs Q E hr h => ?_)
  · obtain ⟨a, v, k, rfl, _⟩ := h; rfl
  · obtain ⟨a, v, n, rfl, h1, ok, k⟩ := h
    refine ⟨_, (pss_cons (ps_if (pt_cmpR op_lt (pv 1) (pe_fld (pv 0) rfl) (nomark _))
  (pss_one (ps_ret (pe_op op_fdivL (pe_op op_mul (pe_gi rfl T.c_FULL) (pv 1)) (pe_fld (pv 0) rfl))))
  pss_nil)
  (pss_cons (ps_if (pt_cmpR op_lt (pe_op op_sub (pv 1) (pe_fld (pv 0) rfl)) (pe_fld (pv 0) rfl) (nomark _))
  (pss_one (ps_ret (pe_op op_sub (pe_gi rfl T.c_FULL) (pe_op op_fdivL (pe_op op_mul (pe_op op_sub (pe_gi rfl T.c_FULL) (pe_fld (pv 0) rfl)) (pe_op op_sub (pv 1) (pe_fld (pv 0) rfl))) (pe_fld (pv 0) rfl)))))
  pss_nil)
  (pss_one (ps_ret (pe_fld (pv 0) rfl))))), ?_⟩
    have o1 := ok.rise; have o2 := ok.fall; have o3 := ok.stay
    have k : Q (.int ((v.held n : Nat) : Int)) H := k
    rw [held_int v o3] at k
    refine ⟨_, rfl, _, rfl, v_rise T h1 ⟨_, _, rfl, rfl, tst (fun c => iteT ?_) fun c => iteF ?_⟩⟩
    · rw [if_pos c] at k
      exact ⟨_, rfl, _, _, rfl, rfl, .inl ⟨by decide, by decide⟩, _, rfl, v_rise T h1 ⟨_, _, rfl, rfl, ⟨by omega, by omega⟩, k⟩⟩
    · rw [if_neg c] at k
      refine ⟨_, rfl, _, rfl, v_rise T h1 ⟨_, _, rfl, rfl, _, rfl, v_fall T h1 ⟨_, _, rfl, rfl, tst (fun c => iteT ?_) fun c => iteF ?_⟩⟩⟩
      · rw [if_pos c] at k
        exact ⟨_, rfl, v_stay T h1 ⟨_, _, rfl, rfl, _, rfl, _, rfl, v_rise T h1 ⟨_, _, rfl, rfl, _, _, rfl, rfl, .inl ⟨by omega, by omega⟩, _, rfl, v_fall T h1 ⟨_, _, rfl, rfl, ⟨by omega, by omega⟩, _, _, rfl, rfl, k⟩⟩⟩⟩
      · rw [if_neg c] at k
        exact ⟨_, rfl, v_stay T h1 k⟩
def sp_loudness (A : Adr) : Sp := fun vs H Q _ => ∃ (a : Addr) (v : Voice) (n k : Nat), vs = [.ref a, iv n, iv k] ∧ VoiceAt A H a v ∧ VOk v ∧ Q (iv (v.loud n k)) H
theorem ok_loudness (T : Txt K mg A) : FnOk P w K mg base CX0 2 A.f_loudness A.d_loudness ["voice", "length", "k"] (sp_loudness A) := by
  refine T.loudness.fn.ok sc_loudness (fun vs H Q E h => ?_) (fun cdv A' outer s H vs Q E hr h => ?_)
  · obtain ⟨a, v, n, k, rfl, _⟩ := h; rfl
  · obtain ⟨a, v, n, m, rfl, h1, ok, k⟩ := h
    refine ⟨_, (pss_cons (ps_if (pt_cmpR op_lt (pv 2) (pv 1) (nomark _))
  (pss_one (ps_ret (pcall T.held (ok_held T) (hr.mono (by decide)) pass0 (pa_cons (pv 0) (pa_cons (pv 2) pa_nil)))))
  pss_nil)
  (pss_cons (ps_if (pt_cmpR op_lt (pe_op op_sub (pv 2) (pv 1)) (pe_fld (pv 0) rfl) (nomark _))
  (pss_one (ps_ret (pe_op op_fdivL (pe_op op_mul (pcall T.held (ok_held T) (hr.mono (by decide)) pass0 (pa_cons (pv 0) (pa_cons (pv 1) pa_nil))) (pe_op op_sub (pe_fld (pv 0) rfl) (pe_op op_sub (pv 2) (pv 1)))) (pe_fld (pv 0) rfl))))
  pss_nil)
  (pss_one (ps_ret pe_int)))), ?_⟩
    have o1 := ok.fade
    have hl := held_le v ok.stay n
    have k : Q (.int ((v.loud n m : Nat) : Int)) H := k
    rw [loud_int] at k
    refine ⟨_, rfl, _, rfl, _, _, rfl, rfl, tst (fun c => iteT ?_) fun c => iteF ?_⟩
    · rw [if_pos c] at k
      exact ⟨_, rfl, _, rfl, a, v, m, rfl, h1, ok, k⟩
    · rw [if_neg c] at k
      refine ⟨_, rfl, _, rfl, _, _, rfl, rfl, _, rfl, v_fade T h1 ⟨_, _, rfl, rfl, tst (fun c => iteT ?_) fun c => iteF ?_⟩⟩
      · rw [if_pos c] at k
        exact ⟨_, rfl, _, rfl, a, v, n, rfl, h1, ok, _, rfl, v_fade T h1 ⟨_, rfl, _, rfl, _, _, rfl, rfl, _, _, rfl, rfl, _, _, rfl, rfl, .inl ⟨by omega, by omega⟩, _, rfl, v_fade T h1 ⟨_, _, rfl, rfl, ⟨by omega, by omega⟩, k⟩⟩⟩
      · rw [if_neg c] at k
        exact k
/-! ### notes -/
def sp_Note (K : PySem.W.Frag) (A : Adr) : Sp := fun vs H Q _ => ∃ (x dx a : Addr) (n : Note), vs = [.ref x, iv n.id, .ref a] ∧ H x = some (.ins A.c_Note dx []) ∧ SqL K H a (nv [n.voice, n.at_, n.len, n.step, n.level]) ∧ ∀ H', H' x = some (.ins A.c_Note dx (noteF n)) → (∀ b, b ≠ x → H' b = H b) → Q .non H'
theorem SqL.upd {H : Hp} {a x C dx C' dx' : Addr} {xs : List V} {fs fs' : List (Str × V)} (h : SqL K H a xs) (hx : H x = some (.ins C dx fs)) : SqL K (upd H x (.ins C' dx' fs')) a xs := by
  rcases h with (h | ⟨o, h⟩) | h
  · exact .inl (.inl (by rw [upd_ne (ne_of h hx (by intro z; cases z))]; exact h))
  · exact .inl (.inr ⟨o, by rw [upd_ne (ne_of h hx (by intro z; cases z))]; exact h⟩)
  · exact .inr h
theorem ok_Note (T : Txt K mg A) : FnOk P w K mg base CX0 1 A.f_Note A.d_Note ["self", "number", "numbers"] (sp_Note K A) := by
  refine T.Note.fn.ok sc_Note (fun vs H Q E h => ?_) (fun cdv A' outer s H vs Q E hr h => ?_)
  · obtain ⟨x, dx, a, n, rfl, _⟩ := h; rfl
  · obtain ⟨x, dx, a, n, rfl, h1, h2, k⟩ := h
    refine ⟨_, (pss_cons (ps_fld (pv 0) (pv 1) rfl)
  (pss_cons (ps_fld (pv 0) (pe_ix ix_list (pv 2) pe_int (fun _ _ => rfl)) rfl)
  (pss_cons (ps_fld (pv 0) (pe_ix ix_list (pv 2) pe_int (fun _ _ => rfl)) rfl)
  (pss_cons (ps_fld (pv 0) (pe_ix ix_list (pv 2) pe_int (fun _ _ => rfl)) rfl)
  (pss_cons (ps_fld (pv 0) (pe_ix ix_list (pv 2) pe_int (fun _ _ => rfl)) rfl)
  (pss_one (ps_fld (pv 0) (pe_ix ix_list (pv 2) pe_int (fun _ _ => rfl)) rfl))))))), ?_⟩
    have no := T.Note.no
    have g1 := SqL.upd (fs' := putF "number" (iv n.id) []) (C' := A.c_Note) (dx' := dx) h2 h1
    have g2 := SqL.upd (x := x) (fs' := putF "voice_number" (iv n.voice) (putF "number" (iv n.id) [])) (C' := A.c_Note) (dx' := dx) g1 upd_same
    have g3 := SqL.upd (x := x) (fs' := putF "at" (iv n.at_) (putF "voice_number" (iv n.voice) (putF "number" (iv n.id) []))) (C' := A.c_Note) (dx' := dx) g2 upd_same
    have g4 := SqL.upd (x := x) (fs' := putF "length" (iv n.len) (putF "at" (iv n.at_) (putF "voice_number" (iv n.voice) (putF "number" (iv n.id) [])))) (C' := A.c_Note) (dx' := dx) g3 upd_same
    have g5 := SqL.upd (x := x) (fs' := putF "step" (iv n.step) (putF "length" (iv n.len) (putF "at" (iv n.at_) (putF "voice_number" (iv n.voice) (putF "number" (iv n.id) []))))) (C' := A.c_Note) (dx' := dx) g4 upd_same
    refine ⟨_, rfl, _, rfl, x, _, dx, _, rfl, h1, T.Note.cl, no "number" (by decide), by decide, ?_⟩
    refine ⟨_, rfl, a, _, _, _, rfl, rfl, g1, at_of (j := 0) rfl rfl, _, rfl, x, _, dx, _, rfl, upd_same, T.Note.cl, no "voice_number" (by decide), by show 1 < 1000; decide, ?_⟩
    refine ⟨_, rfl, a, _, _, _, rfl, rfl, g2, at_of (j := 1) rfl rfl, _, rfl, x, _, dx, _, rfl, upd_same, T.Note.cl, no "at" (by decide), by show 2 < 1000; decide, ?_⟩
    refine ⟨_, rfl, a, _, _, _, rfl, rfl, g3, at_of (j := 2) rfl rfl, _, rfl, x, _, dx, _, rfl, upd_same, T.Note.cl, no "length" (by decide), by show 3 < 1000; decide, ?_⟩
    refine ⟨_, rfl, a, _, _, _, rfl, rfl, g4, at_of (j := 3) rfl rfl, _, rfl, x, _, dx, _, rfl, upd_same, T.Note.cl, no "step" (by decide), by show 4 < 1000; decide, ?_⟩
    refine ⟨_, rfl, a, _, _, _, rfl, rfl, g5, at_of (j := 4) rfl rfl, _, rfl, x, _, dx, _, rfl, upd_same, T.Note.cl, no "level" (by decide), by show 5 < 1000; decide, ?_⟩
    refine k _ ?_ fun b hb => ?_
    · rw [upd_same]; rfl
    · rw [upd_ne hb, upd_ne hb, upd_ne hb, upd_ne hb, upd_ne hb, upd_ne hb]
def GN : List Nat := [7, 1099511627775, 16777216, 65535, 256]
def sp_note_fits (K : PySem.W.Frag) : Sp := fun vs H Q _ => ∃ (a : Addr) (ns : List Nat) (l : Nat), vs = [.ref a] ∧ SqL K H a (nv ns) ∧ ns[2]? = some l ∧ ∀ H', Same H H' → Q (.bl (decide (1 ≤ l) && noneAbove ns GN)) H'
theorem ok_note_fits (T : Txt K mg A) : FnOk P w K mg base CX0 2 A.f_note_fits A.d_note_fits ["numbers"] (sp_note_fits K) := by
  refine T.note_fits.fn.ok sc_note_fits (fun vs H Q E h => ?_) (fun cdv A' outer s H vs Q E hr h => ?_)
  · obtain ⟨a, ns, l, rfl, _⟩ := h; rfl
  · obtain ⟨a, ns, l, rfl, h1, h2, k⟩ := h
    refine ⟨_, (pss_one (ps_ret (pe_and (pe_cmpR op_ge (pe_ix ix_list (pv 0) pe_int (fun _ _ => rfl)) pe_int (nomark _)) (pe_one (pcall T.none_above (ok_none_above T) (hr.mono (by decide)) pass0 (pa_cons (pv 0) (pa_cons (pe_gr rfl T.t_GREATEST_notes) pa_nil))))))), ?_⟩
    refine ⟨_, rfl, a, _, _, _, rfl, rfl, h1, atI_nv (j := 2) rfl h2, _, _, rfl, rfl, tst (fun c => iteT ?_) fun c => iteF ?_⟩
    · rw [decide_eq_true (by omega), Bool.true_and] at k
      exact ⟨_, rfl, a, _, ns, GN, rfl, h1, T.q_GREATEST_notes H, by decide, k⟩
    · rw [decide_eq_false (by omega), Bool.false_and] at k
      exact k H (Same.refl H)
def sp_note_numbers (A : Adr) : Sp := fun vs H Q _ => ∃ (a : Addr) (n : Note), vs = [.ref a] ∧ NoteAt A H a n ∧ ∀ l, H l = none → Q (.ref l) (upd H l (.lst (nv n.row)))
theorem ok_note_numbers (T : Txt K mg A) : FnOk P w K mg base CX0 1 A.f_note_numbers A.d_note_numbers ["note"] (sp_note_numbers A) := by
  refine T.note_numbers.fn.ok sc_note_numbers (fun vs H Q E h => ?_) (fun cdv A' outer s H vs Q E hr h => ?_)
  · obtain ⟨a, v, rfl, _⟩ := h; rfl
  · obtain ⟨a, v, rfl, h1, k⟩ := h
    refine ⟨_, (pss_one (ps_ret (pe_lst (pa_cons (pe_fld (pv 0) rfl) (pa_cons (pe_fld (pv 0) rfl) (pa_cons (pe_fld (pv 0) rfl) (pa_cons (pe_fld (pv 0) rfl) (pa_cons (pe_fld (pv 0) rfl) (pa_cons (pe_fld (pv 0) rfl) pa_nil))))))))), ?_⟩
    exact ⟨_, rfl, n_number T h1 ⟨_, rfl, n_voice T h1 ⟨_, rfl, n_at T h1 ⟨_, rfl, n_length T h1 ⟨_, rfl, n_step T h1 ⟨_, rfl, n_level T h1 ⟨by show 6 ≤ sizeLine; decide, k⟩⟩⟩⟩⟩⟩⟩
def endOf (n : Note) (v : Voice) : Nat := n.at_ + n.len + v.fade
def sp_note_end (A : Adr) : Sp := fun vs H Q _ => ∃ (a b : Addr) (n : Note) (v : Voice), vs = [.ref a, .ref b] ∧ NoteAt A H a n ∧ VoiceAt A H b v ∧ Q (iv (endOf n v)) H
theorem ok_note_end (T : Txt K mg A) : FnOk P w K mg base CX0 1 A.f_note_end A.d_note_end ["note", "voice"] (sp_note_end A) := by
  refine T.note_end.fn.ok sc_note_end (fun vs H Q E h => ?_) (fun cdv A' outer s H vs Q E hr h => ?_)
  · obtain ⟨a, b, n, v, rfl, _⟩ := h; rfl
  · obtain ⟨a, b, n, v, rfl, h1, h2, k⟩ := h
    refine ⟨_, (pss_one (ps_ret (pe_op op_add (pe_op op_add (pe_fld (pv 0) rfl) (pe_fld (pv 0) rfl)) (pe_fld (pv 1) rfl)))), ?_⟩
    have e : ((endOf n v : Nat) : Int) = (n.at_ : Int) + (n.len : Int) + (v.fade : Int) := by unfold endOf; omega
    have k : Q (.int ((endOf n v : Nat) : Int)) H := k
    rw [e] at k
    exact ⟨_, rfl, n_at T h1 ⟨_, rfl, n_length T h1 ⟨_, _, rfl, rfl, _, rfl, v_fade T h2 ⟨_, _, rfl, rfl, k⟩⟩⟩⟩
def soundsAt (n : Note) (v : Voice) (t : Nat) : Bool := decide (n.at_ ≤ t) && decide (t < endOf n v)
def sp_sounds_at (A : Adr) : Sp := fun vs H Q _ => ∃ (a b : Addr) (n : Note) (v : Voice) (t : Nat), vs = [.ref a, .ref b, iv t] ∧ NoteAt A H a n ∧ VoiceAt A H b v ∧ Q (.bl (soundsAt n v t)) H
theorem ok_sounds_at (T : Txt K mg A) : FnOk P w K mg base CX0 2 A.f_sounds_at A.d_sounds_at ["note", "voice", "t"] (sp_sounds_at A) := by
  refine T.sounds_at.fn.ok sc_sounds_at (fun vs H Q E h => ?_) (fun cdv A' outer s H vs Q E hr h => ?_)
  · obtain ⟨a, b, n, v, t, rfl, _⟩ := h; rfl
  · obtain ⟨a, b, n, v, t, rfl, h1, h2, k⟩ := h
    refine ⟨_, (pss_one (ps_ret (pe_chain op_le op_lt (pe_fld (pv 0) rfl) (pv 2) (pcall T.note_end (ok_note_end T) (hr.mono (by decide)) pass0 (pa_cons (pv 0) (pa_cons (pv 1) pa_nil)))))), ?_⟩
    unfold soundsAt at k
    refine ⟨_, rfl, n_at T h1 ⟨_, rfl, _, _, rfl, rfl, tst (fun c => iteT ?_) fun c => iteF ?_⟩⟩
    · rw [decide_eq_true (by omega), Bool.true_and] at k
      refine ⟨_, rfl, _, rfl, a, b, n, v, rfl, h1, h2, _, _, rfl, rfl, ?_⟩
      show Q (.bl (decide ((t : Int) < ((endOf n v : Nat) : Int)))) H
      rw [dlt]
      exact k
    · rw [decide_eq_false (by omega), Bool.false_and] at k
      exact k
def givesOf (n : Note) (v : Voice) (val t : Nat) : Int := if soundsAt n v t = true then wave v.wave ((t - n.at_) * n.step % 65536) * ((v.loud n.len (t - n.at_) * n.level * val : Nat) : Int) / 2 ^ 24 else 0
def sp_given_at (A : Adr) : Sp := fun vs H Q _ => ∃ (a b : Addr) (n : Note) (v : Voice) (val t : Nat), vs = [.ref a, .ref b, iv val, iv t] ∧ NoteAt A H a n ∧ VoiceAt A H b v ∧ NOk n ∧ VOk v ∧ val ≤ 256 ∧ Q (.int (givesOf n v val t)) H
theorem ok_given_at (T : Txt K mg A) : FnOk P w K mg base CX0 3 A.f_given_at A.d_given_at ["note", "voice", "value", "t"] (sp_given_at A) := by
  refine T.given_at.fn.ok sc_given_at (fun vs H Q E h => ?_) (fun cdv A' outer s H vs Q E hr h => ?_)
  · obtain ⟨a, b, n, v, val, t, rfl, _⟩ := h; rfl
  · obtain ⟨a, b, n, v, val, t, rfl, h1, h2, on, ov, hval, k⟩ := h
    refine ⟨_, (pss_cons (ps_if (pt_not (pt_val (pcall T.sounds_at (ok_sounds_at T) (hr.mono (by decide)) pass0 (pa_cons (pv 0) (pa_cons (pv 1) (pa_cons (pv 3) pa_nil))))))
  (pss_one (ps_ret pe_int))
  pss_nil)
  (pss_cons (ps_set (i := 4) sc_given_at.nd rfl (Or.inl rfl) (pe_op op_sub (pv 3) (pe_fld (pv 0) rfl)))
  (pss_cons (ps_set (i := 5) sc_given_at.nd rfl (Or.inl rfl) (pcall T.wave_value (ok_wave_value T) (hr.mono (by decide)) pass0 (pa_cons (pe_fld (pv 1) rfl) (pa_cons (pe_op op_mod (pe_op op_mul (pv 4) (pe_fld (pv 0) rfl)) (pe_gi rfl T.c_ROUND)) pa_nil))))
  (pss_one (ps_ret (pe_op op_fdivL (pe_op op_mul (pe_op op_mul (pe_op op_mul (pv 5) (pcall T.loudness (ok_loudness T) (hr.mono (by decide)) pass0 (pa_cons (pv 1) (pa_cons (pe_fld (pv 0) rfl) (pa_cons (pv 4) pa_nil))))) (pe_fld (pv 0) rfl)) (pv 2)) (pe_gi rfl T.c_FULL_PRODUCT))))))), ?_⟩
    unfold givesOf at k
    refine ⟨_, rfl, _, rfl, _, rfl, a, b, n, v, t, rfl, h1, h2, _, rfl, ?_⟩
    cases hs : soundsAt n v t with
    | false =>
      rw [hs, if_neg (by decide)] at k
      exact iteT k
    | true =>
      rw [hs, if_pos rfl] at k
      have hat : n.at_ ≤ t := by
        unfold soundsAt at hs
        rw [Bool.and_eq_true] at hs
        exact of_decide_eq_true hs.1
      have ek : (t : Int) - (n.at_ : Int) = ((t - n.at_ : Nat) : Int) := by omega
      generalize hkk : t - n.at_ = kk at k ek
      have hst := on.step
      have hlv := on.level
      have hll := loud_le v ov.stay n.len kk
      have hw := wave_small v.wave (kk * n.step % 65536) (Nat.mod_lt _ (by decide))
      refine iteF ⟨_, rfl, _, rfl, n_at T h1 ⟨_, _, rfl, rfl, ?_⟩⟩
      refine ⟨_, rfl, v_wave T h2 ⟨_, rfl, _, rfl, n_step T h1 ⟨_, _, rfl, rfl, .inr ⟨by omega, by omega⟩, _, _, rfl, rfl, by show (0 : Int) < 65536; decide, ?_⟩⟩⟩
      refine ⟨v.wave, kk * n.step % 65536, ?_, ov.wave, Nat.mod_lt _ (by decide), ?_⟩
      · show [iv v.wave, V.int (((t : Int) - (n.at_ : Int)) * (n.step : Int) % 65536)] = [iv v.wave, V.int ((kk * n.step % 65536 : Nat) : Int)]
        rw [ek, Int.natCast_emod, Int.natCast_mul]; rfl
      · refine ⟨_, rfl, _, rfl, _, rfl, n_length T h1 ⟨_, rfl, b, v, n.len, kk, by show [V.ref b, iv n.len, V.int ((t : Int) - (n.at_ : Int))] = _; rw [ek], h2, ov, ?_⟩⟩
        refine ⟨_, _, rfl, rfl, .inl ⟨by omega, by omega⟩, _, rfl, n_level T h1 ⟨_, _, rfl, rfl, .inr ⟨by omega, by omega⟩, _, rfl, _, _, rfl, rfl, .inr ⟨by omega, by omega⟩, _, _, rfl, rfl, ⟨by decide, by decide⟩, ?_⟩⟩
        rw [Int.natCast_mul, Int.natCast_mul, ← Int.mul_assoc, ← Int.mul_assoc] at k
        exact k
end
end Sb
end
section
set_option Elab.async false
set_option linter.all false
set_option maxRecDepth 100000
set_option maxHeartbeats 4000000
namespace Sb
open PySem PySem.Spec PyProof.Rows L2 ScoreNs Mu
/-! ### a list that a comprehension fills -/
structure Acc (H H' : Hp) (D : Addr) (l : List V) : Prop where
  same : Same H H'
  at_ : H' D = some (.lst l)
theorem Acc.start {H : Hp} {D : Addr} (h : H D = none) : Acc H (upd H D (.lst [])) D [] := ⟨Same.new h, upd_same⟩
theorem Acc.push {H H' H2 : Hp} {D : Addr} {l : List V} {y : V} (x : Acc H H' D l) (h : H D = none) (s : Same H' H2) : Acc H (upd H2 D (.lst (l ++ [y]))) D (l ++ [y]) :=
  ⟨fun b o e => by rw [upd_ne (ne_of_none e h)]; exact s _ _ (x.same b o e), upd_same⟩
theorem Acc.more {H H' H2 : Hp} {D : Addr} {l : List V} (x : Acc H H' D l) (s : Same H' H2) : Acc H H2 D l := ⟨x.same.trans s, s _ _ x.at_⟩
theorem Acc.eq {H H' : Hp} {D : Addr} {l l' : List V} (x : Acc H H' D l) (e : l = l') : Acc H H' D l' := e ▸ x
theorem same_made {H H1 : Hp} {x dx C : Addr} (nx : H x = Option.none) (nd : H dx = Option.none) (h : ∀ b, b ≠ x → H1 b = (upd (upd H dx (.own x)) x (.ins C dx [])) b) : Same H H1 := Same.made (C := C) nx nd fun b o e hb => (h b hb).trans e
section
variable {P : Program} {w : World} {K : PySem.W.Frag} {mg : Str → Option Value} {base : Heap} {A : Adr}
def sp_Score (A : Adr) : Sp := fun vs H Q _ => ∃ x dx : Addr, vs = [.ref x] ∧ H x = some (.ins A.c_Score dx []) ∧ ∀ H' F, ScoreAt A H' x ScoreNs.empty F → (∀ b ∈ F, b = x ∨ H b = none) → (∀ b o, b ≠ x → H b = some o → H' b = some o) → Q .non H'
theorem ok_Score (T : Txt K mg A) : FnOk P w K mg base CX0 3 A.f_Score A.d_Score ["self"] (sp_Score A) := by
  refine T.Score.fn.ok sc_Score (fun vs H Q E h => ?_) (fun cdv A' outer s H vs Q E hr h => ?_)
  · obtain ⟨x, dx, rfl, _⟩ := h; rfl
  · obtain ⟨x, dx, rfl, h1, k⟩ := h
    have bk : ∀ sc own, blkC ["self", "number"] (defScope s_Score) sc own = true → blkC ["self", "number"] (defScope s_Score) sc own = true := fun _ _ z => z
    refine ⟨_, (pss_cons (ps_fld (pv 0) (pe_lc rfl sc_Score.nd (pi_range1 rfl T.b_range (pa_cons (pe_gi rfl T.c_VOICE_COUNT) pa_nil)) (own := [("number", 1)]) (blkOk_by (by show blkC ["self", "number"] (defScope s_Score) _ _ = true; decide +kernel)) (fun _ _ _ _ _ => (pg_name (i := 1) sc_Score.nd rfl (Or.inl rfl))) (fun _ _ _ _ _ => pts_nil) (fun _ _ _ _ _ => (pmake T.Voice (ok_Voice T) (hr.mono (by decide)) pass0 (pa_cons (pe_gr rfl T.t_AT_FIRST) pa_nil)))) rfl)
  (pss_cons (ps_fld (pv 0) (pe_lc rfl sc_Score.nd (pi_range1 rfl T.b_range (pa_cons (pe_gi rfl T.c_VOICE_COUNT) pa_nil)) (own := [("number", 1)]) (blkOk_by (by show blkC ["self", "number"] (defScope s_Score) _ _ = true; decide +kernel)) (fun _ _ _ _ _ => (pg_name (i := 1) sc_Score.nd rfl (Or.inl rfl))) (fun _ _ _ _ _ => pts_nil) (fun _ _ _ _ _ => (pe_lst pa_nil))) rfl)
  (pss_cons (ps_fld (pv 0) (pe_lst pa_nil) rfl)
  (pss_one (ps_fld (pv 0) pe_int rfl))))), ?_⟩
    have no := T.Score.no
    -- voices
    refine ⟨8, rfl, by decide, by decide, fun lv hlv => ?_⟩
    refine lc_range (n := 8) (fun i H' => ∃ vp : List (Addr × Voice), Acc H H' lv (vp.map fun p => .ref p.1) ∧ vp.length = i ∧ (∀ p ∈ vp, VoiceAt A H' p.1 p.2) ∧ vp.map (·.2) = List.replicate i QUIET) ⟨[], Acc.start hlv, rfl, fun _ h => (nomatch h), rfl⟩ (fun i H' hi ⟨vp, a1, a2, a3, a4⟩ => ?_) fun H1 ⟨vp, a1, a2, a3, a4⟩ => ?_
    · refine ⟨rfl, yesI fun y dy ny ndy ney => ⟨y, dy, _, QUIET, rfl, upd_same, .inr (T.q_AT_FIRST _), fun H2 e1 e2 => ⟨rfl, vp.map fun p => .ref p.1, ?_, ?_, vp ++ [(y, QUIET)], ?_, ?_, ?_, ?_⟩⟩⟩
      · have s2 : Same H' H2 := same_made ny ndy e2
        exact s2 _ _ a1.at_
      · rw [List.length_map, a2]; exact line16 (by omega)
      · rw [List.map_append]
        exact a1.push hlv (same_made ny ndy e2)
      · rw [List.length_append, a2]; rfl
      · have s2 : Same H' H2 := same_made ny ndy e2
        intro p hp
        rcases List.mem_append.mp hp with q | q
        · obtain ⟨d, e⟩ := a3 p q
          exact ⟨d, by rw [upd_ne (ne_of e a1.at_ (by intro z; cases z))]; exact s2 _ _ e⟩
        · rw [List.mem_singleton.mp q]
          refine ⟨dy, ?_⟩
          rw [upd_ne (fun z => by have := s2 _ _ a1.at_; rw [← z] at this; rw [e1] at this; cases this)]
          exact e1
      · rw [List.map_append, a4, List.replicate_succ']; rfl
    refine ⟨_, rfl, x, _, dx, _, rfl, a1.same _ _ h1, T.Score.cl, no "voices" (by decide), by decide, ?_⟩
    have x1 : x ≠ lv := ne_of_none h1 hlv
    -- lines
    refine ⟨8, rfl, by decide, by decide, fun ll hll => ?_⟩
    generalize hH2 : upd H1 x (.ins A.c_Score dx (putF "voices" (.ref lv) [])) = H2 at hll ⊢
    have b0 : H2 x = some (.ins A.c_Score dx (putF "voices" (.ref lv) [])) := by rw [← hH2]; exact upd_same
    have b1 : ∀ b o, b ≠ x → H1 b = some o → H2 b = some o := fun b o hb e => by rw [← hH2, upd_ne hb]; exact e
    have nvx : ∀ p ∈ vp, p.1 ≠ x := fun p hp z => by
      obtain ⟨d, e⟩ := a3 p hp
      rw [z, a1.same _ _ h1] at e
      have := HO.ins.inj (Option.some.inj e)
      exact absurd this.2.2 (by intro q; cases q)
    refine lc_range (n := 8) (fun i H' => ∃ lp : List (Addr × Line), Acc H2 H' ll (lp.map fun p => .ref p.1) ∧ lp.length = i ∧ (∀ p ∈ lp, H' p.1 = some (.lst []) ∧ p.2 = [] ∧ H2 p.1 = none ∧ p.1 ≠ ll)) ⟨[], Acc.start hll, rfl, fun _ h => (nomatch h)⟩ (fun i H' hi ⟨lp, c1, c2, c3⟩ => ?_) fun H3 ⟨lp, c1, c2, c3⟩ => ?_
    · refine ⟨rfl, yesI ⟨Nat.zero_le _, fun y hy => ⟨lp.map fun p => .ref p.1, ?_, ?_, lp ++ [(y, [])], ?_, ?_, ?_⟩⟩⟩
      · rw [upd_ne (ne_of_none c1.at_ hy)]; exact c1.at_
      · rw [List.length_map, c2]; exact line16 (by omega)
      · rw [List.map_append]
        exact c1.push hll (Same.new hy)
      · rw [List.length_append, c2]; rfl
      · have ny : ll ≠ y := ne_of_none c1.at_ hy
        intro p hp
        rcases List.mem_append.mp hp with q | q
        · obtain ⟨e1, e2, e3, e4⟩ := c3 p q
          exact ⟨by rw [upd_ne e4, upd_ne (ne_of_none e1 hy)]; exact e1, e2, e3, e4⟩
        · rw [List.mem_singleton.mp q]
          exact ⟨by rw [upd_ne ny.symm]; exact upd_same, rfl, c1.same.free hy, ny.symm⟩
    refine ⟨_, rfl, x, _, dx, _, rfl, c1.same _ _ b0, T.Score.cl, no "lines" (by decide), by show 1 < 1000; decide, ?_⟩
    -- notes, next_number
    refine ⟨Nat.zero_le _, fun ln hln => ?_⟩
    have x3 : x ≠ ln := fun z => by rw [← z, upd_same] at hln; cases hln
    refine ⟨_, rfl, x, _, dx, _, rfl, by rw [upd_ne x3]; exact upd_same, T.Score.cl, no "notes" (by decide), by show 2 < 1000; decide, ?_⟩
    refine ⟨_, rfl, x, _, dx, _, rfl, upd_same, T.Score.cl, no "next_number" (by decide), by show 3 < 1000; decide, ?_⟩
    have x2 : x ≠ ll := ne_of_none b0 hll
    have lvH2 : H2 lv = some (.lst (vp.map fun p => .ref p.1)) := b1 _ _ x1.symm a1.at_
    have d1 : lv ≠ ll := ne_of_none lvH2 hll
    have lnH3 : H3 ln = none := by rw [upd_ne x3.symm] at hln; exact hln
    have d2 : lv ≠ ln := ne_of_none (c1.same _ _ lvH2) lnH3
    have d3 : ll ≠ ln := ne_of_none c1.at_ lnH3
    -- an object other than x, kept
    have keep : ∀ b o, b ≠ x → b ≠ ln → H3 b = some o → upd (upd (upd (upd H3 x (.ins A.c_Score dx (putF "lines" (.ref ll) (putF "voices" (.ref lv) [])))) ln (.lst [])) x (.ins A.c_Score dx (putF "notes" (.ref ln) (putF "lines" (.ref ll) (putF "voices" (.ref lv) []))))) x (.ins A.c_Score dx (putF "next_number" (.int 1) (putF "notes" (.ref ln) (putF "lines" (.ref ll) (putF "voices" (.ref lv) []))))) b = some o := fun b o n1 n2 e => by
      rw [upd_ne n1, upd_ne n1, upd_ne n2, upd_ne n1]; exact e
    refine k _ (x :: lv :: ll :: ln :: (lp.map (·.1) ++ [])) ⟨dx, lv, ll, ln, vp, lp, [], ⟨?_, ?_, ?_, a4, ?_, ?_, ?_, ?_, fun _ h => (nomatch h), rfl, d1, d2, d3, ?_, List.nodup_nil⟩, rfl⟩ ?_ ?_
    · rw [upd_same]; rfl
    · exact keep _ _ x1.symm d2 (c1.same _ _ lvH2)
    · intro p hp
      obtain ⟨d, e⟩ := a3 p hp
      have e3 := c1.same _ _ (b1 _ _ (nvx p hp) e)
      exact ⟨d, keep _ _ (nvx p hp) (ne_of_none e3 lnH3) e3⟩
    · exact keep _ _ x2.symm d3 c1.at_
    · intro p hp
      obtain ⟨e1, e2, e3, e4⟩ := c3 p hp
      refine ⟨[], keep _ _ (fun z => ?_) (ne_of_none e1 lnH3) e1, fun _ h => (nomatch h), e2.symm⟩
      rw [z, b0] at e3; cases e3
    · have : ∀ (l : List (Addr × Line)) (n : Nat), l.length = n → (∀ p ∈ l, p.2 = []) → l.map (·.2) = List.replicate n [] := by
        intro l n h1 h2
        rw [← h1]
        exact List.eq_replicate_iff.mpr ⟨by rw [List.length_map], fun b hb => by obtain ⟨p, hp, e⟩ := List.mem_map.mp hb; rw [← e]; exact h2 p hp⟩
      exact this lp 8 c2 fun p hp => (c3 p hp).2.1
    · rw [upd_ne x3.symm, upd_ne x3.symm]; exact upd_same
    · intro p hp
      obtain ⟨e1, e2, e3, e4⟩ := c3 p hp
      exact ⟨fun z => (by rw [z, lvH2] at e3; cases e3), e4, ne_of_none e1 lnH3⟩
    · intro b hb
      have f2 : ∀ b, b ≠ x → H2 b = none → H b = none := fun b hb e => by
        cases q : H b with
        | none => rfl
        | some o => rw [b1 _ _ hb (a1.same _ _ q)] at e; cases e
      rcases List.mem_cons.mp hb with q | hb
      · exact .inl q
      rcases List.mem_cons.mp hb with q | hb
      · rw [q]; exact .inr hlv
      rcases List.mem_cons.mp hb with q | hb
      · rw [q]; exact .inr (f2 _ x2.symm hll)
      rcases List.mem_cons.mp hb with q | hb
      · rw [q]; exact .inr (f2 _ x3.symm (c1.same.free lnH3))
      · rw [List.append_nil] at hb
        obtain ⟨p, hp, rfl⟩ := List.mem_map.mp hb
        obtain ⟨e1, e2, e3, e4⟩ := c3 p hp
        exact .inr (f2 _ (fun z => by rw [z, b0] at e3; cases e3) e3)
    · intro b o hb e
      have e3 := c1.same _ _ (b1 _ _ hb (a1.same _ _ e))
      exact keep _ _ hb (ne_of_none e3 lnH3) e3
end
end Sb
end
section
set_option Elab.async false
set_option linter.all false
set_option maxRecDepth 100000
set_option maxHeartbeats 4000000
namespace Sb
open PySem PySem.Spec PyProof.Rows L2 ScoreNs Mu
section
variable {P : Program} {w : World} {K : PySem.W.Frag} {mg : Str → Option Value} {base : Heap} {A : Adr}
abbrev ScX (A : Adr) (H : Hp) (a : Addr) (s : Score) (np : List (Addr × Note)) : Prop := ∃ dx lv ll ln vp lp, Sc A H a s dx lv ll ln vp lp np
theorem ScX.same {H H' : Hp} {a : Addr} {s : Score} {np : List (Addr × Note)} (x : ScX A H a s np) (e : Same H H') : ScX A H' a s np := let ⟨dx, lv, ll, ln, vp, lp, h⟩ := x; ⟨dx, lv, ll, ln, vp, lp, h.same e⟩
def sp_voice_of (A : Adr) : Sp := fun vs H Q _ => ∃ (a b : Addr) (s : Score) (np : List (Addr × Note)) (n : Note), vs = [.ref a, .ref b] ∧ ScX A H a s np ∧ SOk s ∧ NoteAt A H b n ∧ n.voice < 8 ∧ ∀ c, VoiceAt A H c (s.voice n.voice) → Q (.ref c) H
theorem ok_voice_of (T : Txt K mg A) : FnOk P w K mg base CX0 1 A.f_voice_of A.d_voice_of ["score", "note"] (sp_voice_of A) := by
  refine T.voice_of.fn.ok sc_voice_of (fun vs H Q E h => ?_) (fun cdv A' outer s H vs Q E hr h => ?_)
  · obtain ⟨a, b, s, np, n, rfl, _⟩ := h; rfl
  · obtain ⟨a, b, s, np, n, rfl, ⟨dx, lv, ll, ln, vp, lp, x⟩, ok, hn, hv, k⟩ := h
    refine ⟨_, (pss_one (ps_ret (pe_ix ix_list (pe_fld (pv 0) rfl) (pe_fld (pv 1) rfl) (fun _ _ => rfl)))), ?_⟩
    have e := ok.voice_at hv
    rw [← x.ve, List.getElem?_map] at e
    cases q : vp[n.voice]? with
    | none => rw [q] at e; cases e
    | some p =>
      rw [q] at e
      have e2 : p.2 = s.voice n.voice := Option.some.inj e
      refine ⟨_, rfl, s_voices T x.ob ⟨_, rfl, n_voice T hn ⟨lv, _, _, _, rfl, rfl, SqL.of x.hv, atI_nat (v := .ref p.1) (by rw [List.getElem?_map, q]; rfl), k _ ?_⟩⟩⟩
      rw [← e2]
      exact x.vs p (List.mem_of_getElem? q)
def sp_note_numbered (A : Adr) : Sp := fun vs H Q _ => ∃ (a : Addr) (s : Score) (np : List (Addr × Note)) (i : Nat), vs = [.ref a, iv i] ∧ ScX A H a s np ∧ (∀ (j : Nat) (p : Addr × Note), np[j]? = some p → p.2.id = i → Q (.ref p.1) H) ∧ ((∀ p ∈ np, p.2.id ≠ i) → Q .non H)
theorem ok_note_numbered (T : Txt K mg A) : FnOk P w K mg base CX0 1 A.f_note_numbered A.d_note_numbered ["score", "number"] (sp_note_numbered A) := by
  refine T.note_numbered.fn.ok sc_note_numbered (fun vs H Q E h => ?_) (fun cdv A' outer s H vs Q E hr h => ?_)
  · obtain ⟨a, s, np, i, rfl, _⟩ := h; rfl
  · obtain ⟨a, s, np, i, rfl, ⟨dx, lv, ll, ln, vp, lp, x⟩, k1, k0⟩ := h
    refine ⟨_, (pss_cons (ps_for PassesOwn.never rfl (pi_list (pe_fld (pv 0) rfl)) (pg_name (i := 2) sc_note_numbered.nd rfl (Or.inl rfl))
  (pss_one (ps_if (pt_cmpR op_eq (pe_fld (pv 2) rfl) (pv 1) (nomark _))
  (pss_one (ps_ret (pv 2)))
  pss_nil)))
  (pss_one (ps_ret pe_non))), ?_⟩
    refine ⟨_, rfl, s_notes T x.ob ⟨ln, rfl, ⟨_, SqL.of x.hn⟩, for_list (K := K) (a := ln) (xs := np.map fun p => V.ref p.1) (fun j σ H' => ∃ v : Option V, σ = [some (.ref a), some (iv i), v] ∧ H' = H ∧ ∀ p ∈ np.take j, p.2.id ≠ i) ⟨none, rfl, rfl, fun p hp => by simp at hp⟩ (fun j σ H' _ ⟨_, _, e, _⟩ => by rw [e]; exact SqL.of x.hn) ?_ ?_⟩⟩
    · rintro j y σ H' hj ⟨v, rfl, rfl, hf⟩
      obtain ⟨p, hp, rfl⟩ := of_map hj
      have hn := x.ns p (List.mem_of_getElem? hp)
      refine ⟨_, rfl, n_number T hn ⟨_, rfl, rfl, tst (fun c => iteT ?_) fun c => iteF ?_⟩⟩
      · have c : ((p.2.id : Nat) : Int) = (i : Int) := V.int.inj c
        exact ⟨_, rfl, k1 j p hp (by omega)⟩
      · refine ⟨_, rfl, rfl, fun q hq => ?_⟩
        rw [take_snoc hp] at hq
        rcases List.mem_append.mp hq with z | z
        · exact hf q z
        · rw [List.mem_singleton.mp z]
          intro e; exact c (by show V.int _ = V.int _; rw [e])
    · rintro σ H' ⟨v, rfl, rfl, hf⟩
      rw [List.length_map, List.take_length] at hf
      exact k0 hf
def sp_sounding (A : Adr) : Sp := fun vs H Q _ => ∃ (a : Addr) (s : Score) (np : List (Addr × Note)) (t : Nat), vs = [.ref a, iv t] ∧ ScX A H a s np ∧ SOk s ∧ ∀ D H', H D = none → Acc H H' D (nv (s.at_ t)) → Q (.ref D) H'
theorem filter_snoc {α : Type} {p : α → Bool} {l : List α} {i : Nat} {x : α} (h : l[i]? = some x) : (l.take (i + 1)).filter p = (l.take i).filter p ++ (if p x = true then [x] else []) := by
  rw [take_snoc h, List.filter_append]
  congr 1
  cases e : p x <;> simp [e]
theorem Sc.nok {H : Hp} {a dx lv ll ln : Addr} {s : Score} {vp : List (Addr × Voice)} {lp : List (Addr × Line)} {np : List (Addr × Note)} (x : Sc A H a s dx lv ll ln vp lp np) (ok : SOk s) {p : Addr × Note} (hp : p ∈ np) : NOk p.2 := ok.ns p.2 (by rw [← x.ne]; exact List.mem_map_of_mem hp)
theorem ok_sounding (T : Txt K mg A) : FnOk P w K mg base CX0 3 A.f_sounding A.d_sounding ["score", "t"] (sp_sounding A) := by
  refine T.sounding.fn.ok sc_sounding (fun vs H Q E h => ?_) (fun cdv A' outer s H vs Q E hr h => ?_)
  · obtain ⟨a, s, np, i, rfl, _⟩ := h; rfl
  · obtain ⟨a, s, np, t, rfl, hx, ok, k⟩ := h
    obtain ⟨dx, lv, ll, ln, vp, lp, x⟩ := id hx
    refine ⟨_, (pss_one (ps_ret (pe_lc rfl sc_sounding.nd (pi_list (pe_fld (pv 0) rfl)) (own := [("note", 2)]) (blkOk_by (by show blkC ["score", "t", "note"] (defScope s_sounding) _ _ = true; decide +kernel)) (fun _ _ _ _ _ => (pg_name (i := 2) sc_sounding.nd rfl (Or.inl rfl))) (fun _ _ _ _ _ => (pts_one (pt_val (pcall T.sounds_at (ok_sounds_at T) (hr.mono (by decide)) pass0 (pa_cons (pv 2) (pa_cons (pcall T.voice_of (ok_voice_of T) (hr.mono (by decide)) pass0 (pa_cons (pv 0) (pa_cons (pv 2) pa_nil))) (pa_cons (pv 1) pa_nil))))))) (fun _ _ _ _ _ => (pe_fldK K rfl (pv 2) rfl))))), ?_⟩
    refine ⟨_, rfl, s_notes T x.ob ⟨ln, rfl, ⟨_, SqL.of x.hn⟩, fun D hD => ?_⟩⟩
    refine lc_list (K := K) (a := ln) (xs := np.map fun p => V.ref p.1) (fun j H' => Acc H H' D (nv (((np.take j).filter fun p => s.sounds p.2 t).map fun p => p.2.id))) (Acc.start hD) (fun j H' _ q => SqL.of (q.same _ _ x.hn)) (fun j y H' hj q => ?_) fun H' q => ?_
    · obtain ⟨p, hp, rfl⟩ := of_map hj
      have pm := List.mem_of_getElem? hp
      have hn := (x.ns p pm).same q.same
      refine ⟨rfl, _, rfl, _, rfl, _, rfl, a, p.1, s, np, p.2, rfl, hx.same q.same, ok, hn, (x.nok ok pm).voice, fun c hc => ⟨_, rfl, p.1, c, p.2, _, t, rfl, hn, hc, _, rfl, ?_⟩⟩
      have e : soundsAt p.2 (s.voice p.2.voice) t = s.sounds p.2 t := rfl
      rw [filter_snoc hp]
      rw [e]
      cases hs : s.sounds p.2 t with
      | true =>
        refine iteT ⟨_, rfl, n_number T hn ⟨_, q.at_, ?_, ?_⟩⟩
        · rw [List.length_map, List.length_map]
          refine line16 (Nat.le_trans (List.length_filter_le _ _) ?_)
          rw [List.length_take]
          have := ok.nlen
          rw [← x.ne, List.length_map] at this
          omega
        · refine (q.push hD (Same.refl H')).eq ?_
          rw [if_pos rfl, List.map_append, nv_app]; rfl
      | false =>
        refine iteF (q.eq ?_)
        rw [if_neg (by decide), List.append_nil]
    · refine k D H' hD (q.eq ?_)
      rw [List.length_map, List.take_length]
      unfold Score.at_
      rw [← x.ne, List.filter_map, List.map_map]
      rfl
end
end Sb
end
section
set_option Elab.async false
set_option linter.all false
set_option maxRecDepth 100000
set_option maxHeartbeats 4000000
namespace Sb
open PySem PySem.Spec PyProof.Rows L2 ScoreNs Mu
section
variable {P : Program} {w : World} {K : PySem.W.Frag} {mg : Str → Option Value} {base : Heap} {A : Adr}
theorem ScX.len {H : Hp} {a : Addr} {s : Score} {np : List (Addr × Note)} (x : ScX A H a s np) (ok : SOk s) : np.length ≤ 64 := by
  obtain ⟨dx, lv, ll, ln, vp, lp, x⟩ := x
  have := ok.nlen
  rw [← x.ne, List.length_map] at this
  exact this
theorem nv_int (l : List Nat) : nv l = (l.map fun (n : Nat) => (n : Int)).map V.int := by rw [List.map_map]; rfl
def nextV (o : Option Nat) : V := match o with | none => .non | some u => iv u
def sp_next_change (A : Adr) : Sp := fun vs H Q _ => ∃ (a : Addr) (s : Score) (np : List (Addr × Note)) (t : Nat), vs = [.ref a, iv t] ∧ ScX A H a s np ∧ SOk s ∧ ∀ H', Same H H' → Q (nextV (s.next_ t)) H'
theorem ok_next_change (T : Txt K mg A) : FnOk P w K mg base CX0 2 A.f_next_change A.d_next_change ["score", "t"] (sp_next_change A) := by
  refine T.next_change.fn.ok sc_next_change (fun vs H Q E h => ?_) (fun cdv A' outer s H vs Q E hr h => ?_)
  · obtain ⟨a, s, np, i, rfl, _⟩ := h; rfl
  · obtain ⟨a, s, np, t, rfl, hx, ok, k⟩ := h
    have hlen := hx.len ok
    obtain ⟨dx, lv, ll, ln, vp, lp, x⟩ := id hx
    refine ⟨_, (pss_cons (ps_setLc (i := 2) rfl sc_next_change.nd rfl rfl (sw_true rfl rfl rfl rfl) (pi_list (pe_fld (pv 0) rfl)) (own := [("note", 4)]) (blkOk_by (by show blkC ["score", "t", "begins", "ends", "note", "time"] (defScope s_next_change) _ _ = true; decide +kernel)) (fun _ _ _ _ _ => (pg_name (i := 4) sc_next_change.nd rfl (Or.inl rfl))) (fun _ _ _ _ _ => pts_nil) (fun _ _ _ _ _ => (pe_fldK K rfl (pv 4) rfl)))
  (pss_cons (ps_setLc (i := 3) rfl sc_next_change.nd rfl rfl (sw_true rfl rfl rfl rfl) (pi_list (pe_fld (pv 0) rfl)) (own := [("note", 4)]) (blkOk_by (by show blkC ["score", "t", "begins", "ends", "note", "time"] (defScope s_next_change) _ _ = true; decide +kernel)) (fun _ _ _ _ _ => (pg_name (i := 4) sc_next_change.nd rfl (Or.inl rfl))) (fun _ _ _ _ _ => pts_nil) (fun _ _ _ _ _ => (pcall T.note_end (ok_note_end T) (hr.mono (by decide)) pass0 (pa_cons (pv 4) (pa_cons (pcall T.voice_of (ok_voice_of T) (hr.mono (by decide)) pass0 (pa_cons (pv 0) (pa_cons (pv 4) pa_nil))) pa_nil)))))
  (pss_one (ps_ret (pe_minD rfl rfl T.b_min (pa_cons (pe_lc rfl sc_next_change.nd (pi_list (pe_op op_cat (pv 2) (pv 3))) (own := [("time", 5)]) (blkOk_by (by show blkC ["score", "t", "begins", "ends", "note", "time"] (defScope s_next_change) _ _ = true; decide +kernel)) (fun _ _ _ _ _ => (pg_name (i := 5) sc_next_change.nd rfl (Or.inl rfl))) (fun _ _ _ _ _ => (pts_one (pt_cmpR op_gt (pv 5) (pv 1) (nomark _)))) (fun _ _ _ _ _ => (pv 5))) pa_nil)))))), ?_⟩
    refine ⟨_, rfl, s_notes T x.ob ⟨ln, rfl, ⟨_, SqL.of x.hn⟩, fun D1 hD1 => ?_⟩⟩
    refine lc_list (K := K) (a := ln) (xs := np.map fun p => V.ref p.1) (fun j H' => Acc H H' D1 (nv ((np.take j).map fun p => p.2.at_))) (Acc.start hD1) (fun j H' _ q => SqL.of (q.same _ _ x.hn)) (fun j y H' hj q => ?_) fun H1 q1 => ?_
    · obtain ⟨p, hp, rfl⟩ := of_map hj
      have hn := (x.ns p (List.mem_of_getElem? hp)).same q.same
      refine ⟨rfl, yesI ⟨_, rfl, n_at T hn ⟨_, q.at_, ?_, (q.push hD1 (Same.refl H')).eq ?_⟩⟩⟩
      · rw [List.length_map, List.length_map, List.length_take]; exact line16 (by omega)
      · rw [take_snoc hp, List.map_append, nv_app]; rfl
    have x1 := x.same q1.same
    refine ⟨_, rfl, s_notes T x1.ob ⟨ln, rfl, ⟨_, SqL.of x1.hn⟩, fun D2 hD2 => ?_⟩⟩
    refine lc_list (K := K) (a := ln) (xs := np.map fun p => V.ref p.1) (fun j H' => Acc H1 H' D2 (nv ((np.take j).map fun p => s.ends p.2))) (Acc.start hD2) (fun j H' _ q => SqL.of (q.same _ _ x1.hn)) (fun j y H' hj q => ?_) fun H2 q2 => ?_
    · obtain ⟨p, hp, rfl⟩ := of_map hj
      have pm := List.mem_of_getElem? hp
      have hn := (x1.ns p pm).same q.same
      refine ⟨rfl, yesI ⟨_, rfl, _, rfl, _, rfl, a, p.1, s, np, p.2, rfl, (hx.same q1.same).same q.same, ok, hn, (x.nok ok pm).voice, fun c hc => ⟨p.1, c, p.2, _, rfl, hn, hc, _, q.at_, ?_, (q.push hD2 (Same.refl H')).eq ?_⟩⟩⟩
      · rw [List.length_map, List.length_map, List.length_take]; exact line16 (by omega)
      · rw [take_snoc hp, List.map_append, nv_app]; rfl
    have e1 := q2.same _ _ q1.at_
    refine ⟨_, rfl, _, rfl, D1, D2, _, _, rfl, rfl, e1, q2.at_, ?_, fun C hC => ⟨C, rfl, ⟨_, SqL.of upd_same⟩, fun D3 hD3 => ?_⟩⟩
    · simp only [List.length_map, List.length_take]; exact Nat.le_of_lt (line16 (by omega))
    rw [List.length_map, List.take_length] at q1 q2 e1
    generalize hbe : (np.map fun p => p.2.at_) ++ (np.map fun p => s.ends p.2) = be
    have hbl : be.length ≤ 128 := by rw [← hbe, List.length_append, List.length_map, List.length_map]; omega
    have hC3 : (upd H2 C (.lst (nv (np.map fun p => p.2.at_) ++ nv (np.map fun p => s.ends p.2)))) C = some (.lst (nv be)) := by rw [upd_same, ← nv_app, hbe]
    have s3 : Same H (upd H2 C (.lst (nv (np.map fun p => p.2.at_) ++ nv (np.map fun p => s.ends p.2)))) := (q1.same.trans q2.same).trans (Same.new hC)
    rw [List.length_map, List.take_length] at hD3 ⊢
    generalize upd H2 C (.lst (nv (np.map fun p => p.2.at_) ++ nv (np.map fun p => s.ends p.2))) = H3 at hC3 s3 hD3 ⊢
    refine lc_list (K := K) (a := C) (xs := nv be) (fun j H' => Acc H3 H' D3 (nv ((be.take j).filter fun u => decide (t < u)))) (Acc.start hD3) (fun j H' _ q => SqL.of (q.same _ _ hC3)) (fun j y H' hj q => ?_) fun H4 q4 => ?_
    · obtain ⟨u, hu, rfl⟩ := of_nv hj
      refine ⟨rfl, _, rfl, _, rfl, _, _, rfl, rfl, tst (fun c => iteT ?_) fun c => iteF ?_⟩
      · refine ⟨_, rfl, _, q.at_, ?_, (q.push hD3 (Same.refl H')).eq ?_⟩
        · rw [List.length_map]
          refine line16 (Nat.le_trans (List.length_filter_le _ _) ?_)
          rw [List.length_take]; omega
        · rw [filter_snoc hu, if_pos (decide_eq_true (by omega)), nv_app]; rfl
      · refine q.eq ?_
        rw [filter_snoc hu, if_neg (by rw [decide_eq_false (by omega)]; decide), List.append_nil]
    rw [List.length_map, List.take_length] at q4
    have et : be.filter (fun u => decide (t < u)) = turns2 s t := by
      unfold turns2
      rw [← hbe, ← x.ne, List.map_map, List.map_map]; rfl
    refine ⟨D3, (be.filter fun u => decide (t < u)).map fun (n : Nat) => (n : Int), rfl, by rw [← nv_int]; exact SqL.of q4.at_, fun h0 => ?_, fun m hm hmin => ?_⟩
    · have : turns2 s t = [] := by rw [← et]; exact List.map_eq_nil_iff.mp h0
      have e := next_none this
      have k := k H4 (s3.trans q4.same)
      rw [e] at k
      exact k
    · obtain ⟨u, hu, rfl⟩ := List.mem_map.mp hm
      have e : s.next_ t = some u := next_some (by rw [← et]; exact hu) fun y hy => by
        rw [← et] at hy
        have := hmin _ (List.mem_map_of_mem (f := fun (n : Nat) => (n : Int)) hy)
        omega
      have k := k H4 (s3.trans q4.same)
      rw [e] at k
      exact k
/-- the notes that a part may hear -/
def hp (s : Score) (first m : Nat) (np : List (Addr × Note)) : List (Addr × Note) := np.filter fun p => heard s first m p.2
def sp_heard_within (A : Adr) : Sp := fun vs H Q _ => ∃ (a : Addr) (s : Score) (np : List (Addr × Note)) (first m : Nat), vs = [.ref a, iv first, iv (first + m)] ∧ ScX A H a s np ∧ SOk s ∧ ∀ D H', H D = none → Acc H H' D ((hp s first m np).map fun p => .ref p.1) → Q (.ref D) H'
theorem ok_heard_within (T : Txt K mg A) : FnOk P w K mg base CX0 2 A.f_heard_within A.d_heard_within ["score", "first", "end"] (sp_heard_within A) := by
  refine T.heard_within.fn.ok sc_heard_within (fun vs H Q E h => ?_) (fun cdv A' outer s H vs Q E hr h => ?_)
  · obtain ⟨a, s, np, i, j, rfl, _⟩ := h; rfl
  · obtain ⟨a, s, np, first, m, rfl, hx, ok, k⟩ := h
    have hlen := hx.len ok
    obtain ⟨dx, lv, ll, ln, vp, lp, x⟩ := id hx
    refine ⟨_, (pss_one (ps_ret (pe_lc rfl sc_heard_within.nd (pi_list (pe_fld (pv 0) rfl)) (own := [("note", 3)]) (blkOk_by (by show blkC ["score", "first", "end", "note"] (defScope s_heard_within) _ _ = true; decide +kernel)) (fun _ _ _ _ _ => (pg_name (i := 3) sc_heard_within.nd rfl (Or.inl rfl))) (fun _ _ _ _ _ => (pts_one (PW.pt (pw_and (pt_cmpR op_lt (pe_fldK K rfl (pv 3) rfl) (pv 2) (nomark _)) (pw_and1 (pt_cmpR op_lt (pv 1) (pcall T.note_end (ok_note_end T) (hr.mono (by decide)) pass0 (pa_cons (pv 3) (pa_cons (pcall T.voice_of (ok_voice_of T) (hr.mono (by decide)) pass0 (pa_cons (pv 0) (pa_cons (pv 3) pa_nil))) pa_nil))) (nomark _))))))) (fun _ _ _ _ _ => (pv 3))))), ?_⟩
    refine ⟨_, rfl, s_notes T x.ob ⟨ln, rfl, ⟨_, SqL.of x.hn⟩, fun D hD => ?_⟩⟩
    refine lc_list (K := K) (a := ln) (xs := np.map fun p => V.ref p.1) (fun j H' => Acc H H' D ((hp s first m (np.take j)).map fun p => .ref p.1)) (Acc.start hD) (fun j H' _ q => SqL.of (q.same _ _ x.hn)) (fun j y H' hj q => ?_) fun H' q => ?_
    · obtain ⟨p, hp', rfl⟩ := of_map hj
      have pm := List.mem_of_getElem? hp'
      have hn := (x.ns p pm).same q.same
      have no : heard s first m p.2 = false → Acc H H' D ((hp s first m (np.take (j + 1))).map fun p => .ref p.1) := fun e => by
        refine q.eq ?_
        unfold hp
        rw [filter_snoc hp', if_neg (by rw [e]; decide), List.append_nil]
      refine ⟨rfl, _, rfl, n_at T hn ⟨_, rfl, _, _, rfl, rfl, tst (fun c => iteT ?_) fun c => iteF (iteF (no ?_))⟩⟩
      · refine ⟨_, rfl, _, rfl, _, rfl, _, rfl, a, p.1, s, np, p.2, rfl, hx.same q.same, ok, hn, (x.nok ok pm).voice, fun c2 hc => ⟨p.1, c2, p.2, _, rfl, hn, hc, _, _, rfl, rfl, tst (fun d => iteT ?_) fun d => iteF (no ?_)⟩⟩
        · refine ⟨_, rfl, _, q.at_, ?_, (q.push hD (Same.refl H')).eq ?_⟩
          · rw [List.length_map]
            refine line16 (Nat.le_trans (List.length_filter_le _ _) ?_)
            rw [List.length_take]; omega
          · have e : heard s first m p.2 = true := by
              unfold heard
              rw [decide_eq_true (show p.2.at_ < first + m by omega), decide_eq_true (show first < s.ends p.2 from Int.ofNat_lt.mp d)]; rfl
            unfold hp
            rw [filter_snoc hp', if_pos e, List.map_append]; rfl
        · unfold heard
          rw [decide_eq_false (show ¬ first < s.ends p.2 from fun z => d (Int.ofNat_lt.mpr z)), Bool.and_false]
      · unfold heard
        rw [decide_eq_false (show ¬ p.2.at_ < first + m by omega), Bool.false_and]
    · refine k D H' hD (q.eq ?_)
      rw [List.length_map, List.take_length]
/-! ### sums -/
def sp_line_part : Sp := fun vs H Q _ => ∃ (l : Addr) (pt : Line) (first n : Nat), vs = [.ref l, iv first, iv n] ∧ LineAt H l pt ∧ LOk pt ∧ n ≤ 256 ∧ first ≤ 1099511627776 ∧ ∀ D H', H D = none → Acc H H' D (nv ((List.range n).map fun i => Line.at_ pt (first + i))) → Q (.ref D) H'
theorem ok_line_part (T : Txt K mg A) : FnOk P w K mg base CX0 3 A.f_line_part A.d_line_part ["points", "first", "n"] sp_line_part := by
  refine T.line_part.fn.ok sc_line_part (fun vs H Q E h => ?_) (fun cdv A' outer s H vs Q E hr h => ?_)
  · obtain ⟨l, pt, first, n, rfl, _⟩ := h; rfl
  · obtain ⟨l, pt, first, n, rfl, hl, ok, hn, hf, k⟩ := h
    refine ⟨_, (pss_one (ps_ret (pe_lc rfl sc_line_part.nd (pi_range2 rfl T.b_range (pa_cons (pv 1) (pa_cons (pe_op op_add (pv 1) (pv 2)) pa_nil))) (own := [("t", 3)]) (blkOk_by (by show blkC ["points", "first", "n", "t"] (defScope s_line_part) _ _ = true; decide +kernel)) (fun _ _ _ _ _ => (pg_name (i := 3) sc_line_part.nd rfl (Or.inl rfl))) (fun _ _ _ _ _ => pts_nil) (fun _ _ _ _ _ => (pcall T.line_value (ok_line_value T) (hr.mono (by decide)) pass0 (pa_cons (pv 0) (pa_cons (pv 3) pa_nil))))))), ?_⟩
    refine ⟨_, rfl, _, rfl, _, rfl, _, _, rfl, rfl, _, _, rfl, ⟨by omega, by omega, by omega, by omega⟩, ?_⟩
    rw [show ((first : Int) + (n : Int) - (first : Int)).toNat = n by omega]
    intro D hD
    refine lc_range (n := n) (fun i H' => Acc H H' D (nv ((List.range i).map fun i => Line.at_ pt (first + i)))) (Acc.start hD) (fun i H' hi q => ?_) fun H' q => k D H' hD q
    refine ⟨rfl, yesI ⟨_, rfl, _, rfl, l, pt, first + i, rfl, hl.same q.same, ok, _, q.at_, ?_, (q.push hD (Same.refl H')).eq ?_⟩⟩
    · rw [List.length_map, List.length_map, List.length_range]; exact line16 (by omega)
    · rw [List.range_succ, List.map_append, nv_app]; rfl
def sp_note_part (K : PySem.W.Frag) (A : Adr) : Sp := fun vs H Q _ => ∃ (a b va : Addr) (s : Score) (np : List (Addr × Note)) (n : Note) (first m : Nat), vs = [.ref a, .ref b, .ref va, iv first] ∧ ScX A H a s np ∧ SOk s ∧ NoteAt A H b n ∧ NOk n ∧ m ≤ 256 ∧ first ≤ 1099511627776 ∧
  H va = some (.lst (nv ((List.range m).map fun i => (s.line n.voice).at_ (first + i)))) ∧ ∀ D H', H D = none → Acc H H' D (((List.range m).map fun i => s.gives n (first + i)).map V.int) → Q (.ref D) H'
theorem line_at_le {pt : Line} (ok : LOk pt) (t : Nat) : Line.at_ pt t ≤ 256 := by
  have fr : ∀ (r : Line) (a : Nat × Nat), (∀ p ∈ r, p.2 ≤ 256) → a.2 ≤ 256 → a.1 ≤ t → Line.from_ a r t ≤ 256 := by
    intro r
    induction r with
    | nil => intro a _ h _; exact h
    | cons b r ih =>
      intro a hr ha hat
      by_cases h : t < b.1
      · have e := from_int (r := r) hat h
        have hb := hr b List.mem_cons_self
        have hd : (0 : Int) < (b.1 : Int) - a.1 := by omega
        have h1 : ((b.2 : Int) - a.2) * ((t : Int) - a.1) ≤ (256 - a.2) * ((b.1 : Int) - a.1) := by
          have s1 : ((b.2 : Int) - a.2) * ((t : Int) - a.1) ≤ (256 - a.2) * ((t : Int) - a.1) := Int.mul_le_mul_of_nonneg_right (by omega) (by omega)
          have s2 : (256 - (a.2 : Int)) * ((t : Int) - a.1) ≤ (256 - a.2) * ((b.1 : Int) - a.1) := Int.mul_le_mul_of_nonneg_left (by omega) (by omega)
          omega
        have h2 : ((b.2 : Int) - a.2) * ((t : Int) - a.1) / ((b.1 : Int) - a.1) ≤ 256 - a.2 := by
          refine Int.le_trans (Int.ediv_le_ediv hd h1) ?_
          rw [Int.mul_ediv_cancel _ (by omega)]
          exact Int.le_refl _
        omega
      · rw [from_skip h]
        exact ih b (fun p hp => hr p (List.mem_cons_of_mem _ hp)) (hr b List.mem_cons_self) (by omega)
  cases pt with
  | nil => exact Nat.le_refl _
  | cons a r =>
    show (if t ≤ a.1 then a.2 else Line.from_ a r t) ≤ 256
    have ha := (ok.pts a List.mem_cons_self).2
    split
    · exact ha
    · exact fr r a (fun p hp => (ok.pts p (List.mem_cons_of_mem _ hp)).2) ha (by omega)
theorem ok_note_part (T : Txt K mg A) : FnOk P w K mg base CX0 4 A.f_note_part A.d_note_part ["score", "note", "values", "first"] (sp_note_part K A) := by
  refine T.note_part.fn.ok sc_note_part (fun vs H Q E h => ?_) (fun cdv A' outer s H vs Q E hr h => ?_)
  · obtain ⟨a, b, va, s, np, n, first, m, rfl, _⟩ := h; rfl
  · obtain ⟨a, b, va, s, np, n, first, m, rfl, hx, ok, hb, on, hm, hf, hva, k⟩ := h
    refine ⟨_, (pss_cons (ps_set (i := 4) sc_note_part.nd rfl (Or.inr rfl) (pcall T.voice_of (ok_voice_of T) (hr.mono (by decide)) pass0 (pa_cons (pv 0) (pa_cons (pv 1) pa_nil))))
  (pss_one (ps_ret (pe_lc rfl sc_note_part.nd (pi_enumS rfl T.b_enumerate (pv 2) (pv 3)) (own := [("t", 5), ("value", 6)]) (blkOk_by (by show blkC ["score", "note", "values", "first", "voice", "t", "value"] (defScope s_note_part) _ _ = true; decide +kernel)) (fun _ _ _ _ _ => pg_two K 5 6 rfl rfl sc_note_part.nd rfl rfl rfl rfl) (fun _ _ _ _ _ => pts_nil) (fun _ _ _ _ _ => (pcall T.given_at (ok_given_at T) (hr.mono (by decide)) pass0 (pa_cons (pv 1) (pa_cons (pv 4) (pa_cons (pv 6) (pa_cons (pv 5) pa_nil)))))))))), ?_⟩
    refine ⟨_, rfl, _, rfl, a, b, s, np, n, rfl, hx, ok, hb, on.voice, fun c hc => ?_⟩
    refine ⟨_, rfl, _, rfl, va, _, _, rfl, rfl, by omega, by omega, SqL.of hva, fun D hD => ?_⟩
    refine lc_pair (n := m) (fun i H' => Acc H H' D (((List.range i).map fun i => s.gives n (first + i)).map V.int)) (pairing_enum (xs := nv ((List.range m).map fun i => (s.line n.voice).at_ (first + i))) (by simp) fun i H' _ q => SqL.of (q.same _ _ hva)) (Acc.start hD) (fun i H' Tp hi q hT => ?_) fun H' q => k D H' hD q
    have e1 : (nv ((List.range m).map fun i => (s.line n.voice).at_ (first + i))).getD i .non = iv ((s.line n.voice).at_ (first + i)) := getD_some (at_nv (by rw [List.getElem?_map, List.getElem?_range hi]; rfl))
    rw [e1]
    refine ⟨Tp, _, rfl, SqT.of upd_same, rfl, _, _, rfl, _, _, rfl, rfl, rfl, yesI ?_⟩
    have s1 : Same H' (upd H' Tp (.tup [.int ((first : Int) + (i : Nat)), iv ((s.line n.voice).at_ (first + i))])) := Same.new hT
    refine ⟨_, rfl, _, rfl, _, rfl, _, rfl, b, c, n, s.voice n.voice, (s.line n.voice).at_ (first + i), first + i, rfl, (hb.same q.same).same s1, (hc.same q.same).same s1, on, ok.voice _, line_at_le (ok.line _) _, _, s1 _ _ q.at_, ?_, (q.push hD s1).eq ?_⟩
    · rw [List.length_map, List.length_map, List.length_range]; exact line16 (by omega)
    · rw [List.range_succ, List.map_append, List.map_append]; rfl
end
end Sb
end
section
set_option Elab.async false
set_option linter.all false
set_option maxRecDepth 100000
set_option maxHeartbeats 4000000
namespace Sb
open PySem PySem.Spec PyProof.Rows L2 ScoreNs Mu
section
variable {P : Program} {w : World} {K : PySem.W.Frag} {mg : Str → Option Value} {base : Heap} {A : Adr}
def sp_sums (A : Adr) : Sp := fun vs H Q _ => ∃ (a : Addr) (s : Score) (np : List (Addr × Note)) (first n : Nat), vs = [.ref a, iv first, iv n] ∧ ScX A H a s np ∧ SOk s ∧ n ≤ 256 ∧ first ≤ 1099511627776 ∧ ∀ D H', H D = none → Acc H H' D (((List.range n).map fun i => s.sum (first + i)).map V.int) → Q (.ref D) H'
theorem ok_sums (T : Txt K mg A) : FnOk P w K mg base CX0 5 A.f_sums A.d_sums ["score", "first", "n"] (sp_sums A) := by
  refine T.sums.fn.ok sc_sums (fun vs H Q E h => ?_) (fun cdv A' outer s H vs Q E hr h => ?_)
  · obtain ⟨a, s, np, i, j, rfl, _⟩ := h; rfl
  · obtain ⟨a, s, np, first, n, rfl, hx, ok, hn, hf, k⟩ := h
    refine ⟨_, (pss_cons (ps_set (i := 3) sc_sums.nd rfl (Or.inl rfl) (pe_op op_rep (pe_lst (pa_cons pe_int pa_nil)) (pv 2)))
  (pss_cons (ps_setLc (i := 4) rfl sc_sums.nd rfl rfl (sw_true rfl rfl rfl rfl) (pi_list (pe_fld (pv 0) rfl)) (own := [("points", 8)]) (blkOk_by (by show blkC ["score", "first", "n", "totals", "values", "note", "part", "given", "points", "total"] (defScope s_sums) _ _ = true; decide +kernel)) (fun _ _ _ _ _ => (pg_name (i := 8) sc_sums.nd rfl (Or.inl rfl))) (fun _ _ _ _ _ => pts_nil) (fun _ _ _ _ _ => (pcall T.line_part (ok_line_part T) (hr.mono (by decide)) pass0 (pa_cons (pv 8) (pa_cons (pv 1) (pa_cons (pv 2) pa_nil))))))
  (pss_cons (ps_for PassesOwn.never rfl (pi_list (pcall T.heard_within (ok_heard_within T) (hr.mono (by decide)) pass0 (pa_cons (pv 0) (pa_cons (pv 1) (pa_cons (pe_op op_add (pv 1) (pv 2)) pa_nil))))) (pg_name (i := 5) sc_sums.nd rfl (Or.inl rfl))
  (pss_cons (ps_set (i := 6) sc_sums.nd rfl (Or.inl rfl) (pcall T.note_part (ok_note_part T) (hr.mono (by decide)) pass0 (pa_cons (pv 0) (pa_cons (pv 5) (pa_cons (pe_ix ix_list (pv 4) (pe_fld (pv 5) rfl) (fun _ _ => rfl)) (pa_cons (pv 1) pa_nil))))))
  (pss_one (ps_setLc (i := 3) rfl sc_sums.nd rfl rfl (sw_true rfl rfl rfl rfl) (pi_zip rfl T.b_zip (pa_cons (pv 3) (pa_cons (pv 6) pa_nil))) (own := [("total", 9), ("given", 7)]) (blkOk_by (by show blkC ["score", "first", "n", "totals", "values", "note", "part", "given", "points", "total"] (defScope s_sums) _ _ = true; decide +kernel)) (fun _ _ _ _ _ => pg_two K 9 7 rfl rfl sc_sums.nd rfl rfl rfl rfl) (fun _ _ _ _ _ => pts_nil) (fun _ _ _ _ _ => (pe_op op_add (pv 9) (pv 7)))))))
  (pss_one (ps_ret (pv 3)))))), ?_⟩
    have hlen := hx.len ok
    -- totals
    refine ⟨by decide, fun l0 hl0 => ⟨_, rfl, l0, n, _, rfl, rfl, upd_same, by omega, by omega, ?_, fun l1 hl1 => ?_⟩⟩
    · show 1 * (n : Int).toNat ≤ sizeLine
      have := line16 (n := n) (by omega)
      omega
    have e0 : (List.replicate (n : Int).toNat [V.int 0]).flatten = ((List.range n).map fun i => sumOf s [] (first + i)).map V.int := by
      rw [List.flatten_replicate_singleton, List.map_map]
      refine (List.eq_replicate_iff.mpr ⟨by rw [List.length_map, List.length_range]; rfl, fun b hb => ?_⟩).symm
      obtain ⟨i, _, e⟩ := List.mem_map.mp hb
      exact e.symm
    rw [e0]
    have s1 : Same H (upd (upd H l0 (.lst [.int 0])) l1 (.lst (((List.range n).map fun i => sumOf s [] (first + i)).map V.int))) := (Same.new hl0).trans (Same.new hl1)
    have f1 : H l1 = none := (Same.new hl0).free hl1
    have a1 : (upd (upd H l0 (.lst [.int 0])) l1 (.lst (((List.range n).map fun i => sumOf s [] (first + i)).map V.int))) l1 = some (.lst (((List.range n).map fun i => sumOf s [] (first + i)).map V.int)) := upd_same
    generalize upd (upd H l0 (.lst [.int 0])) l1 (.lst (((List.range n).map fun i => sumOf s [] (first + i)).map V.int)) = H1 at s1 a1 ⊢
    obtain ⟨dx, lv, ll, ln, vp, lp, x⟩ := id hx
    have x1 := x.same s1
    -- values
    have lpl : lp.length = 8 := by have := ok.llen; rw [← x.le, List.length_map] at this; exact this
    refine ⟨_, rfl, s_lines T x1.ob ⟨ll, rfl, ⟨_, SqL.of x1.hl⟩, fun dv hdv => ?_⟩⟩
    refine lc_list (K := K) (a := ll) (xs := lp.map fun p => V.ref p.1) (fun j H' => ∃ qp : List (Addr × Line), Acc H1 H' dv (qp.map fun p => .ref p.1) ∧ qp.map (·.2) = (lp.take j).map (·.2) ∧ ∀ p ∈ qp, H' p.1 = some (.lst (nv ((List.range n).map fun i => Line.at_ p.2 (first + i)))) ∧ p.1 ≠ dv) ⟨[], Acc.start hdv, rfl, fun _ h => (nomatch h)⟩ (fun j H' _ ⟨_, q, _, _⟩ => SqL.of (q.same _ _ x1.hl)) (fun j y H' hj ⟨qp, q, q2, q3⟩ => ?_) fun H2 ⟨qp, q, q2, q3⟩ => ?_
    · obtain ⟨p, hp, rfl⟩ := of_map hj
      have pm := List.mem_of_getElem? hp
      have lk : LOk p.2 := ok.ls p.2 (by rw [← x.le]; exact List.mem_map_of_mem pm)
      refine ⟨rfl, yesI ⟨_, rfl, _, rfl, _, rfl, p.1, p.2, first, n, rfl, (x1.ls p pm).same q.same, lk, hn, hf, fun Dy H2 hDy ay => ?_⟩⟩
      refine ⟨_, ay.same _ _ q.at_, ?_, qp ++ [(Dy, p.2)], ?_, ?_, ?_⟩
      · have := congrArg List.length q2
        rw [List.length_map, List.length_map, List.length_take] at this
        rw [List.length_map]; exact line16 (by omega)
      · rw [List.map_append]; exact q.push hdv ay.same
      · rw [List.map_append, q2, take_snoc hp, List.map_append]; rfl
      · have nd : Dy ≠ dv := fun z => by rw [z, q.at_] at hDy; cases hDy
        intro r hr
        rcases List.mem_append.mp hr with z | z
        · obtain ⟨z1, z2⟩ := q3 r z
          exact ⟨by rw [upd_ne z2]; exact ay.same _ _ z1, z2⟩
        · rw [List.mem_singleton.mp z]
          exact ⟨by rw [upd_ne nd]; exact ay.at_, nd⟩
    rw [List.length_map, List.take_length, x.le] at q2
    have x2 := x1.same q.same
    -- the notes
    refine ⟨_, rfl, _, rfl, _, rfl, _, rfl, _, _, rfl, rfl, a, s, np, first, n, rfl, (hx.same s1).same q.same, ok, fun dh H3 hdh q4 => ⟨dh, rfl, ⟨_, SqL.of q4.at_⟩, ?_⟩⟩
    have s3 : Same H H3 := (s1.trans q.same).trans q4.same
    have v3 : H3 dv = some (.lst (qp.map fun p => .ref p.1)) := q4.same _ _ q.at_
    refine for_list (K := K) (a := dh) (xs := (hp s first n np).map fun p => V.ref p.1) (fun j σ H' => ∃ (v5 v6 : Option V) (D : Addr), σ = [some (.ref a), some (iv first), some (iv n), some (.ref D), some (.ref dv), v5, v6, none, none, none] ∧ Same H3 H' ∧ H D = none ∧
      H' D = some (.lst (((List.range n).map fun i => sumOf s (((hp s first n np).take j).map (·.2)) (first + i)).map V.int)))
      ⟨none, none, l1, rfl, Same.refl _, f1, q4.same _ _ (q.same _ _ a1)⟩ (fun j σ H' _ ⟨_, _, _, _, e, _, _⟩ => SqL.of (e _ _ q4.at_)) ?_ ?_
    · rintro j y σ H' hj ⟨v5, v6, D, rfl, z1, z2, z3⟩
      obtain ⟨p, hp', rfl⟩ := of_map hj
      have pm : p ∈ np := (List.mem_filter.mp (List.mem_of_getElem? hp')).1
      have s4 : Same H H' := s3.trans z1
      have hnt := (x.ns p pm).same s4
      have nk := x.nok ok pm
      have e := ok.line_at nk.voice
      rw [← q2, List.getElem?_map] at e
      cases qq : qp[p.2.voice]? with
      | none => rw [qq] at e; cases e
      | some r =>
        rw [qq] at e
        have e2 : r.2 = s.line p.2.voice := Option.some.inj e
        refine ⟨_, rfl, _, rfl, _, rfl, _, rfl, n_voice T hnt ⟨dv, _, _, _, rfl, rfl, SqL.of (z1 _ _ v3), atI_nat (v := .ref r.1) (by rw [List.getElem?_map, qq]; rfl), _, rfl, a, p.1, r.1, s, np, p.2, first, n, rfl, hx.same s4, ok, hnt, nk, hn, hf, ?_, fun Dp H5 hDp ap => ?_⟩⟩
        · rw [← e2]; exact z1 _ _ (q4.same _ _ (q3 r (List.mem_of_getElem? qq)).1)
        refine ⟨_, rfl, _, rfl, D, Dp, _, _, rfl, SqL.of (ap.same _ _ z3), SqL.of ap.at_, fun D2 hD2 => ?_⟩
        refine lc_pair (n := n) (fun i H' => Acc H5 H' D2 (((List.range i).map fun i => sumOf s (((hp s first n np).take (j + 1)).map (·.2)) (first + i)).map V.int)) (pairing_zip (xs := ((List.range n).map fun i => sumOf s (((hp s first n np).take j).map (·.2)) (first + i)).map V.int) (ys := ((List.range n).map fun i => s.gives p.2 (first + i)).map V.int) (by simp) fun i H' _ q => ⟨SqL.of (q.same _ _ (ap.same _ _ z3)), SqL.of (q.same _ _ ap.at_)⟩) (Acc.start hD2) (fun i H6 Tp hi q6 hT => ?_) fun H6 q6 => ⟨_, _, D2, rfl, (z1.trans ap.same).trans q6.same, (s4.trans ap.same).free hD2, q6.at_⟩
        have e5 : (((List.range n).map fun i => sumOf s (((hp s first n np).take j).map (·.2)) (first + i)).map V.int).getD i .non = V.int (sumOf s (((hp s first n np).take j).map (·.2)) (first + i)) := getD_some (by rw [List.getElem?_map, List.getElem?_map, List.getElem?_range hi]; rfl)
        have e6 : (((List.range n).map fun i => s.gives p.2 (first + i)).map V.int).getD i .non = V.int (s.gives p.2 (first + i)) := getD_some (by rw [List.getElem?_map, List.getElem?_map, List.getElem?_range hi]; rfl)
        unfold at2
        rw [e5, e6]
        refine ⟨Tp, _, rfl, SqT.of upd_same, rfl, _, _, rfl, _, _, rfl, rfl, rfl, yesI ?_⟩
        have s6 : Same H6 (upd H6 Tp (.tup [V.int (sumOf s (((hp s first n np).take j).map (·.2)) (first + i)), V.int (s.gives p.2 (first + i))])) := Same.new hT
        refine ⟨_, rfl, _, rfl, _, _, rfl, rfl, _, s6 _ _ q6.at_, ?_, (q6.push hD2 s6).eq ?_⟩
        · rw [List.length_map, List.length_map, List.length_range]; exact line16 (by omega)
        · rw [List.range_succ, List.map_append, List.map_append, take_snoc hp', List.map_append]
          congr 1
          exact congrArg (fun z => [V.int z]) (sumOf_snoc s p.2 (first + i) _).symm
    · rintro σ H' ⟨v5, v6, D, rfl, z1, z2, z3⟩
      refine ⟨_, rfl, k D H' z2 ⟨s3.trans z1, ?_⟩⟩
      rw [z3, List.length_map, List.take_length]
      congr 3
      refine List.map_congr_left fun i hi => ?_
      have hi := List.mem_range.mp hi
      rw [sum_eq, ← x.ne]
      have e := sumOf_heard s first n i hi (np.map (·.2))
      rw [List.filter_map] at e
      exact e
def sp_samples (A : Adr) : Sp := fun vs H Q _ => ∃ (a : Addr) (s : Score) (np : List (Addr × Note)) (first n : Nat), vs = [.ref a, iv first, iv n] ∧ ScX A H a s np ∧ SOk s ∧ n ≤ 256 ∧ first ≤ 1099511627776 ∧ ∀ D H', H D = none → Acc H H' D ((s.render first n).map V.int) → Q (.ref D) H'
theorem ok_samples (T : Txt K mg A) : FnOk P w K mg base CX0 6 A.f_samples A.d_samples ["score", "first", "n"] (sp_samples A) := by
  refine T.samples.fn.ok sc_samples (fun vs H Q E h => ?_) (fun cdv A' outer s H vs Q E hr h => ?_)
  · obtain ⟨a, s, np, i, j, rfl, _⟩ := h; rfl
  · obtain ⟨a, s, np, first, n, rfl, hx, ok, hn, hf, k⟩ := h
    refine ⟨_, (pss_one (ps_ret (pe_lc rfl sc_samples.nd (pi_list (pcall T.sums (ok_sums T) (hr.mono (by decide)) pass0 (pa_cons (pv 0) (pa_cons (pv 1) (pa_cons (pv 2) pa_nil))))) (own := [("total", 3)]) (blkOk_by (by show blkC ["score", "first", "n", "total"] (defScope s_samples) _ _ = true; decide +kernel)) (fun _ _ _ _ _ => (pg_name (i := 3) sc_samples.nd rfl (Or.inl rfl))) (fun _ _ _ _ _ => pts_nil) (fun _ _ _ _ _ => (pe_callB (call_max2 rfl) (by rfl) T.b_max boot_max5 (pa_cons (pe_gi rfl T.c_LOWEST) (pa_cons (pe_callB (call_min2 rfl) (by rfl) T.b_min boot_min5 (pa_cons (pe_gi rfl T.c_HIGHEST) (pa_cons (pv 3) pa_nil))) pa_nil))))))), ?_⟩
    refine ⟨_, rfl, _, rfl, _, rfl, a, s, np, first, n, rfl, hx, ok, hn, hf, fun D0 H1 hD0 q0 => ⟨D0, rfl, ⟨_, SqL.of q0.at_⟩, fun D hD => ?_⟩⟩
    generalize hr' : ((List.range n).map fun i => s.sum (first + i)) = r at q0
    have rl : r.length = n := by rw [← hr', List.length_map, List.length_range]
    refine lc_list (K := K) (a := D0) (xs := r.map V.int) (fun j H' => Acc H1 H' D (((r.take j).map clip).map V.int)) (Acc.start hD) (fun j H' _ q => SqL.of (q.same _ _ q0.at_)) (fun j y H' hj q => ?_) fun H' q => ?_
    · obtain ⟨x, hx', rfl⟩ := of_map hj
      refine ⟨rfl, yesI ⟨_, rfl, _, _, rfl, _, _, rfl, _, q.at_, ?_, (q.push hD (Same.refl H')).eq ?_⟩⟩
      · rw [List.length_map, List.length_map, List.length_take]; exact line16 (by omega)
      · rw [take_snoc hx', List.map_append, List.map_append]
        congr 1
        exact congrArg (fun z => [V.int z]) (clip_int x)
    · refine k D H' (q0.same.free hD) ⟨q0.same.trans q.same, ?_⟩
      rw [q.at_, List.length_map, List.take_length, ← hr']
      unfold Score.render
      rw [List.map_map, List.map_map, List.map_map]
      rfl
def sp_peak (A : Adr) : Sp := fun vs H Q _ => ∃ (a : Addr) (s : Score) (np : List (Addr × Note)) (first n : Nat), vs = [.ref a, iv first, iv n] ∧ ScX A H a s np ∧ SOk s ∧ n ≤ 256 ∧ first ≤ 1099511627776 ∧ ∀ D H', Same H H' → H' D = some (.tup [iv (peakOf (s.render first n)).1, iv (first + (peakOf (s.render first n)).2)]) → Q (.ref D) H'
theorem ok_peak (T : Txt K mg A) : FnOk P w K mg base CX0 7 A.f_peak A.d_peak ["score", "first", "n"] (sp_peak A) := by
  refine T.peak.fn.ok sc_peak (fun vs H Q E h => ?_) (fun cdv A' outer s H vs Q E hr h => ?_)
  · obtain ⟨a, s, np, i, j, rfl, _⟩ := h; rfl
  · obtain ⟨a, s, np, first, n, rfl, hx, ok, hn, hf, k⟩ := h
    refine ⟨_, (pss_cons (ps_set (i := 3) sc_peak.nd rfl (Or.inl rfl) pe_int)
  (pss_cons (ps_set (i := 4) sc_peak.nd rfl (Or.inl rfl) (pv 1))
  (pss_cons (ps_for PassesOwn.never rfl (pi_enumS rfl T.b_enumerate (pcall T.samples (ok_samples T) (hr.mono (by decide)) pass0 (pa_cons (pv 0) (pa_cons (pv 1) (pa_cons (pv 2) pa_nil)))) (pv 1)) (pg_two K 5 6 rfl rfl sc_peak.nd rfl rfl rfl rfl)
  (pss_one (ps_if (pt_cmpR op_gt (pe_callB call_abs (by rfl) T.b_abs boot_abs5 (pa_cons (pv 6) pa_nil)) (pv 3) (nomark _))
  (pss_cons (ps_set (i := 3) sc_peak.nd rfl (Or.inl rfl) (pe_callB call_abs (by rfl) T.b_abs boot_abs5 (pa_cons (pv 6) pa_nil)))
  (pss_one (ps_set (i := 4) sc_peak.nd rfl (Or.inl rfl) (pv 5))))
  pss_nil)))
  (pss_one (ps_ret (pe_tup (pa_cons (pv 3) (pa_cons (pv 4) pa_nil)))))))), ?_⟩
    refine ⟨_, rfl, _, rfl, _, rfl, _, rfl, a, s, np, first, n, rfl, hx, ok, hn, hf, fun D0 H1 hD0 q0 => ⟨_, rfl, D0, _, _, rfl, rfl, by omega, by omega, SqL.of q0.at_, ?_⟩⟩
    generalize hr' : s.render first n = r at q0 k
    have rl : r.length = n := by rw [← hr']; unfold Score.render; rw [List.length_map, List.length_range]
    refine for_pair (n := n) (fun i σ H' => ∃ v5 v6 : Option V, σ = [some (.ref a), some (iv first), some (iv n), some (iv (peakOf (r.take i)).1), some (iv (first + (peakOf (r.take i)).2)), v5, v6] ∧ Same H1 H') (pairing_enum (xs := r.map V.int) (by rw [List.length_map, rl]) fun i H' _ ⟨_, _, _, _, q⟩ => SqL.of (q _ _ q0.at_)) ⟨none, none, rfl, Same.refl _⟩ (fun i σ H' Tp hi ⟨v5, v6, e, q⟩ hT => ?_) fun σ H' ⟨v5, v6, e, q⟩ => ?_
    · subst e
      obtain ⟨x, hx'⟩ : ∃ x, r[i]? = some x := ⟨_, List.getElem?_eq_getElem (by omega)⟩
      have e1 : (r.map V.int).getD i .non = V.int x := getD_some (by rw [List.getElem?_map, hx']; rfl)
      rw [e1]
      have s1 : Same H1 (upd H' Tp (.tup [.int ((first : Int) + (i : Nat)), V.int x])) := q.trans (Same.new hT)
      have pk : peakOf (r.take (i + 1)) = pkStep (peakOf (r.take i)) (x, i) := by rw [take_snoc hx', peak_snoc, List.length_take, Nat.min_eq_left (by omega)]
      refine ⟨Tp, _, rfl, SqT.of upd_same, rfl, _, _, rfl, _, _, rfl, rfl, _, rfl, _, rfl, _, rfl, _, _, rfl, rfl, tst (fun c => iteT ?_) fun c => iteF ?_⟩
      · rw [abs_int] at c
        have e2 : peakOf (r.take (i + 1)) = (x.natAbs, i) := by rw [pk]; unfold pkStep; exact if_pos (by show _ < x.natAbs; omega)
        refine ⟨_, rfl, _, rfl, _, rfl, some (.int ((first : Int) + (i : Nat))), some (.int x), ?_, s1⟩
        rw [e2, abs_int]; rfl
      · rw [abs_int] at c
        have e2 : peakOf (r.take (i + 1)) = peakOf (r.take i) := by rw [pk]; unfold pkStep; exact if_neg (by show ¬ _ < x.natAbs; omega)
        refine ⟨some (.int ((first : Int) + (i : Nat))), some (.int x), ?_, s1⟩
        rw [e2]; rfl
    · subst e
      refine ⟨_, rfl, _, rfl, (by show 2 ≤ sizeLine; decide), fun D hD => k D _ ((q0.same.trans q).trans (Same.new hD)) ?_⟩
      rw [upd_same, ← rl, List.take_length]
end
end Sb
end
section
set_option Elab.async false
set_option linter.all false
set_option maxRecDepth 100000
set_option maxHeartbeats 4000000
namespace Sb
open PySem PySem.Spec PyProof.Rows L2 ScoreNs Mu
theorem Acc.put {H H' H2 : Hp} {D : Addr} {l l' : List V} (x : Acc H H' D l) (h : H D = none) (s : Same H' H2) : Acc H (upd H2 D (.lst l')) D l' :=
  ⟨fun b o e => by rw [upd_ne (ne_of_none e h)]; exact s _ _ (x.same b o e), upd_same⟩
theorem flat_snoc {α β : Type} {f : α → List β} {l : List α} {i : Nat} {x : α} (h : l[i]? = some x) : (l.take (i + 1)).flatMap f = (l.take i).flatMap f ++ f x := by
  rw [take_snoc h, List.flatMap_append]
  simp
section
variable {P : Program} {w : World} {K : PySem.W.Frag} {mg : Str → Option Value} {base : Heap} {A : Adr}
def sp_row_of (A : Adr) : Sp := fun vs H Q _ => ∃ (a : Addr) (s : Score) (np : List (Addr × Note)), vs = [.ref a] ∧ ScX A H a s np ∧ SOk s ∧ ∀ D H', H D = none → Acc H H' D (nv s.row) → Q (.ref D) H'
theorem ok_row_of (T : Txt K mg A) : FnOk P w K mg base CX0 2 A.f_row_of A.d_row_of ["score"] (sp_row_of A) := by
  refine T.row_of.fn.ok sc_row_of (fun vs H Q E h => ?_) (fun cdv A' outer s H vs Q E hr h => ?_)
  · obtain ⟨a, s, np, rfl, _⟩ := h; rfl
  · obtain ⟨a, s, np, rfl, hx, ok, k⟩ := h
    refine ⟨_, (pss_cons (ps_set (i := 1) sc_row_of.nd rfl (Or.inl rfl) (pe_lst pa_nil))
  (pss_cons (ps_for PassesOwn.never rfl (pi_list (pe_fld (pv 0) rfl)) (pg_name (i := 2) sc_row_of.nd rfl (Or.inl rfl))
  (pss_one (ps_expr (pe_bm PySem.F.plainAttrs_list PySem.F.slot_list_extend PySem.F.type_list_extend mt_extend (pv 1) (pa_cons (pcall T.voice_numbers (ok_voice_numbers T) (hr.mono (by decide)) pass0 (pa_cons (pv 2) pa_nil)) pa_nil)))))
  (pss_cons (ps_for PassesOwn.never rfl (pi_list (pe_fld (pv 0) rfl)) (pg_name (i := 3) sc_row_of.nd rfl (Or.inl rfl))
  (pss_cons (ps_expr (pe_bm PySem.F.plainAttrs_list PySem.F.slot_list_append PySem.F.type_list_append mt_append (pv 1) (pa_cons (pe_callB call_len_seq (by rfl) T.b_len PySem.boot_len (pa_cons (pv 3) pa_nil)) pa_nil)))
  (pss_one (ps_expr (pe_bm PySem.F.plainAttrs_list PySem.F.slot_list_extend PySem.F.type_list_extend mt_extend (pv 1) (pa_cons (pcall T.point_numbers (ok_point_numbers T) (hr.mono (by decide)) pass0 (pa_cons (pv 3) pa_nil)) pa_nil))))))
  (pss_cons (ps_expr (pe_bm PySem.F.plainAttrs_list PySem.F.slot_list_append PySem.F.type_list_append mt_append (pv 1) (pa_cons (pe_fld (pv 0) rfl) pa_nil)))
  (pss_cons (ps_expr (pe_bm PySem.F.plainAttrs_list PySem.F.slot_list_append PySem.F.type_list_append mt_append (pv 1) (pa_cons (pe_callB call_len_seq (by rfl) T.b_len PySem.boot_len (pa_cons (pe_fld (pv 0) rfl) pa_nil)) pa_nil)))
  (pss_cons (ps_for PassesOwn.never rfl (pi_list (pe_fld (pv 0) rfl)) (pg_name (i := 4) sc_row_of.nd rfl (Or.inl rfl))
  (pss_one (ps_expr (pe_bm PySem.F.plainAttrs_list PySem.F.slot_list_extend PySem.F.type_list_extend mt_extend (pv 1) (pa_cons (pcall T.note_numbers (ok_note_numbers T) (hr.mono (by decide)) pass0 (pa_cons (pv 4) pa_nil)) pa_nil)))))
  (pss_one (ps_ret (pv 1))))))))), ?_⟩
    have hlen := hx.len ok
    obtain ⟨dx, lv, ll, ln, vp, lp, x⟩ := id hx
    have vpl : vp.length = 8 := by have := ok.vlen; rw [← x.ve, List.length_map] at this; exact this
    have lpl : lp.length = 8 := by have := ok.llen; rw [← x.le, List.length_map] at this; exact this
    have lok : ∀ p ∈ lp, LOk p.2 := fun p hp => ok.ls p.2 (by rw [← x.le]; exact List.mem_map_of_mem hp)
    refine ⟨Nat.zero_le _, fun m hm => ?_⟩
    have b1 : ∀ i, ((vp.take i).flatMap fun p => p.2.row).length ≤ 40 := fun i => by
      have := flat_len (fun (p : Addr × Voice) => p.2.row) 5 (vp.take i) (fun _ _ => Nat.le_refl _)
      rw [List.length_take] at this
      exact Nat.le_trans this (by omega)
    have b2 : ∀ i, ((lp.take i).flatMap fun p => Line.row p.2).length ≤ 264 := fun i => by
      have := flat_len (fun (p : Addr × Line) => Line.row p.2) 33 (lp.take i) (fun p hp => by have := (lok p (List.mem_of_mem_take hp)).len; rw [line_row_len]; omega)
      rw [List.length_take] at this
      exact Nat.le_trans this (by omega)
    have b3 : ∀ i, ((np.take i).flatMap fun p => p.2.row).length ≤ 384 := fun i => by
      have := flat_len (fun (p : Addr × Note) => p.2.row) 6 (np.take i) (fun _ _ => Nat.le_refl _)
      rw [List.length_take] at this
      exact Nat.le_trans this (by omega)
    -- voices
    refine ⟨_, rfl, s_voices T ((Same.new hm) _ _ x.ob) ⟨lv, rfl, ⟨_, SqL.of ((Same.new hm) _ _ x.hv)⟩, for_list (K := K) (a := lv) (xs := vp.map fun p => V.ref p.1) (fun i σ H' => ∃ v : Option V, σ = [some (.ref a), some (.ref m), v, none, none] ∧ Acc H H' m (nv ((vp.take i).flatMap fun p => p.2.row)))
      ⟨none, rfl, Acc.start hm⟩ (fun i σ H' _ ⟨_, _, q⟩ => SqL.of (q.same _ _ x.hv)) ?_ ?_⟩⟩
    · rintro i y σ H' hi ⟨v, rfl, q⟩
      obtain ⟨p, hp, rfl⟩ := of_map hi
      refine ⟨_, rfl, .inl ⟨rfl, _, SqL.of q.at_⟩, _, rfl, p.1, p.2, rfl, (x.vs p (List.mem_of_getElem? hp)).same q.same, fun l hl => ⟨m, l, _, _, rfl, rfl, (Same.new hl) _ _ q.at_, upd_same, ?_, _, rfl, ?_⟩⟩
      · rw [List.length_map]
        have := b1 i
        exact Nat.le_of_lt (line16 (by show _ + 5 ≤ 16000; omega))
      · rw [flat_snoc hp, nv_app]
        exact q.put hm (Same.new hl)
    rintro σ1 H1 ⟨v2, rfl, q1⟩
    rw [List.length_map, List.take_length] at q1
    generalize h1 : (vp.flatMap fun p => p.2.row) = r1 at q1
    have l1 : r1.length ≤ 40 := by have := b1 vp.length; rw [List.take_length, h1] at this; exact this
    have x1 := x.same q1.same
    -- lines
    refine ⟨_, rfl, s_lines T x1.ob ⟨ll, rfl, ⟨_, SqL.of x1.hl⟩, for_list (K := K) (a := ll) (xs := lp.map fun p => V.ref p.1) (fun i σ H' => ∃ v : Option V, σ = [some (.ref a), some (.ref m), v2, v, none] ∧ Acc H H' m (nv (r1 ++ (lp.take i).flatMap fun p => Line.row p.2)))
      ⟨none, rfl, q1.eq (by rw [List.take_zero]; simp)⟩ (fun i σ H' _ ⟨_, _, q⟩ => SqL.of (q.same _ _ x.hl)) ?_ ?_⟩⟩
    · rintro i y σ H' hi ⟨v, rfl, q⟩
      obtain ⟨p, hp, rfl⟩ := of_map hi
      have pm := List.mem_of_getElem? hp
      have lk := (lok p pm).len
      have pl := (x.ls p pm).same q.same
      obtain ⟨qs, z1, z2, z3⟩ := id pl
      have zl : qs.length = p.2.length := by rw [← z3, List.length_map]
      have bi := b2 i
      refine ⟨_, rfl, .inl ⟨rfl, _, SqL.of q.at_⟩, _, rfl, p.1, _, rfl, .inl (SqL.of z1), m, _, _, rfl, rfl, q.at_, ?_, ?_⟩
      · rw [List.length_map, List.length_append]; exact line16 (by omega)
      have q2 : Acc H (upd H' m (.lst (nv (r1 ++ (lp.take i).flatMap fun p => Line.row p.2) ++ [iv p.2.length]))) m (nv (r1 ++ (lp.take i).flatMap fun p => Line.row p.2) ++ [iv p.2.length]) := q.put hm (Same.refl _)
      rw [List.length_map, zl]
      refine ⟨_, rfl, .inl ⟨rfl, _, SqL.of q2.at_⟩, _, rfl, p.1, p.2, rfl, (x.ls p pm).same q2.same, lk, fun l H2 hl e2 s2 => ⟨m, l, _, _, rfl, rfl, s2 _ _ q2.at_, e2, ?_, _, rfl, ?_⟩⟩
      · rw [List.length_append, List.length_map, List.length_append, List.length_map]
        have := flat_len (fun (p : Nat × Nat) => [p.1, p.2]) 2 p.2 (fun _ _ => Nat.le_refl _)
        exact Nat.le_of_lt (line16 (by show _ + 1 + _ ≤ 16000; omega))
      · rw [flat_snoc hp, ← List.append_assoc, nv_app (r1 ++ _) _]
        have e : nv (Line.row p.2) = [iv p.2.length] ++ nv (p.2.flatMap fun p => [p.1, p.2]) := rfl
        rw [e, ← List.append_assoc]
        exact q2.put hm s2
    rintro σ2 H2 ⟨v3, rfl, q2⟩
    rw [List.length_map, List.take_length] at q2
    generalize h2 : (lp.flatMap fun p => Line.row p.2) = r2 at q2
    have l2 : r2.length ≤ 264 := by have := b2 lp.length; rw [List.take_length, h2] at this; exact this
    -- next, count
    refine ⟨_, rfl, .inl ⟨rfl, _, SqL.of q2.at_⟩, _, rfl, s_next T (x.same q2.same).ob ⟨m, _, _, rfl, rfl, q2.at_, ?_, ?_⟩⟩
    · rw [List.length_map, List.length_append]; exact line16 (by omega)
    have q3 : Acc H (upd H2 m (.lst (nv (r1 ++ r2) ++ [iv s.next]))) m (nv (r1 ++ r2) ++ [iv s.next]) := q2.put hm (Same.refl _)
    refine ⟨_, rfl, .inl ⟨rfl, _, SqL.of q3.at_⟩, _, rfl, s_notes T (x.same q3.same).ob ⟨ln, _, rfl, .inl (SqL.of (x.same q3.same).hn), m, _, _, rfl, rfl, q3.at_, ?_, ?_⟩⟩
    · rw [List.length_append, List.length_map, List.length_append]; exact line16 (by show _ + 1 ≤ _; omega)
    rw [List.length_map, show nv (r1 ++ r2) ++ [iv s.next] ++ [V.int (np.length : Nat)] = nv (r1 ++ r2 ++ [s.next, np.length]) by rw [nv_app (r1 ++ r2) [s.next, np.length], List.append_assoc]; rfl]
    have q4 : Acc H (upd (upd H2 m (.lst (nv (r1 ++ r2) ++ [iv s.next]))) m (.lst (nv (r1 ++ r2 ++ [s.next, np.length])))) m (nv (r1 ++ r2 ++ [s.next, np.length])) := q3.put hm (Same.refl _)
    generalize upd (upd H2 m (.lst (nv (r1 ++ r2) ++ [iv s.next]))) m (.lst (nv (r1 ++ r2 ++ [s.next, np.length]))) = H4 at q4 ⊢
    have x4 := x.same q4.same
    -- notes
    refine ⟨_, rfl, s_notes T x4.ob ⟨ln, rfl, ⟨_, SqL.of x4.hn⟩, for_list (K := K) (a := ln) (xs := np.map fun p => V.ref p.1) (fun i σ H' => ∃ v : Option V, σ = [some (.ref a), some (.ref m), v2, v3, v] ∧ Acc H H' m (nv (r1 ++ r2 ++ [s.next, np.length] ++ (np.take i).flatMap fun p => p.2.row)))
      ⟨none, rfl, q4.eq (by rw [List.take_zero]; simp)⟩ (fun i σ H' _ ⟨_, _, q⟩ => SqL.of (q.same _ _ x.hn)) ?_ ?_⟩⟩
    · rintro i y σ H' hi ⟨v, rfl, q⟩
      obtain ⟨p, hp, rfl⟩ := of_map hi
      refine ⟨_, rfl, .inl ⟨rfl, _, SqL.of q.at_⟩, _, rfl, p.1, p.2, rfl, (x.ns p (List.mem_of_getElem? hp)).same q.same, fun l hl => ⟨m, l, _, _, rfl, rfl, (Same.new hl) _ _ q.at_, upd_same, ?_, _, rfl, ?_⟩⟩
      · rw [List.length_map, List.length_append, List.length_append, List.length_append]
        have := b3 i
        exact Nat.le_of_lt (line16 (by show _ + _ + 2 + _ + 6 ≤ 16000; omega))
      · rw [flat_snoc hp, ← List.append_assoc, nv_app (r1 ++ r2 ++ [s.next, np.length] ++ _) _]
        exact q.put hm (Same.new hl)
    rintro σ5 H5 ⟨v5, rfl, q5⟩
    refine ⟨_, rfl, k m H5 hm (q5.eq ?_)⟩
    rw [List.length_map, List.take_length]
    congr 1
    unfold Score.row
    rw [← x.ve, ← x.le, ← x.ne, List.flatMap_map, List.flatMap_map, List.flatMap_map, h1, h2, List.length_map, List.append_assoc, List.append_assoc]
    rfl
end
end Sb
end
section
set_option Elab.async false
set_option linter.all false
set_option maxRecDepth 100000
set_option maxHeartbeats 4000000
namespace Sb
open PySem PySem.Spec PyProof.Rows L2 ScoreNs Mu
/-! ### slices -/
theorem sIx_nat {n d b : Nat} (h : b ≤ n) : HT.sIx n d (some (b : Int)) = b := by
  show (if (b : Int) < 0 then ((b : Int) + (n : Int)).toNat else min (b : Int).toNat n) = b
  rw [if_neg (by omega), Int.toNat_natCast, Nat.min_eq_left h]
theorem cut_from {ns : List Nat} {k : Nat} (h : k ≤ ns.length) : cutV (nv ns) (some (k : Int)) none = nv (ns.drop k) := by
  unfold cutV
  rw [List.length_map, sIx_nat h]
  show ((nv ns).drop k).take (ns.length - k) = _
  rw [← List.map_drop, ← List.map_take, List.take_of_length_le (by rw [List.length_drop]; omega)]
theorem cut_part {ns : List Nat} {b e : Nat} (h : b ≤ ns.length) (he : e ≤ ns.length) : cutV (nv ns) (some (b : Int)) (some (e : Int)) = nv ((ns.drop b).take (e - b)) := by
  unfold cutV
  rw [List.length_map, sIx_nat h, sIx_nat he, ← List.map_drop, ← List.map_take]
/-! ### the reader -/
def SameX (r : Addr) (H H' : Hp) : Prop := ∀ b o, b ≠ r → H b = some o → H' b = some o
theorem SameX.refl {r : Addr} {H : Hp} : SameX r H H := fun _ _ _ e => e
theorem sX {r : Addr} {H H' : Hp} (s : Same H H') : SameX r H H' := fun b o _ e => s b o e
theorem SameX.trans {r : Addr} {H H1 H2 : Hp} (a : SameX r H H1) (b : SameX r H1 H2) : SameX r H H2 := fun c o n e => b c o n (a c o n e)
theorem SameX.free {r x : Addr} {H H' : Hp} (a : SameX r H H') (h : H' x = none) (n : x ≠ r) : H x = none := by
  cases e : H x with
  | none => rfl
  | some o => rw [a x o n e] at h; cases h
def readerF (l : Addr) (b : Nat) : List (Str × V) := [("row", .ref l), ("begin", iv b)]
def Rd (A : Adr) (H : Hp) (r l : Addr) (ns rest : List Nat) : Prop := ∃ dx b, H r = some (.ins A.c_Reader dx (readerF l b)) ∧ H l = some (.lst (nv ns)) ∧ b ≤ ns.length ∧ ns.drop b = rest
theorem Rd.same {A : Adr} {H H' : Hp} {r l : Addr} {ns rest : List Nat} (x : Rd A H r l ns rest) (e : Same H H') : Rd A H' r l ns rest := let ⟨dx, b, h1, h2, h3⟩ := x; ⟨dx, b, e _ _ h1, e _ _ h2, h3⟩
theorem Rd.ne {A : Adr} {H : Hp} {r l x : Addr} {ns rest : List Nat} (h : Rd A H r l ns rest) (n : H x = none) : x ≠ r := by
  obtain ⟨dx, b, h1, _⟩ := h
  intro e; rw [e, h1] at n; cases n
abbrev Fails (E : XK) (r : Addr) (H : Hp) : Prop := ∀ e H', SameX r H H' → E e none H'
section
variable {P : Program} {w : World} {K : PySem.W.Frag} {mg : Str → Option Value} {base : Heap} {A : Adr}
theorem r_row (T : Txt K mg A) {H : Hp} {a dx l : Addr} {b : Nat} {Q : V → Prop} (h : H a = some (.ins A.c_Reader dx (readerF l b))) (q : Q (.ref l)) : FldP K H a "row" Q := fget h T.Reader.cl (T.Reader.no "row" (by decide)) rfl q
theorem r_begin (T : Txt K mg A) {H : Hp} {a dx l : Addr} {b : Nat} {Q : V → Prop} (h : H a = some (.ins A.c_Reader dx (readerF l b))) (q : Q (iv b)) : FldP K H a "begin" Q := fget h T.Reader.cl (T.Reader.no "begin" (by decide)) rfl q
def sp_Reader (A : Adr) : Sp := fun vs H Q _ => ∃ x dx l : Addr, vs = [.ref x, .ref l] ∧ H x = some (.ins A.c_Reader dx []) ∧ ∀ H', H' x = some (.ins A.c_Reader dx (readerF l 0)) → (∀ b, b ≠ x → H' b = H b) → Q .non H'
theorem ok_Reader (T : Txt K mg A) : FnOk P w K mg base CX0 1 A.f_Reader A.d_Reader ["self", "row"] (sp_Reader A) := by
  refine T.Reader.fn.ok sc_Reader (fun vs H Q E h => ?_) (fun cdv A' outer s H vs Q E hr h => ?_)
  · obtain ⟨x, dx, l, rfl, _⟩ := h; rfl
  · obtain ⟨x, dx, l, rfl, h1, k⟩ := h
    refine ⟨_, (pss_cons (ps_fld (pv 0) (pv 1) rfl)
  (pss_one (ps_fld (pv 0) pe_int rfl))), ?_⟩
    have no := T.Reader.no
    refine ⟨_, rfl, _, rfl, x, _, dx, _, rfl, h1, T.Reader.cl, no "row" (by decide), by decide, ?_⟩
    refine ⟨_, rfl, x, _, dx, _, rfl, upd_same, T.Reader.cl, no "begin" (by decide), by show 1 < 1000; decide, ?_⟩
    refine k _ ?_ fun b hb => ?_
    · rw [upd_same]; rfl
    · rw [upd_ne hb, upd_ne hb]
def sp_read (A : Adr) : Sp := fun vs H Q E => ∃ (r l : Addr) (ns rest : List Nat) (n : Nat), vs = [.ref r, iv n] ∧ Rd A H r l ns rest ∧ (rest.length < n → ∀ e, E e none H) ∧
  (n ≤ rest.length → ∀ D H', H D = none → Rd A H' r l ns (rest.drop n) → H' D = some (.lst (nv (rest.take n))) → SameX r H H' → Q (.ref D) H')
theorem ok_read (T : Txt K mg A) : FnOk P w K mg base (CX1 P w A.c_NoScoresRow) 1 A.f_read A.d_read ["reader", "n"] (sp_read A) := by
  refine T.read.fn.okX sc_read (fun vs H Q E h => ?_) (fun cdv A' outer s H vs Q E hr th h => ?_)
  · obtain ⟨x, dx, l, n, m, rfl, _⟩ := h; rfl
  · obtain ⟨r, l, ns, rest, n, rfl, ⟨dx, b, h1, h2, h3, h4⟩, kf, k⟩ := h
    refine ⟨_, (pss_cons (ps_set (i := 2) sc_read.nd rfl (Or.inl rfl) (pe_op op_add (pe_fld (pv 0) rfl) (pv 1)))
  (pss_cons (ps_if (pt_cmpR op_gt (pv 2) (pe_callB call_len_seq (by rfl) T.b_len PySem.boot_len (pa_cons (pe_fld (pv 0) rfl) pa_nil)) (nomark _))
  (pss_one (ps_raise th rfl rfl T.x_m T.x_in))
  pss_nil)
  (pss_cons (ps_set (i := 3) sc_read.nd rfl (Or.inl rfl) (pe_slice sl_list (pe_fld (pv 0) rfl) (po_some (pe_fld (pv 0) rfl)) (po_some (pv 2))))
  (pss_cons (ps_fld (pv 0) (pv 2) rfl)
  (pss_one (ps_ret (pv 3))))))), ?_⟩
    have rl : rest.length = ns.length - b := by rw [← h4, List.length_drop]
    have no := T.Reader.no
    refine ⟨_, rfl, r_begin T h1 ⟨_, rfl, _, _, rfl, rfl, ?_⟩⟩
    refine ⟨_, rfl, _, rfl, r_row T h1 ⟨l, _, rfl, .inl (SqL.of h2), _, _, rfl, rfl, tst (fun c => iteT ?_) fun c => iteF ?_⟩⟩
    · rw [List.length_map] at c
      exact kf (by omega)
    · rw [List.length_map] at c
      refine ⟨_, rfl, r_row T h1 ⟨_, rfl, r_begin T h1 ⟨_, rfl, _, rfl, _, rfl, l, _, rfl, SqL.of h2, fun D hD => ?_⟩⟩⟩
      have e : cutV (nv ns) (some (b : Int)) (some ((b : Int) + (n : Int))) = nv (rest.take n) := by
        have := cut_part (ns := ns) (b := b) (e := b + n) h3 (by omega)
        rw [show b + n - b = n by omega, h4] at this
        exact this
      rw [e]
      have nD : r ≠ D := ne_of_none h1 hD
      have nl : l ≠ D := ne_of_none h2 hD
      have nr : l ≠ r := ne_of h2 h1 (by intro z; cases z)
      refine ⟨_, rfl, _, rfl, r, _, dx, _, rfl, (by rw [upd_ne nD]; exact h1), T.Reader.cl, no "begin" (by decide), (by show 2 < 1000; decide), _, rfl, ?_⟩
      refine k (by omega) D _ hD ⟨dx, b + n, ?_, ?_, by omega, ?_⟩ ?_ ?_
      · rw [upd_same]; rfl
      · rw [upd_ne nr, upd_ne nl]; exact h2
      · rw [← h4, List.drop_drop]
      · rw [upd_ne nD.symm, upd_same]
      · intro c o hc e; rw [upd_ne hc, upd_ne (ne_of_none e hD)]; exact e
def sp_read_count (A : Adr) : Sp := fun vs H Q E => ∃ (r l : Addr) (ns rest : List Nat) (m : Nat), vs = [.ref r, iv m] ∧ Rd A H r l ns rest ∧ ((∀ c q, rest = c :: q → ¬ c ≤ m) → Fails E r H) ∧
  (∀ c q, rest = c :: q → c ≤ m → ∀ H', Rd A H' r l ns q → SameX r H H' → Q (iv c) H')
theorem ok_read_count (T : Txt K mg A) : FnOk P w K mg base (CX1 P w A.c_NoScoresRow) 2 A.f_read_count A.d_read_count ["reader", "most"] (sp_read_count A) := by
  refine T.read_count.fn.okX sc_read_count (fun vs H Q E h => ?_) (fun cdv A' outer s H vs Q E hr th h => ?_)
  · obtain ⟨x, dx, l, n, m, rfl, _⟩ := h; rfl
  · obtain ⟨r, l, ns, rest, m, rfl, rd, kf, k⟩ := h
    refine ⟨_, (pss_cons (ps_set (i := 2) sc_read_count.nd rfl (Or.inl rfl) (pe_ix ix_list (pcall T.read (ok_read T) (hr.mono (by decide)) th.pass (pa_cons (pv 0) (pa_cons pe_int pa_nil))) pe_int (fun _ _ => rfl)))
  (pss_cons (ps_if (pt_cmpR op_gt (pv 2) (pv 1) (nomark _))
  (pss_one (ps_raise th rfl rfl T.x_m T.x_in))
  pss_nil)
  (pss_one (ps_ret (pv 2))))), ?_⟩
    refine ⟨_, rfl, r, l, ns, rest, 1, rfl, rd, fun hl e => ?_, fun hl D H1 hD rd1 hD1 sx => ?_⟩
    · refine kf (fun c q z => ?_) e H SameX.refl
      rw [z] at hl; simp at hl
    · cases rest with
      | nil => simp at hl
      | cons c q =>
        refine ⟨D, _, _, _, rfl, rfl, SqL.of hD1, at_of (j := 0) rfl rfl, ?_⟩
        refine ⟨_, rfl, _, rfl, _, _, rfl, rfl, tst (fun z => iteT ?_) fun z => iteF ?_⟩
        · exact fun e => kf (fun c' q' z' => by cases z'; omega) e H1 sx
        · exact ⟨_, rfl, k c q rfl (by omega) H1 rd1 sx⟩
def sp_read_next_number (A : Adr) : Sp := fun vs H Q E => ∃ (r l : Addr) (ns rest : List Nat), vs = [.ref r] ∧ Rd A H r l ns rest ∧ ((∀ c q, rest = c :: q → ¬ (1 ≤ c ∧ c ≤ 4294967296)) → Fails E r H) ∧
  (∀ c q, rest = c :: q → 1 ≤ c → c ≤ 4294967296 → ∀ H', Rd A H' r l ns q → SameX r H H' → Q (iv c) H')
theorem ok_read_next_number (T : Txt K mg A) : FnOk P w K mg base (CX1 P w A.c_NoScoresRow) 2 A.f_read_next_number A.d_read_next_number ["reader"] (sp_read_next_number A) := by
  refine T.read_next_number.fn.okX sc_read_next_number (fun vs H Q E h => ?_) (fun cdv A' outer s H vs Q E hr th h => ?_)
  · obtain ⟨x, dx, l, n, rfl, _⟩ := h; rfl
  · obtain ⟨r, l, ns, rest, rfl, rd, kf, k⟩ := h
    refine ⟨_, (pss_cons (ps_set (i := 1) sc_read_next_number.nd rfl (Or.inl rfl) (pe_ix ix_list (pcall T.read (ok_read T) (hr.mono (by decide)) th.pass (pa_cons (pv 0) (pa_cons pe_int pa_nil))) pe_int (fun _ _ => rfl)))
  (pss_cons (ps_if (PW.pt (pw_or (pt_cmpR op_lt (pv 1) pe_int (nomark _)) (pw_or1 (pt_cmpR op_gt (pv 1) (pe_gi rfl T.c_NUMBERS_END) (nomark _)))))
  (pss_one (ps_raise th rfl rfl T.x_m T.x_in))
  pss_nil)
  (pss_one (ps_ret (pv 1))))), ?_⟩
    refine ⟨_, rfl, r, l, ns, rest, 1, rfl, rd, fun hl e => ?_, fun hl D H1 hD rd1 hD1 sx => ?_⟩
    · refine kf (fun c q z => ?_) e H SameX.refl
      rw [z] at hl; simp at hl
    · cases rest with
      | nil => simp at hl
      | cons c q =>
        refine ⟨D, _, _, _, rfl, rfl, SqL.of hD1, at_of (j := 0) rfl rfl, ?_⟩
        refine ⟨_, rfl, _, _, rfl, rfl, tst (fun z => iteT (iteT ?_)) fun z => iteF ⟨_, rfl, _, _, rfl, rfl, tst (fun y => iteT ?_) fun y => iteF ?_⟩⟩
        · exact fun e => kf (fun c' q' z' => by cases z'; omega) e H1 sx
        · exact fun e => kf (fun c' q' z' => by cases z'; omega) e H1 sx
        · exact ⟨_, rfl, k c q rfl (by omega) (by omega) H1 rd1 sx⟩
end
end Sb
end
section
set_option Elab.async false
set_option linter.all false
set_option maxRecDepth 100000
set_option maxHeartbeats 4000000
namespace Sb
open PySem PySem.Spec PyProof.Rows L2 ScoreNs Mu
theorem fits_voice (v : Voice) : noneAbove v.row GV = true ↔ VOk v := by
  unfold noneAbove GV Voice.row
  simp only [List.zipWith_cons_cons, List.zipWith_nil_left, List.all_cons, List.all_nil, id, Bool.and_eq_true, decide_eq_true_eq, and_true]
  exact ⟨fun ⟨a, b, c, d, e⟩ => ⟨a, b, c, d, e⟩, fun ⟨a, b, c, d, e⟩ => ⟨a, b, c, d, e⟩⟩
theorem fits_note (n : Note) : (decide (1 ≤ n.len) && noneAbove [n.voice, n.at_, n.len, n.step, n.level] GN) = true ↔ NOk n := by
  unfold noneAbove GN
  simp only [List.zipWith_cons_cons, List.zipWith_nil_left, List.all_cons, List.all_nil, id, Bool.and_eq_true, decide_eq_true_eq, and_true]
  exact ⟨fun ⟨f, a, b, c, d, e⟩ => ⟨by omega, by omega, f, c, by omega, e⟩, fun ⟨a, b, f, c, d, e⟩ => ⟨f, by omega, by omega, c, by omega, e⟩⟩
theorem voice_split {l : List Nat} (h : 5 ≤ l.length) : ∃ (v : Voice) (q : List Nat), l = v.row ++ q := by
  match l, h with
  | a :: b :: c :: d :: e :: q, _ => exact ⟨⟨a, b, c, d, e⟩, q, rfl⟩
theorem note_split {l : List Nat} (h : 6 ≤ l.length) : ∃ (n : Note) (q : List Nat), l = n.row ++ q := by
  match l, h with
  | a :: b :: c :: d :: e :: f :: q, _ => exact ⟨⟨a, b, c, d, e, f⟩, q, rfl⟩
theorem voice_same {v u : Voice} {p q : List Nat} (h : v.row ++ p = u.row ++ q) : v = u ∧ p = q := by
  obtain ⟨a, b, c, d, e⟩ := v
  obtain ⟨a', b', c', d', e'⟩ := u
  have h : a :: b :: c :: d :: e :: p = a' :: b' :: c' :: d' :: e' :: q := h
  simp only [List.cons.injEq] at h
  obtain ⟨rfl, rfl, rfl, rfl, rfl, rfl⟩ := h
  exact ⟨rfl, rfl⟩
theorem note_same {v u : Note} {p q : List Nat} (h : v.row ++ p = u.row ++ q) : v = u ∧ p = q := by
  obtain ⟨a, b, c, d, e, f⟩ := v
  obtain ⟨a', b', c', d', e', f'⟩ := u
  have h : a :: b :: c :: d :: e :: f :: p = a' :: b' :: c' :: d' :: e' :: f' :: q := h
  simp only [List.cons.injEq] at h
  obtain ⟨rfl, rfl, rfl, rfl, rfl, rfl, rfl⟩ := h
  exact ⟨rfl, rfl⟩
section
variable {P : Program} {w : World} {K : PySem.W.Frag} {mg : Str → Option Value} {base : Heap} {A : Adr}
def sp_read_voice (A : Adr) : Sp := fun vs H Q E => ∃ (r l : Addr) (ns rest : List Nat), vs = [.ref r] ∧ Rd A H r l ns rest ∧ ((∀ (v : Voice) q, rest = v.row ++ q → ¬ VOk v) → Fails E r H) ∧
  (∀ (v : Voice) q, rest = v.row ++ q → VOk v → ∀ x H', H x = none → VoiceAt A H' x v → Rd A H' r l ns q → SameX r H H' → Q (.ref x) H')
theorem ok_read_voice (T : Txt K mg A) : FnOk P w K mg base (CX1 P w A.c_NoScoresRow) 3 A.f_read_voice A.d_read_voice ["reader"] (sp_read_voice A) := by
  refine T.read_voice.fn.okX sc_read_voice (fun vs H Q E h => ?_) (fun cdv A' outer s H vs Q E hr th h => ?_)
  · obtain ⟨x, dx, l, n, rfl, _⟩ := h; rfl
  · obtain ⟨r, l, ns, rest, rfl, rd, kf, k⟩ := h
    refine ⟨_, (pss_cons (ps_set (i := 1) sc_read_voice.nd rfl (Or.inl rfl) (pcall T.read (ok_read T) (hr.mono (by decide)) th.pass (pa_cons (pv 0) (pa_cons (pe_gi rfl T.c_VOICE_SIZE) pa_nil))))
  (pss_cons (ps_if (pt_not (pt_val (pcall T.voice_fits (ok_voice_fits T) (hr.mono (by decide)) pass0 (pa_cons (pv 1) pa_nil))))
  (pss_one (ps_raise th rfl rfl T.x_m T.x_in))
  pss_nil)
  (pss_one (ps_ret (pmake T.Voice (ok_Voice T) (hr.mono (by decide)) pass0 (pa_cons (pv 1) pa_nil)))))), ?_⟩
    refine ⟨_, rfl, r, l, ns, rest, 5, rfl, rd, fun hl e => ?_, fun hl D H1 hD rd1 hD1 sx => ?_⟩
    · refine kf (fun c q z => ?_) e H SameX.refl
      rw [z] at hl
      exact absurd hl (by show ¬ (q.length + 1 + 1 + 1 + 1 + 1 < 5); omega)
    · obtain ⟨v, q, rfl⟩ := voice_split hl
      have hD1 : H1 D = some (.lst (nv v.row)) := hD1
      have rd1 : Rd A H1 r l ns q := rd1
      refine ⟨_, rfl, D, v.row, rfl, SqL.of hD1, fun H2 s2 => ⟨_, rfl, ?_⟩⟩
      cases hv : noneAbove v.row GV with
      | false =>
        refine iteT fun e => kf (fun u p z o => ?_) e H2 (sx.trans (sX s2))
        rw [← (voice_same z).1, ← fits_voice, hv] at o
        cases o
      | true =>
        refine iteF ⟨_, rfl, fun x dx nx ndx ne => ⟨x, dx, D, v, rfl, upd_same, .inl (SqL.of ?_), fun H3 e1 e2 => ⟨rfl, ?_⟩⟩⟩
        · have := s2 _ _ hD1
          rw [upd_ne (ne_of_none this nx), upd_ne (ne_of_none this ndx)]; exact this
        · have s3 : Same H2 H3 := same_made nx ndx e2
          have n1 := (rd1.same s2).ne nx
          exact k v q rfl ((fits_voice v).mp hv) x H3 (sx.free (s2.free nx) n1) ⟨dx, e1⟩ ((rd1.same s2).same s3) ((sx.trans (sX s2)).trans (sX s3))
def sp_read_line (A : Adr) : Sp := fun vs H Q E => ∃ (r l : Addr) (ns rest : List Nat), vs = [.ref r] ∧ Rd A H r l ns rest ∧ ((∀ n q, rest = n :: q → n ≤ 16 → 2 * n ≤ q.length → ¬ LOk (pairs (q.take (2 * n)))) → Fails E r H) ∧
  (∀ n q, rest = n :: q → n ≤ 16 → 2 * n ≤ q.length → LOk (pairs (q.take (2 * n))) → ∀ x H', H x = none → LineAt H' x (pairs (q.take (2 * n))) → Rd A H' r l ns (q.drop (2 * n)) → SameX r H H' → Q (.ref x) H')
theorem ok_read_line (T : Txt K mg A) : FnOk P w K mg base (CX1 P w A.c_NoScoresRow) 3 A.f_read_line A.d_read_line ["reader"] (sp_read_line A) := by
  refine T.read_line.fn.okX sc_read_line (fun vs H Q E h => ?_) (fun cdv A' outer s H vs Q E hr th h => ?_)
  · obtain ⟨x, dx, l, n, rfl, _⟩ := h; rfl
  · obtain ⟨r, l, ns, rest, rfl, rd, kf, k⟩ := h
    refine ⟨_, (pss_cons (ps_set (i := 1) sc_read_line.nd rfl (Or.inl rfl) (pcall T.read (ok_read T) (hr.mono (by decide)) th.pass (pa_cons (pv 0) (pa_cons (pe_op op_mul pe_int (pcall T.read_count (ok_read_count T) (hr.mono (by decide)) th.pass (pa_cons (pv 0) (pa_cons (pe_gi rfl T.c_MOST_POINTS) pa_nil)))) pa_nil))))
  (pss_cons (ps_if (pt_not (pt_val (pcall T.points_fit (ok_points_fit T) (hr.mono (by decide)) pass0 (pa_cons (pv 1) pa_nil))))
  (pss_one (ps_raise th rfl rfl T.x_m T.x_in))
  pss_nil)
  (pss_one (ps_ret (pcall T.points_of (ok_points_of T) (hr.mono (by decide)) pass0 (pa_cons (pv 1) pa_nil)))))), ?_⟩
    refine ⟨_, rfl, _, rfl, r, l, ns, rest, 16, rfl, rd, fun no => kf fun n q e h => absurd h (no n q e), fun n q e hn H1 rd1 sx1 => ?_⟩
    subst e
    refine ⟨_, _, rfl, rfl, .inl ⟨by decide, by decide⟩, r, l, ns, q, 2 * n, rfl, rd1, fun hl e => ?_, fun hl D H2 hD rd2 hD2 sx2 => ?_⟩
    · exact kf (fun n' q' z h1 h2 => by cases z; omega) e H1 sx1
    · have tl : (q.take (2 * n)).length = 2 * n := by rw [List.length_take]; omega
      have fl : fitL (q.take (2 * n)) = Line.fine (pairs (q.take (2 * n))) := by
        unfold fitL
        rw [pairsOf_even _ (by omega)]
      refine ⟨_, rfl, D, q.take (2 * n), rfl, SqL.of hD2, fun H3 s3 => ⟨_, rfl, ?_⟩⟩
      rw [fl]
      cases hv : Line.fine (pairs (q.take (2 * n))) with
      | false =>
        refine iteT fun e => kf (fun n' q' z h1 h2 h3 => ?_) e H3 ((sx1.trans sx2).trans (sX s3))
        cases z
        rw [← lok_iff, hv] at h3
        cases h3
      | true =>
        refine iteF ⟨_, rfl, D, q.take (2 * n), rfl, SqL.of (s3 _ _ hD2), by omega, fun x H4 nx hx s4 => ?_⟩
        have n1 := (rd2.same s3).ne nx
        exact k n q rfl hn hl ((lok_iff _).mp hv) x H4 ((sx1.trans sx2).free (s3.free nx) n1) hx ((rd2.same s3).same s4) (((sx1.trans sx2).trans (sX s3)).trans (sX s4))
def sp_read_note (A : Adr) : Sp := fun vs H Q E => ∃ (r l : Addr) (ns rest : List Nat), vs = [.ref r] ∧ Rd A H r l ns rest ∧ ((∀ (v : Note) q, rest = v.row ++ q → ¬ NOk v) → Fails E r H) ∧
  (∀ (v : Note) q, rest = v.row ++ q → NOk v → ∀ x H', H x = none → NoteAt A H' x v → Rd A H' r l ns q → SameX r H H' → Q (.ref x) H')
theorem ok_read_note (T : Txt K mg A) : FnOk P w K mg base (CX1 P w A.c_NoScoresRow) 3 A.f_read_note A.d_read_note ["reader"] (sp_read_note A) := by
  refine T.read_note.fn.okX sc_read_note (fun vs H Q E h => ?_) (fun cdv A' outer s H vs Q E hr th h => ?_)
  · obtain ⟨x, dx, l, n, rfl, _⟩ := h; rfl
  · obtain ⟨r, l, ns, rest, rfl, rd, kf, k⟩ := h
    refine ⟨_, (pss_cons (ps_set (i := 1) sc_read_note.nd rfl (Or.inl rfl) (pcall T.read (ok_read T) (hr.mono (by decide)) th.pass (pa_cons (pv 0) (pa_cons (pe_gi rfl T.c_NOTE_SIZE) pa_nil))))
  (pss_cons (ps_if (pt_not (pt_val (pcall T.note_fits (ok_note_fits T) (hr.mono (by decide)) pass0 (pa_cons (pe_slice sl_list (pv 1) (po_some pe_int) po_none) pa_nil))))
  (pss_one (ps_raise th rfl rfl T.x_m T.x_in))
  pss_nil)
  (pss_one (ps_ret (pmake T.Note (ok_Note T) (hr.mono (by decide)) pass0 (pa_cons (pe_ix ix_list (pv 1) pe_int (fun _ _ => rfl)) (pa_cons (pe_slice sl_list (pv 1) (po_some pe_int) po_none) pa_nil))))))), ?_⟩
    refine ⟨_, rfl, r, l, ns, rest, 6, rfl, rd, fun hl e => ?_, fun hl D H1 hD rd1 hD1 sx => ?_⟩
    · refine kf (fun c q z => ?_) e H SameX.refl
      rw [z] at hl
      exact absurd hl (by show ¬ (q.length + 1 + 1 + 1 + 1 + 1 + 1 < 6); omega)
    · obtain ⟨n, q, rfl⟩ := note_split hl
      have hD1 : H1 D = some (.lst (nv n.row)) := hD1
      have rd1 : Rd A H1 r l ns q := rd1
      have ec : cutV (nv n.row) (some 1) none = nv [n.voice, n.at_, n.len, n.step, n.level] := cut_from (ns := n.row) (k := 1) (by show 1 ≤ 6; decide)
      refine ⟨_, rfl, _, rfl, D, _, rfl, SqL.of hD1, fun p hp => ?_⟩
      rw [ec]
      refine ⟨p, [n.voice, n.at_, n.len, n.step, n.level], n.len, rfl, SqL.of upd_same, rfl, fun H2 s2 => ⟨_, rfl, ?_⟩⟩
      have s2 : Same H1 H2 := (Same.new hp).trans s2
      cases hv : (decide (1 ≤ n.len) && noneAbove [n.voice, n.at_, n.len, n.step, n.level] GN) with
      | false =>
        refine iteT fun e => kf (fun u p z o => ?_) e H2 (sx.trans (sX s2))
        rw [← (note_same z).1, ← fits_note, hv] at o
        cases o
      | true =>
        have hD2 := s2 _ _ hD1
        refine iteF ⟨_, rfl, D, _, _, _, rfl, rfl, SqL.of hD2, at_of (j := 0) rfl rfl, _, rfl, _, rfl, D, _, rfl, SqL.of hD2, fun p2 hp2 => ?_⟩
        rw [ec]
        refine fun x dx nx ndx ne => ⟨x, dx, p2, n, rfl, upd_same, SqL.of ?_, fun H3 e1 e2 => ⟨rfl, ?_⟩⟩
        · have : (upd H2 p2 (.lst (nv [n.voice, n.at_, n.len, n.step, n.level]))) p2 = _ := upd_same
          rw [upd_ne (ne_of_none this nx), upd_ne (ne_of_none this ndx)]; exact this
        · have s3 : Same H2 H3 := (Same.new hp2).trans (same_made nx ndx e2)
          have nx2 := (Same.new hp2).free nx
          have n1 := (rd1.same s2).ne nx2
          exact k n q rfl ((fits_note n).mp hv) x H3 (sx.free (s2.free nx2) n1) ⟨dx, e1⟩ ((rd1.same s2).same s3) ((sx.trans (sX s2)).trans (sX s3))
end
end Sb
end
section
set_option Elab.async false
set_option linter.all false
set_option maxRecDepth 100000
set_option maxHeartbeats 4000000
namespace Sb
open PySem PySem.Spec PyProof.Rows L2 ScoreNs Mu
theorem ne_len {H : Hp} {x y C dx C' dx' : Addr} {fs fs' : List (Str × V)} (h : H x = some (.ins C dx fs)) (h' : H y = some (.ins C' dx' fs')) (n : fs.length ≠ fs'.length) : x ≠ y := by
  intro z
  rw [z, h'] at h
  exact n (congrArg List.length (HO.ins.inj (Option.some.inj h)).2.2.symm)
theorem same_x {r : Addr} {H H1 H2 : Hp} (hr : H r = none) (s : Same H H1) (sx : SameX r H1 H2) : Same H H2 := fun b o e => sx b o (ne_of_none e hr) (s b o e)
theorem updX {a : Addr} {H : Hp} {o : HO} : SameX a H (upd H a o) := fun b u n e => by rw [upd_ne n]; exact e
theorem newX {r D : Addr} {H H1 H2 : Hp} {o : HO} (sx : SameX r H H1) (s : SameX r H1 H2) (hD : H D = none) : SameX r H (upd H2 D o) := fun b u n e => by rw [upd_ne (ne_of_none e hD)]; exact s _ _ n (sx _ _ n e)
section
variable {P : Program} {w : World} {K : PySem.W.Frag} {mg : Str → Option Value} {base : Heap} {A : Adr}
theorem VoiceAt.x {H H' : Hp} {p r C dx : Addr} {fs : List (Str × V)} {v : Voice} (h : VoiceAt A H p v) (sx : SameX r H H') (hr : H r = some (.ins C dx fs)) (n : fs.length ≠ 5) : VoiceAt A H' p v := let ⟨d, e⟩ := h; ⟨d, sx _ _ (ne_len e hr (fun z => n z.symm)) e⟩
theorem NoteAt.x {H H' : Hp} {p r C dx : Addr} {fs : List (Str × V)} {v : Note} (h : NoteAt A H p v) (sx : SameX r H H') (hr : H r = some (.ins C dx fs)) (n : fs.length ≠ 6) : NoteAt A H' p v := let ⟨d, e⟩ := h; ⟨d, sx _ _ (ne_len e hr (fun z => n z.symm)) e⟩
theorem LineAt.x {H H' : Hp} {p r C dx : Addr} {fs : List (Str × V)} {v : Line} (h : LineAt H p v) (sx : SameX r H H') (hr : H r = some (.ins C dx fs)) : LineAt H' p v := by
  obtain ⟨qs, h1, h2, h3⟩ := h
  exact ⟨qs, sx _ _ (ne_of h1 hr (by intro z; cases z)) h1, fun q hq => sx _ _ (ne_of (h2 q hq) hr (by intro z; cases z)) (h2 q hq), h3⟩
theorem VoiceAt.d {H H' : Hp} {p D : Addr} {xs : List V} {v : Voice} (h : VoiceAt A H p v) (sx : SameX D H H') (hr : H D = some (.lst xs)) : VoiceAt A H' p v := let ⟨d, e⟩ := h; ⟨d, sx _ _ (ne_of e hr (by intro z; cases z)) e⟩
theorem NoteAt.d {H H' : Hp} {p D : Addr} {xs : List V} {v : Note} (h : NoteAt A H p v) (sx : SameX D H H') (hr : H D = some (.lst xs)) : NoteAt A H' p v := let ⟨d, e⟩ := h; ⟨d, sx _ _ (ne_of e hr (by intro z; cases z)) e⟩
theorem LineAt.d {H H' : Hp} {p D : Addr} {xs : List V} {v : Line} (h : LineAt H p v) (sx : SameX D H H') (hr : H D = some (.lst xs)) (n : p ≠ D) : LineAt H' p v := by
  obtain ⟨qs, h1, h2, h3⟩ := h
  exact ⟨qs, sx _ _ n h1, fun q hq => sx _ _ (ne_of (h2 q hq) hr (by intro z; cases z)) (h2 q hq), h3⟩
theorem Rd.put {H : Hp} {r l D : Addr} {ns z : List Nat} {o : HO} (h : Rd A H r l ns z) (n1 : r ≠ D) (n2 : l ≠ D) : Rd A (upd H D o) r l ns z := let ⟨dx, b, e1, e2, e3⟩ := h; ⟨dx, b, by rw [upd_ne n1]; exact e1, by rw [upd_ne n2]; exact e2, e3⟩
theorem Rd.r {H : Hp} {r l : Addr} {ns z : List Nat} (h : Rd A H r l ns z) : ∃ dx b, H r = some (.ins A.c_Reader dx (readerF l b)) := let ⟨dx, b, e, _⟩ := h; ⟨dx, b, e⟩
theorem Rd.l {H : Hp} {r l : Addr} {ns z : List Nat} (h : Rd A H r l ns z) : H l = some (.lst (nv ns)) := let ⟨_, _, _, e, _⟩ := h; e
theorem all_nok {ms : List Note} : ms.all Note.fine = true ↔ ∀ m ∈ ms, NOk m := by
  rw [List.all_eq_true]
  exact ⟨fun h m hm => (nok_iff m).mp (h m hm), fun h m hm => (nok_iff m).mpr (h m hm)⟩
theorem all_vok {ms : List Voice} : ms.all Voice.fine = true ↔ ∀ m ∈ ms, VOk m := by
  rw [List.all_eq_true]
  exact ⟨fun h m hm => (vok_iff m).mp (h m hm), fun h m hm => (vok_iff m).mpr (h m hm)⟩
theorem all_lok {ms : List Line} : ms.all Line.fine = true ↔ ∀ m ∈ ms, LOk m := by
  rw [List.all_eq_true]
  exact ⟨fun h m hm => (lok_iff m).mp (h m hm), fun h m hm => (lok_iff m).mpr (h m hm)⟩
theorem ids_ok {vs : List Voice} {ls : List Line} {next : Nat} {ms : List Note} : idsFine ⟨vs, ls, next, ms⟩ = true ↔ (ms.map fun (n : Note) => n.id).Nodup ∧ ∀ m ∈ ms, 1 ≤ m.id ∧ m.id < next := by
  unfold idsFine
  rw [Bool.and_eq_true, decide_eq_true_eq, List.all_eq_true]
  refine and_congr Iff.rfl ⟨fun h m hm => ?_, fun h m hm => ?_⟩
  · have := h m hm
    rw [Bool.and_eq_true, decide_eq_true_eq, decide_eq_true_eq] at this
    exact this
  · rw [Bool.and_eq_true, decide_eq_true_eq, decide_eq_true_eq]
    exact h m hm
structure NsOk (next : Nat) (ms : List Note) : Prop where
  ok : ∀ m ∈ ms, NOk m
  nd : (ms.map fun (n : Note) => n.id).Nodup
  ids : ∀ m ∈ ms, 1 ≤ m.id ∧ m.id < next
def sp_read_notes (A : Adr) : Sp := fun vs H Q E => ∃ (r l : Addr) (ns rest : List Nat) (next : Nat), vs = [.ref r, iv next] ∧ Rd A H r l ns rest ∧ ((∀ n q ms z, rest = n :: q → n ≤ 64 → notesIn n q = some (ms, z) → ¬ NsOk next ms) → Fails E r H) ∧
  (∀ n q ms z, rest = n :: q → n ≤ 64 → notesIn n q = some (ms, z) → NsOk next ms → ∀ D H' (np : List (Addr × Note)), H D = none → H' D = some (.lst (np.map fun p => .ref p.1)) → np.map (·.2) = ms → (∀ p ∈ np, NoteAt A H' p.1 p.2) → (np.map (·.1)).Nodup → (∀ p ∈ np, H p.1 = none) → Rd A H' r l ns z → SameX r H H' → Q (.ref D) H')
theorem ok_read_notes (T : Txt K mg A) : FnOk P w K mg base (CX1 P w A.c_NoScoresRow) 4 A.f_read_notes A.d_read_notes ["reader", "next_number"] (sp_read_notes A) := by
  refine T.read_notes.fn.okX sc_read_notes (fun vs H Q E h => ?_) (fun cdv A' outer s H vs Q E hr th h => ?_)
  · obtain ⟨x, dx, l, n, m, rfl, _⟩ := h; rfl
  · obtain ⟨r, l, ns, rest, next, rfl, rd, kf, k⟩ := h
    refine ⟨_, (pss_cons (ps_setLcx th rfl rfl (i := 2) rfl sc_read_notes.nd rfl rfl (sw_true rfl rfl rfl rfl) (pi_range1 rfl T.b_range (pa_cons (pcall T.read_count (ok_read_count T) (hr.mono (by decide)) th.pass (pa_cons (pv 0) (pa_cons (pe_gi rfl T.c_MOST_NOTES) pa_nil))) pa_nil)) (own := [("place", 6)]) (blkOk_by (by show blkC ["reader", "next_number", "notes", "numbers", "note", "number", "place"] (defScope s_read_notes) _ _ = true; decide +kernel)) (fun _ _ _ _ _ => (pg_name (i := 6) sc_read_notes.nd rfl (Or.inl rfl))) (fun _ _ _ _ _ => pts_nil) (fun _ _ _ _ _ _ th' => (pcall T.read_note (ok_read_note T) (hr.mono (by decide)) th'.pass (pa_cons (pv 0) pa_nil))))
  (pss_cons (ps_setLc (i := 3) rfl sc_read_notes.nd rfl rfl (sw_true rfl rfl rfl rfl) (pi_list (pv 2)) (own := [("note", 4)]) (blkOk_by (by show blkC ["reader", "next_number", "notes", "numbers", "note", "number", "place"] (defScope s_read_notes) _ _ = true; decide +kernel)) (fun _ _ _ _ _ => (pg_name (i := 4) sc_read_notes.nd rfl (Or.inl rfl))) (fun _ _ _ _ _ => pts_nil) (fun _ _ _ _ _ => (pe_fldK K rfl (pv 4) rfl)))
  (pss_cons (ps_if (pt_cmpR op_lt (pe_callB cr_lenSet (by rfl) T.b_len PySem.boot_len (pa_cons (pe_callTy (cr_setOf rfl) (by rfl) T.b_set boot_set5 (pa_cons (pv 3) pa_nil)) pa_nil)) (pe_callB call_len_seq (by rfl) T.b_len PySem.boot_len (pa_cons (pv 3) pa_nil)) (nomark _))
  (pss_one (ps_raise th rfl rfl T.x_m T.x_in))
  pss_nil)
  (pss_cons (ps_if (pt_not (pt_val (pe_callB (cr_all rfl) (by rfl) T.b_all boot_all5 (pa_cons (pe_lc rfl sc_read_notes.nd (pi_list (pv 3)) (own := [("number", 5)]) (blkOk_by (by show blkC ["reader", "next_number", "notes", "numbers", "note", "number", "place"] (defScope s_read_notes) _ _ = true; decide +kernel)) (fun _ _ _ _ _ => (pg_name (i := 5) sc_read_notes.nd rfl (Or.inl rfl))) (fun _ _ _ _ _ => pts_nil) (fun _ _ _ _ _ => (pe_chain op_le op_lt pe_int (pv 5) (pv 1)))) pa_nil))))
  (pss_one (ps_raise th rfl rfl T.x_m T.x_in))
  pss_nil)
  (pss_one (ps_ret (pv 2))))))), ?_⟩
    refine ⟨_, rfl, r, l, ns, rest, 64, rfl, rd, fun no => kf fun n q ms z e h => absurd h (no n q e), fun n q e hn H1 rd1 sx1 => ?_⟩
    subst e
    refine ⟨(n : Int), rfl, by omega, by omega, fun D hD => ?_⟩
    rw [Int.toNat_natCast]
    have rD : r ≠ D := (rd1.ne hD).symm
    have lD : l ≠ D := ne_of_none rd1.l hD
    refine lc_range (n := n) (fun i H' => ∃ (np : List (Addr × Note)) (z : List Nat), notesIn i q = some (np.map (·.2), z) ∧ (∀ p ∈ np, NOk p.2 ∧ NoteAt A H' p.1 p.2 ∧ H1 p.1 = none) ∧ (np.map (·.1)).Nodup ∧ H' D = some (.lst (np.map fun p => .ref p.1)) ∧ Rd A H' r l ns z ∧ SameX r H1 H' ∧ np.length = i)
      ⟨[], q, rfl, fun _ h => (nomatch h), List.nodup_nil, upd_same, rd1.put rD lD, newX SameX.refl SameX.refl hD, rfl⟩ (fun i H2 hi ⟨np, z, a1, a2, a3, a4, a5, a6, a7⟩ => ?_) fun H2 ⟨np, z, a1, a2, a3, a4, a5, a6, a7⟩ => ?_
    · obtain ⟨dr, br, hr2⟩ := a5.r
      refine ⟨rfl, yesI ⟨_, rfl, r, l, ns, z, rfl, a5, fun no e H3 sx3 => ?_, fun v q' e on x H3 nx hx rd3 sx3 => ?_⟩⟩
      · refine kf (fun n' q' ms z' e hn' hin so => ?_) e H3 ((sx1.trans a6).trans sx3)
        cases e
        by_cases hl : z.length < 6
        · rw [notes_none (notes_short a1 hl) (by omega)] at hin; cases hin
        · obtain ⟨v, q', rfl⟩ := note_split (l := z) (by omega)
          have st : notesIn (i + 1) q = some (np.map (·.2) ++ [v], q') := notes_step a1
          have nf : (np.map (·.2) ++ [v]).all Note.fine = false := by
            cases hb : (np.map (·.2) ++ [v]).all Note.fine with
            | false => rfl
            | true => exact absurd (all_nok.mp hb v (List.mem_append_right _ List.mem_cons_self)) (no v q' rfl)
          have := notes_bad st nf hi ms z' hin
          rw [all_nok.mpr so.ok] at this
          cases this
      · subst e
        have st : notesIn (i + 1) q = some (np.map (·.2) ++ [v], q') := notes_step a1
        have xD : x ≠ D := fun z => by rw [z, a4] at nx; cases nx
        have D3 : H3 D = some (.lst (np.map fun p => .ref p.1)) := sx3 _ _ rD.symm a4
        refine ⟨_, D3, ?_, np ++ [(x, v)], q', ?_, ?_, ?_, ?_, rd3.put rD lD, newX a6 sx3 hD, ?_⟩
        · rw [List.length_map, a7]; exact line16 (by omega)
        · rw [st, List.map_append]; rfl
        · intro p hp
          rcases List.mem_append.mp hp with hp | hp
          · obtain ⟨c1, c2, c3⟩ := a2 p hp
            exact ⟨c1, (c2.x sx3 hr2 (by show 2 ≠ 6; decide)).d updX D3, c3⟩
          · rw [List.mem_singleton.mp hp]
            exact ⟨on, hx.d updX D3, a6.free nx (a5.ne nx)⟩
        · rw [List.map_append]
          refine List.nodup_append.mpr ⟨a3, by simp, fun y hy y' hy' e => ?_⟩
          obtain ⟨p, hp, rfl⟩ := List.mem_map.mp hy
          rw [List.mem_singleton.mp hy'] at e
          obtain ⟨d, c2⟩ := (a2 p hp).2.1
          have e : p.1 = x := e
          rw [e, nx] at c2; cases c2
        · rw [upd_same, List.map_append]; rfl
        · rw [List.length_append, a7]; rfl
    have sx2 := sx1.trans a6
    obtain ⟨dr, br, hr2⟩ := a5.r
    -- numbers
    refine ⟨_, rfl, D, rfl, ⟨_, SqL.of a4⟩, fun D2 hD2 => ?_⟩
    refine lc_list (K := K) (a := D) (xs := np.map fun p => V.ref p.1) (fun j H' => Acc H2 H' D2 (nv ((np.take j).map fun p => p.2.id))) (Acc.start hD2) (fun j H' _ q => SqL.of (q.same _ _ a4)) (fun j y H' hj q => ?_) fun H3 q3 => ?_
    · obtain ⟨p, hp, rfl⟩ := of_map hj
      have hn := (a2 p (List.mem_of_getElem? hp)).2.1.same q.same
      refine ⟨rfl, yesI ⟨_, rfl, n_number T hn ⟨_, q.at_, ?_, (q.push hD2 (Same.refl H')).eq ?_⟩⟩⟩
      · rw [List.length_map, List.length_map, List.length_take]; exact line16 (by omega)
      · rw [take_snoc hp, List.map_append, nv_app]; rfl
    rw [List.length_map, List.take_length] at q3
    generalize hids : (np.map fun p => p.2.id) = ids at q3
    have il : ids.length = n := by rw [← hids, List.length_map, a7]
    have eids : ((np.map (·.2)).map fun (n : Note) => n.id) = ids := by rw [← hids, List.map_map]; rfl
    have q3' : H3 D2 = some (.lst ((ids.map fun (n : Nat) => (n : Int)).map V.int)) := by rw [← nv_int]; exact q3.at_
    -- twice
    refine ⟨_, rfl, D2, _, rfl, SqL.of q3', ?_, fun p S m hp hm1 hm2 => ⟨p, S, m, rfl, upd_same, _, rfl, D2, _, rfl, .inl (SqL.of ((Same.new hp) _ _ q3.at_)), _, _, rfl, rfl, tst (fun c => iteT ?_) fun c => iteF ?_⟩⟩
    · rw [List.length_map, il]; omega
    · intro e
      refine kf (fun n' q' ms z' e2 hn' hin so => ?_) e _ ((sx2.trans (sX q3.same)).trans (sX (Same.new hp)))
      cases e2
      rw [a1] at hin
      cases hin
      have nd := so.nd
      rw [eids] at nd
      have : (ids.map fun (n : Nat) => (n : Int)).Nodup := by
        refine List.Pairwise.map _ (fun a b h e => h (by omega)) nd
      have e3 := hm2.mpr this
      rw [List.length_map, il] at c
      rw [List.length_map, il] at e3
      omega
    have s4 : Same H2 (upd H3 p (.set S m)) := q3.same.trans (Same.new hp)
    have nd : ids.Nodup := by
      rw [List.length_map] at c
      rw [List.length_map] at hm1
      have : (ids.map fun (n : Nat) => (n : Int)).Nodup := hm2.mp (by rw [List.length_map]; omega)
      exact List.Pairwise.of_map (f := fun (n : Nat) => (n : Int)) (S := fun a b => a ≠ b) (fun a b h e => h (by rw [e])) this
    have d4 : (upd H3 p (.set S m)) D2 = some (.lst (nv ids)) := (Same.new hp) _ _ q3.at_
    generalize upd H3 p (.set S m) = H4 at s4 d4 ⊢
    -- in the bounds
    refine ⟨_, rfl, D2, rfl, ⟨_, SqL.of d4⟩, fun D3 hD3 => ?_⟩
    let good : Nat → Bool := fun i => decide (1 ≤ i) && decide (i < next)
    refine lc_list (K := K) (a := D2) (xs := nv ids) (fun j H' => Acc H4 H' D3 (((ids.take j).map good).map V.bl)) (Acc.start hD3) (fun j H' _ q => SqL.of (q.same _ _ d4)) (fun j y H' hj q => ?_) fun H5 q5 => ?_
    · obtain ⟨u, hu, rfl⟩ := of_nv hj
      have jl : ids.length ≤ 64 := by omega
      have lb : (((ids.take j).map good).map V.bl).length < sizeLine := by rw [List.length_map, List.length_map, List.length_take]; exact line16 (by omega)
      refine ⟨rfl, yesI ⟨_, rfl, _, _, rfl, rfl, tst (fun c => iteT ⟨_, rfl, _, _, rfl, rfl, _, q.at_, lb, (q.push hD3 (Same.refl H')).eq ?_⟩) fun c => iteF ⟨_, q.at_, lb, (q.push hD3 (Same.refl H')).eq ?_⟩⟩⟩
      · rw [take_snoc hu, List.map_append, List.map_append]
        congr 1
        show [V.bl (decide ((u : Int) < (next : Int)))] = [V.bl (decide (1 ≤ u) && decide (u < next))]
        rw [dlt, decide_eq_true (show 1 ≤ u by omega), Bool.true_and]
      · rw [take_snoc hu, List.map_append, List.map_append]
        congr 1
        show [V.bl false] = [V.bl (decide (1 ≤ u) && decide (u < next))]
        rw [decide_eq_false (show ¬ 1 ≤ u by omega), Bool.false_and]
    rw [List.length_map, List.take_length] at q5
    refine ⟨D3, ids.map good, rfl, SqL.of q5.at_, _, rfl, ?_⟩
    have s5 : Same H2 H5 := s4.trans q5.same
    have gid : (ids.map good).all id = true ↔ ∀ m ∈ np.map (·.2), 1 ≤ m.id ∧ m.id < next := by
      rw [List.all_map, List.all_eq_true, ← hids]
      refine ⟨fun h m hm => ?_, fun h i hi => ?_⟩
      · obtain ⟨p, hp, rfl⟩ := List.mem_map.mp hm
        have : good p.2.id = true := h p.2.id (List.mem_map_of_mem (f := fun (p : Addr × Note) => p.2.id) hp)
        have : (decide (1 ≤ p.2.id) && decide (p.2.id < next)) = true := this
        rw [Bool.and_eq_true, decide_eq_true_eq, decide_eq_true_eq] at this
        exact this
      · obtain ⟨p, hp, rfl⟩ := List.mem_map.mp hi
        show (decide (1 ≤ p.2.id) && decide (p.2.id < next)) = true
        rw [Bool.and_eq_true, decide_eq_true_eq, decide_eq_true_eq]
        exact h p.2 (List.mem_map_of_mem hp)
    cases hg : (ids.map good).all id with
    | false =>
      refine iteT fun e => kf (fun n' q' ms z' e2 hn' hin so => ?_) e _ (sx2.trans (sX s5))
      cases e2
      rw [a1] at hin
      cases hin
      rw [gid.mpr so.ids] at hg
      cases hg
    | true =>
      refine iteF ⟨_, rfl, k n q _ z rfl hn a1 ⟨?_, by rw [eids]; exact nd, gid.mp hg⟩ D H5 np (sx1.free hD rD.symm) (s5 _ _ a4) rfl (fun p hp => (a2 p hp).2.1.same s5) a3 (fun p hp => sx1.free (a2 p hp).2.2 fun z => ?_) (a5.same s5) (sx2.trans (sX s5))⟩
      · intro m hm
        obtain ⟨p, hp, rfl⟩ := List.mem_map.mp hm
        exact (a2 p hp).1
      · have := (a2 p hp).2.2
        obtain ⟨d1, b1, h1⟩ := rd1.r
        rw [z, h1] at this; cases this
end
end Sb
end
section
set_option Elab.async false
set_option linter.all false
set_option maxRecDepth 100000
set_option maxHeartbeats 4000000
namespace Sb
open PySem PySem.Spec PyProof.Rows L2 ScoreNs Mu
theorem same_made' {H H1 : Hp} {x dx C : Addr} (nx : H x = Option.none) (nd : H dx = Option.none) (h : ∀ b o, b ≠ x → (upd (upd H dx (.own x)) x (.ins C dx [])) b = some o → H1 b = some o) : Same H H1 := Same.made (C := C) nx nd fun b o e hb => h b o hb e
section
variable {P : Program} {w : World} {K : PySem.W.Frag} {mg : Str → Option Value} {base : Heap} {A : Adr}
def sp_score_of (A : Adr) : Sp := fun vs H Q E => ∃ (l : Addr) (ns : List Nat), vs = [.ref l] ∧ H l = some (.lst (nv ns)) ∧ (scoreIn ns = none → ∀ e H', Same H H' → E e none H') ∧
  (∀ s, scoreIn ns = some s → SOk s → ∀ a H' F, ScoreAt A H' a s F → (∀ b ∈ F, H b = none) → Same H H' → Q (.ref a) H')
theorem ok_score_of (T : Txt K mg A) : FnOk P w K mg base (CX1 P w A.c_NoScoresRow) 5 A.f_score_of A.d_score_of ["row"] (sp_score_of A) := by
  refine T.score_of.fn.okX sc_score_of (fun vs H Q E h => ?_) (fun cdv A' outer s H vs Q E hr th h => ?_)
  · obtain ⟨l, n, rfl, _⟩ := h; rfl
  · obtain ⟨l, ns, rfl, hl, kf, k⟩ := h
    refine ⟨_, (pss_cons (ps_set (i := 1) sc_score_of.nd rfl (Or.inr rfl) (pmake T.Reader (ok_Reader T) (hr.mono (by decide)) pass0 (pa_cons (pv 0) pa_nil)))
  (pss_cons (ps_set (i := 2) sc_score_of.nd rfl (Or.inl rfl) (pmake0 T.Score (ok_Score T) (hr.mono (by decide)) pass0))
  (pss_cons (ps_fld (pv 2) (pe_lcx th rfl rfl rfl sc_score_of.nd (pi_range1 rfl T.b_range (pa_cons (pe_gi rfl T.c_VOICE_COUNT) pa_nil)) (own := [("v", 3)]) (blkOk_by (by show blkC ["row", "reader", "score", "v"] (defScope s_score_of) _ _ = true; decide +kernel)) (fun _ _ _ _ _ => (pg_name (i := 3) sc_score_of.nd rfl (Or.inl rfl))) (fun _ _ _ _ _ => pts_nil) (fun _ _ _ _ _ _ th' => (pcall T.read_voice (ok_read_voice T) (hr.mono (by decide)) th'.pass (pa_cons (pv 1) pa_nil)))) rfl)
  (pss_cons (ps_fld (pv 2) (pe_lcx th rfl rfl rfl sc_score_of.nd (pi_range1 rfl T.b_range (pa_cons (pe_gi rfl T.c_VOICE_COUNT) pa_nil)) (own := [("v", 3)]) (blkOk_by (by show blkC ["row", "reader", "score", "v"] (defScope s_score_of) _ _ = true; decide +kernel)) (fun _ _ _ _ _ => (pg_name (i := 3) sc_score_of.nd rfl (Or.inl rfl))) (fun _ _ _ _ _ => pts_nil) (fun _ _ _ _ _ _ th' => (pcall T.read_line (ok_read_line T) (hr.mono (by decide)) th'.pass (pa_cons (pv 1) pa_nil)))) rfl)
  (pss_cons (ps_fld (pv 2) (pcall T.read_next_number (ok_read_next_number T) (hr.mono (by decide)) th.pass (pa_cons (pv 1) pa_nil)) rfl)
  (pss_cons (ps_fld (pv 2) (pcall T.read_notes (ok_read_notes T) (hr.mono (by decide)) th.pass (pa_cons (pv 1) (pa_cons (pe_fld (pv 2) rfl) pa_nil))) rfl)
  (pss_cons (ps_if (pt_cmpR op_lt (pe_fld (pv 1) rfl) (pe_callB call_len_seq (by rfl) T.b_len PySem.boot_len (pa_cons (pv 0) pa_nil)) (nomark _))
  (pss_one (ps_raise th rfl rfl T.x_m T.x_in))
  pss_nil)
  (pss_one (ps_ret (pv 2)))))))))), ?_⟩
    have no := T.Score.no
    -- the reader
    refine ⟨_, rfl, fun r dr nr ndr ner => ⟨r, dr, l, rfl, upd_same, fun H1 e1 e2 => ⟨rfl, ?_⟩⟩⟩
    have s1 : Same H H1 := same_made nr ndr e2
    have rd1 : Rd A H1 r l ns ns := ⟨dr, 0, e1, s1 _ _ hl, Nat.zero_le _, rfl⟩
    -- the score
    refine fun a da na nda nea => ⟨a, da, rfl, upd_same, fun H2 F sc _ keep => ⟨rfl, ?_⟩⟩
    have s2 : Same H1 H2 := same_made' na nda keep
    obtain ⟨dx, lv0, ll0, ln0, _, _, _, x0, _⟩ := sc
    have ob2 := x0.ob
    have rd2 := rd1.same s2
    have na0 : H a = none := s1.free na
    have ra : r ≠ a := ne_of_none e1 na
    have la : l ≠ a := ne_of_none rd1.l na
    have sh2 := s1.trans s2
    -- voices
    refine ⟨8, rfl, by decide, by decide, fun lv hlv => ?_⟩
    have rv : r ≠ lv := (rd2.ne hlv).symm
    have lvl : l ≠ lv := ne_of_none rd2.l hlv
    have av : a ≠ lv := ne_of_none ob2 hlv
    refine lc_range (n := 8) (fun i H' => ∃ (vp : List (Addr × Voice)) (z : List Nat), voicesIn i ns = some (vp.map (·.2), z) ∧ (∀ p ∈ vp, VOk p.2 ∧ VoiceAt A H' p.1 p.2) ∧ H' lv = some (.lst (vp.map fun p => .ref p.1)) ∧ Rd A H' r l ns z ∧ SameX r H2 H' ∧ vp.length = i)
      ⟨[], ns, rfl, fun _ h => (nomatch h), upd_same, rd2.put rv lvl, newX SameX.refl SameX.refl hlv, rfl⟩ (fun i H3 hi ⟨vp, z, a1, a2, a4, a5, a6, a7⟩ => ?_) fun H3 ⟨vp, z, a1, a2, a4, a5, a6, a7⟩ => ?_
    · obtain ⟨dr, br, hr2⟩ := a5.r
      refine ⟨rfl, yesI ⟨_, rfl, r, l, ns, z, rfl, a5, fun no e H4 sx4 => ?_, fun v q' e on x H4 nx hx rd4 sx4 => ?_⟩⟩
      · refine kf ?_ e H4 (same_x nr sh2 (a6.trans sx4))
        by_cases hl : z.length < 5
        · exact in_voices_none (voices_none (voices_short a1 hl) (by omega))
        · obtain ⟨v, q', rfl⟩ := voice_split (l := z) (by omega)
          have st : voicesIn (i + 1) ns = some (vp.map (·.2) ++ [v], q') := voices_step a1
          have nf : (vp.map (·.2) ++ [v]).all Voice.fine = false := by
            cases hb : (vp.map (·.2) ++ [v]).all Voice.fine with
            | false => rfl
            | true => exact absurd (all_vok.mp hb v (List.mem_append_right _ List.mem_cons_self)) (no v q' rfl)
          exact in_voices_bad (voices_bad st nf hi)
      · subst e
        have st : voicesIn (i + 1) ns = some (vp.map (·.2) ++ [v], q') := voices_step a1
        have D4 : H4 lv = some (.lst (vp.map fun p => .ref p.1)) := sx4 _ _ rv.symm a4
        refine ⟨_, D4, ?_, vp ++ [(x, v)], q', ?_, ?_, ?_, rd4.put rv lvl, newX a6 sx4 hlv, ?_⟩
        · rw [List.length_map, a7]; exact line16 (by omega)
        · rw [st, List.map_append]; rfl
        · intro p hp
          rcases List.mem_append.mp hp with hp | hp
          · obtain ⟨c1, c2⟩ := a2 p hp
            exact ⟨c1, (c2.x sx4 hr2 (by show 2 ≠ 5; decide)).d updX D4⟩
          · rw [List.mem_singleton.mp hp]
            exact ⟨on, hx.d updX D4⟩
        · rw [upd_same, List.map_append]; rfl
        · rw [List.length_append, a7]; rfl
    have sh3 := same_x nr sh2 a6
    have ob3 := a6 _ _ ra.symm ob2
    refine ⟨_, rfl, a, _, dx, _, rfl, ob3, T.Score.cl, no "voices" (by decide), (by show 4 < 1000; decide), ?_⟩
    rw [show putF ("voices" : Str) (V.ref lv) (scoreF lv0 ll0 ln0 ScoreNs.empty.next) = scoreF lv ll0 ln0 1 from rfl]
    have sh4 : Same H (upd H3 a (.ins A.c_Score dx (scoreF lv ll0 ln0 1))) := same_x na0 sh3 updX
    have ob4 : (upd H3 a (.ins A.c_Score dx (scoreF lv ll0 ln0 1))) a = some (.ins A.c_Score dx (scoreF lv ll0 ln0 1)) := upd_same
    have rd4 : Rd A (upd H3 a (.ins A.c_Score dx (scoreF lv ll0 ln0 1))) r l ns z := a5.put ra la
    have hv4 : (upd H3 a (.ins A.c_Score dx (scoreF lv ll0 ln0 1))) lv = some (.lst (vp.map fun p => .ref p.1)) := by rw [upd_ne av.symm]; exact a4
    have vs4 : ∀ p ∈ vp, VOk p.2 ∧ VoiceAt A (upd H3 a (.ins A.c_Score dx (scoreF lv ll0 ln0 1))) p.1 p.2 := fun p hp => ⟨(a2 p hp).1, (a2 p hp).2.x updX ob3 (by show 4 ≠ 5; decide)⟩

    generalize upd H3 a (.ins A.c_Score dx (scoreF lv ll0 ln0 1)) = H4 at sh4 ob4 rd4 hv4 vs4 ⊢
    clear a2 a4 a5 a6 sh3 ob3
    -- lines
    refine ⟨8, rfl, by decide, by decide, fun ll hll => ?_⟩
    have rl : r ≠ ll := (rd4.ne hll).symm
    have lll : l ≠ ll := ne_of_none rd4.l hll
    have al : a ≠ ll := ne_of_none ob4 hll
    have vl : lv ≠ ll := ne_of_none hv4 hll
    refine lc_range (n := 8) (fun i H' => ∃ (lp : List (Addr × Line)) (y : List Nat), linesIn i z = some (lp.map (·.2), y) ∧ (∀ p ∈ lp, LOk p.2 ∧ LineAt H' p.1 p.2 ∧ p.1 ≠ ll ∧ H4 p.1 = none) ∧ H' ll = some (.lst (lp.map fun p => .ref p.1)) ∧ Rd A H' r l ns y ∧ SameX r H4 H' ∧ lp.length = i)
      ⟨[], z, rfl, fun _ h => (nomatch h), upd_same, rd4.put rl lll, newX SameX.refl SameX.refl hll, rfl⟩ (fun i H5 hi ⟨lp, y, b1, b2, b4, b5, b6, b7⟩ => ?_) fun H5 ⟨lp, y, b1, b2, b4, b5, b6, b7⟩ => ?_
    · obtain ⟨dr, br, hr2⟩ := b5.r
      refine ⟨rfl, yesI ⟨_, rfl, r, l, ns, y, rfl, b5, fun no e H6 sx6 => ?_, fun n q e hn hq on x H6 nx hx rd6 sx6 => ?_⟩⟩
      · refine kf ?_ e H6 (same_x nr sh4 (b6.trans sx6))
        cases y with
        | nil => exact in_lines_none a1 (lines_none (lines_nil b1) (by omega))
        | cons n q =>
          by_cases hn : n ≤ 16
          · by_cases hq : 2 * n ≤ q.length
            · have st := lines_step b1 hn hq
              have nf : (lp.map (·.2) ++ [pairs (q.take (2 * n))]).all Line.fine = false := by
                cases hb : (lp.map (·.2) ++ [pairs (q.take (2 * n))]).all Line.fine with
                | false => rfl
                | true => exact absurd (all_lok.mp hb _ (List.mem_append_right _ List.mem_cons_self)) (no n q rfl hn hq)
              exact in_lines_bad a1 (lines_bad st nf hi)
            · exact in_lines_none a1 (lines_none (lines_short b1 (by omega)) (by omega))
          · exact in_lines_none a1 (lines_none (lines_many b1 (by omega)) (by omega))
      · subst e
        have st := lines_step b1 hn hq
        have D6 : H6 ll = some (.lst (lp.map fun p => .ref p.1)) := sx6 _ _ rl.symm b4
        have xl : x ≠ ll := fun z => by rw [z, b4] at nx; cases nx
        refine ⟨_, D6, ?_, lp ++ [(x, pairs (q.take (2 * n)))], q.drop (2 * n), ?_, ?_, ?_, rd6.put rl lll, newX b6 sx6 hll, ?_⟩
        · rw [List.length_map, b7]; exact line16 (by omega)
        · rw [st, List.map_append]; rfl
        · intro p hp
          rcases List.mem_append.mp hp with hp | hp
          · obtain ⟨c1, c2, c3, c4⟩ := b2 p hp
            exact ⟨c1, (c2.x sx6 hr2).d updX D6 c3, c3, c4⟩
          · rw [List.mem_singleton.mp hp]
            exact ⟨on, hx.d updX D6 xl, xl, b6.free nx (b5.ne nx)⟩
        · rw [upd_same, List.map_append]; rfl
        · rw [List.length_append, b7]; rfl
    have sh5 := same_x nr sh4 b6
    have ob5 := b6 _ _ ra.symm ob4
    obtain ⟨dr4, br4, hr4⟩ := rd4.r
    have hv5 := b6 _ _ rv.symm hv4
    have vs5 : ∀ p ∈ vp, VOk p.2 ∧ VoiceAt A H5 p.1 p.2 := fun p hp => ⟨(vs4 p hp).1, (vs4 p hp).2.x b6 hr4 (by show 2 ≠ 5; decide)⟩
    refine ⟨_, rfl, a, _, dx, _, rfl, ob5, T.Score.cl, no "lines" (by decide), (by show 4 < 1000; decide), ?_⟩
    rw [show putF ("lines" : Str) (V.ref ll) (scoreF lv ll0 ln0 1) = scoreF lv ll ln0 1 from rfl]
    have sh6 : Same H (upd H5 a (.ins A.c_Score dx (scoreF lv ll ln0 1))) := same_x na0 sh5 updX
    have ob6 : (upd H5 a (.ins A.c_Score dx (scoreF lv ll ln0 1))) a = some (.ins A.c_Score dx (scoreF lv ll ln0 1)) := upd_same
    have rd6 : Rd A (upd H5 a (.ins A.c_Score dx (scoreF lv ll ln0 1))) r l ns y := b5.put ra la
    have hv6 : (upd H5 a (.ins A.c_Score dx (scoreF lv ll ln0 1))) lv = some (.lst (vp.map fun p => .ref p.1)) := by rw [upd_ne av.symm]; exact hv5
    have vs6 : ∀ p ∈ vp, VOk p.2 ∧ VoiceAt A (upd H5 a (.ins A.c_Score dx (scoreF lv ll ln0 1))) p.1 p.2 := fun p hp => ⟨(vs5 p hp).1, (vs5 p hp).2.x updX ob5 (by show 4 ≠ 5; decide)⟩
    have hl6 : (upd H5 a (.ins A.c_Score dx (scoreF lv ll ln0 1))) ll = some (.lst (lp.map fun p => .ref p.1)) := by rw [upd_ne al.symm]; exact b4
    have ls6 : ∀ p ∈ lp, LOk p.2 ∧ LineAt (upd H5 a (.ins A.c_Score dx (scoreF lv ll ln0 1))) p.1 p.2 ∧ p.1 ≠ ll ∧ p.1 ≠ lv := fun p hp => ⟨(b2 p hp).1, (b2 p hp).2.1.x updX ob5, (b2 p hp).2.2.1, fun z => by have := (b2 p hp).2.2.2; rw [z, hv4] at this; cases this⟩

    generalize upd H5 a (.ins A.c_Score dx (scoreF lv ll ln0 1)) = H6 at sh6 ob6 rd6 hv6 vs6 hl6 ls6 ⊢
    have lfr : ∀ p ∈ lp, H p.1 = none := fun p hp => sh4.free (b2 p hp).2.2.2
    clear vs4 hv4 ob4 rd4 hr4 b2 b4 b5 b6 sh5 ob5 hv5 vs5
    -- the next number
    refine ⟨_, rfl, r, l, ns, y, rfl, rd6, fun no e H7 sx7 => ?_, fun next q e hn1 hn2 H7 rd7 sx7 => ?_⟩
    · refine kf ?_ e H7 (same_x nr sh6 sx7)
      match y, no with
      | [], _ => exact in_tail_short a1 b1 (by decide)
      | [_], _ => exact in_tail_short a1 b1 (by show 1 < 2; decide)
      | c :: n :: q, no => exact in_next_bad a1 b1 (by have := no c _ rfl; omega)
    subst e
    obtain ⟨dr6, br6, hr6⟩ := rd6.r
    have sh7 := same_x nr sh6 sx7
    have ob7 := sx7 _ _ ra.symm ob6
    have hv7 := sx7 _ _ rv.symm hv6
    have hl7 := sx7 _ _ rl.symm hl6
    have vs7 : ∀ p ∈ vp, VOk p.2 ∧ VoiceAt A H7 p.1 p.2 := fun p hp => ⟨(vs6 p hp).1, (vs6 p hp).2.x sx7 hr6 (by show 2 ≠ 5; decide)⟩
    have ls7 : ∀ p ∈ lp, LOk p.2 ∧ LineAt H7 p.1 p.2 ∧ p.1 ≠ ll ∧ p.1 ≠ lv := fun p hp => ⟨(ls6 p hp).1, (ls6 p hp).2.1.x sx7 hr6, (ls6 p hp).2.2⟩
    refine ⟨_, rfl, a, _, dx, _, rfl, ob7, T.Score.cl, no "next_number" (by decide), (by show 4 < 1000; decide), ?_⟩
    rw [show putF ("next_number" : Str) (iv next) (scoreF lv ll ln0 1) = scoreF lv ll ln0 next from rfl]
    have sh8 : Same H (upd H7 a (.ins A.c_Score dx (scoreF lv ll ln0 next))) := same_x na0 sh7 updX
    have ob8 : (upd H7 a (.ins A.c_Score dx (scoreF lv ll ln0 next))) a = some (.ins A.c_Score dx (scoreF lv ll ln0 next)) := upd_same
    have rd8 : Rd A (upd H7 a (.ins A.c_Score dx (scoreF lv ll ln0 next))) r l ns q := rd7.put ra la
    have hv8 : (upd H7 a (.ins A.c_Score dx (scoreF lv ll ln0 next))) lv = some (.lst (vp.map fun p => .ref p.1)) := by rw [upd_ne av.symm]; exact hv7
    have hl8 : (upd H7 a (.ins A.c_Score dx (scoreF lv ll ln0 next))) ll = some (.lst (lp.map fun p => .ref p.1)) := by rw [upd_ne al.symm]; exact hl7
    have vs8 : ∀ p ∈ vp, VOk p.2 ∧ VoiceAt A (upd H7 a (.ins A.c_Score dx (scoreF lv ll ln0 next))) p.1 p.2 := fun p hp => ⟨(vs7 p hp).1, (vs7 p hp).2.x updX ob7 (by show 4 ≠ 5; decide)⟩
    have ls8 : ∀ p ∈ lp, LOk p.2 ∧ LineAt (upd H7 a (.ins A.c_Score dx (scoreF lv ll ln0 next))) p.1 p.2 ∧ p.1 ≠ ll ∧ p.1 ≠ lv := fun p hp => ⟨(ls7 p hp).1, (ls7 p hp).2.1.x updX ob7, (ls7 p hp).2.2⟩

    generalize upd H7 a (.ins A.c_Score dx (scoreF lv ll ln0 next)) = H8 at sh8 ob8 rd8 hv8 vs8 hl8 ls8 ⊢
    clear vs6 hv6 ob6 rd6 hr6 hl6 ls6 sh7 ob7 hv7 hl7 vs7 ls7
    -- the notes
    refine ⟨_, rfl, _, rfl, s_next T ob8 ⟨r, l, ns, q, next, rfl, rd8, fun no e H9 sx9 => ?_, fun n q' ms z3 e hn hin so ln H9 np nln hln nem nsm nnd nfr rd9 sx9 => ?_⟩⟩
    · refine kf ?_ e H9 (same_x nr sh8 sx9)
      cases q with
      | nil => exact in_tail_short a1 b1 (by show 1 < 2; decide)
      | cons n q' =>
        by_cases hn : n ≤ 64
        · refine in_notes_bad a1 b1 fun ws z3 hin => ?_
          have nk := no n q' ws z3 rfl hn hin
          cases h1 : ws.all Note.fine with
          | false => exact .inl rfl
          | true =>
            right; right
            cases h2 : idsFine ⟨vp.map (·.2), lp.map (·.2), next, ws⟩ with
            | false => rfl
            | true =>
              have := ids_ok.mp h2
              exact absurd ⟨all_nok.mp h1, this.1, this.2⟩ nk
        · exact in_many a1 b1 (by omega)
    subst e
    obtain ⟨dr8, br8, hr8⟩ := rd8.r
    have sh9 := same_x nr sh8 sx9
    have ob9 := sx9 _ _ ra.symm ob8
    have hv9 := sx9 _ _ rv.symm hv8
    have hl9 := sx9 _ _ rl.symm hl8
    have vs9 : ∀ p ∈ vp, VOk p.2 ∧ VoiceAt A H9 p.1 p.2 := fun p hp => ⟨(vs8 p hp).1, (vs8 p hp).2.x sx9 hr8 (by show 2 ≠ 5; decide)⟩
    have ls9 : ∀ p ∈ lp, LOk p.2 ∧ LineAt H9 p.1 p.2 ∧ p.1 ≠ ll ∧ p.1 ≠ lv ∧ p.1 ≠ ln := fun p hp => ⟨(ls8 p hp).1, (ls8 p hp).2.1.x sx9 hr8, (ls8 p hp).2.2.1, (ls8 p hp).2.2.2, fun z => by obtain ⟨qs, e, _⟩ := (ls8 p hp).2.1; rw [z, nln] at e; cases e⟩
    have an : a ≠ ln := ne_of_none ob8 nln
    have vn : lv ≠ ln := ne_of_none hv8 nln
    have lln : ll ≠ ln := ne_of_none hl8 nln
    refine ⟨_, rfl, a, _, dx, _, rfl, ob9, T.Score.cl, no "notes" (by decide), (by show 4 < 1000; decide), ?_⟩
    rw [show putF ("notes" : Str) (V.ref ln) (scoreF lv ll ln0 next) = scoreF lv ll ln next from rfl]
    have sh10 : Same H (upd H9 a (.ins A.c_Score dx (scoreF lv ll ln next))) := same_x na0 sh9 updX
    have ob10 : (upd H9 a (.ins A.c_Score dx (scoreF lv ll ln next))) a = some (.ins A.c_Score dx (scoreF lv ll ln next)) := upd_same
    have rd10 : Rd A (upd H9 a (.ins A.c_Score dx (scoreF lv ll ln next))) r l ns z3 := rd9.put ra la
    have hv10 : (upd H9 a (.ins A.c_Score dx (scoreF lv ll ln next))) lv = some (.lst (vp.map fun p => .ref p.1)) := by rw [upd_ne av.symm]; exact hv9
    have hl10 : (upd H9 a (.ins A.c_Score dx (scoreF lv ll ln next))) ll = some (.lst (lp.map fun p => .ref p.1)) := by rw [upd_ne al.symm]; exact hl9
    have hn10 : (upd H9 a (.ins A.c_Score dx (scoreF lv ll ln next))) ln = some (.lst (np.map fun p => .ref p.1)) := by rw [upd_ne an.symm]; exact hln
    have vs10 : ∀ p ∈ vp, VoiceAt A (upd H9 a (.ins A.c_Score dx (scoreF lv ll ln next))) p.1 p.2 := fun p hp => (vs9 p hp).2.x updX ob9 (by show 4 ≠ 5; decide)
    have ls10 : ∀ p ∈ lp, LineAt (upd H9 a (.ins A.c_Score dx (scoreF lv ll ln next))) p.1 p.2 := fun p hp => (ls9 p hp).2.1.x updX ob9
    have ns10 : ∀ p ∈ np, NoteAt A (upd H9 a (.ins A.c_Score dx (scoreF lv ll ln next))) p.1 p.2 := fun p hp => (nsm p hp).x updX ob9 (by show 4 ≠ 6; decide)

    generalize upd H9 a (.ins A.c_Score dx (scoreF lv ll ln next)) = H10 at sh10 ob10 rd10 hv10 hl10 hn10 vs10 ls10 ns10 ⊢
    obtain ⟨drx, bx, hrx, hlx, hbx, hzx⟩ := rd10
    refine ⟨_, rfl, r_begin T hrx ⟨_, rfl, l, _, rfl, .inl (SqL.of hlx), _, _, rfl, rfl, tst (fun c => iteT fun e => ?_) fun c => iteF ?_⟩⟩
    · rw [List.length_map] at c
      refine kf (in_notes_bad a1 b1 fun ws z4 hin2 => ?_) e H10 sh10
      rw [hin] at hin2
      cases hin2
      right; left
      intro z
      rw [z] at hzx
      have := congrArg List.length hzx
      rw [List.length_drop, List.length_nil] at this
      omega
    · rw [List.length_map] at c
      have z0 : z3 = [] := by rw [← hzx]; exact List.drop_eq_nil_of_le (by omega)
      subst z0
      have vok : ∀ v ∈ vp.map (·.2), VOk v := fun v hv => by obtain ⟨p, hp, rfl⟩ := List.mem_map.mp hv; exact (vs9 p hp).1
      have lok : ∀ v ∈ lp.map (·.2), LOk v := fun v hv => by obtain ⟨p, hp, rfl⟩ := List.mem_map.mp hv; exact (ls9 p hp).1
      have nl : ms.length = n := notesIn_len hin
      have sok : SOk ⟨vp.map (·.2), lp.map (·.2), next, ms⟩ := ⟨by rw [List.length_map, a7], vok, by rw [List.length_map, b7], lok, hn1, hn2, by show ms.length ≤ 64; omega, so.ok, so.nd, so.ids⟩
      refine ⟨_, rfl, k _ (in_good a1 b1 hn hin ((sok_iff _).mpr sok)) sok a H10 _ ⟨dx, lv, ll, ln, vp, lp, np, ⟨ob10, hv10, vs10, rfl, hl10, ls10, rfl, hn10, ns10, nem, vl, vn, lln, fun p hp => ⟨(ls9 p hp).2.2.2.1, (ls9 p hp).2.2.1, (ls9 p hp).2.2.2.2⟩, nnd⟩, rfl⟩ ?_ sh10⟩
      intro b hb
      rcases List.mem_cons.mp hb with q | hb
      · rw [q]; exact na0
      rcases List.mem_cons.mp hb with q | hb
      · rw [q]; exact sh2.free hlv
      rcases List.mem_cons.mp hb with q | hb
      · rw [q]; exact sh4.free hll
      rcases List.mem_cons.mp hb with q | hb
      · rw [q]; exact sh8.free nln
      rcases List.mem_append.mp hb with hb | hb
      · obtain ⟨p, hp, rfl⟩ := List.mem_map.mp hb
        exact lfr p hp
      · obtain ⟨p, hp, rfl⟩ := List.mem_map.mp hb
        exact sh8.free (nfr p hp)
end
end Sb
end
section
set_option Elab.async false
set_option linter.all false
set_option maxRecDepth 100000
set_option maxHeartbeats 4000000
namespace Sb
open PySem PySem.Spec PyProof.Rows L2 ScoreNs Mu
open ScoreNeutral (shown)
theorem call0 {ns x} (h : callAt 0 ns = some x) : ∃ v w a b c d, ns = [v, w, a, b, c, d] ∧ x = .voice v w a b c d := by
  unfold callAt at h; split at h <;> first | (cases h; exact ⟨_, _, _, _, _, _, rfl, rfl⟩) | (simp_all; done)
theorem call1 {ns x} (h : callAt 1 ns = some x) : ∃ v l, ns = v :: l.length :: l ∧ x = .line v l := by
  unfold callAt at h; split at h <;> simp_all
  exact ⟨_, _, ⟨rfl, rfl, rfl⟩, h.2.symm⟩
theorem call2 {ns x} (h : callAt 2 ns = some x) : ∃ v a n s l, ns = [v, a, n, s, l] ∧ x = .note v a n s l := by
  unfold callAt at h; split at h <;> first | (cases h; exact ⟨_, _, _, _, _, rfl, rfl⟩) | (simp_all; done)
theorem call3 {ns x} (h : callAt 3 ns = some x) : ∃ i, ns = [i] ∧ x = .drop i := by
  unfold callAt at h; split at h <;> first | (cases h; exact ⟨_, rfl, rfl⟩) | (simp_all; done)
theorem call4 {ns x} (h : callAt 4 ns = some x) : ∃ i a, ns = [i, a] ∧ x = .move i a := by
  unfold callAt at h; split at h <;> first | (cases h; exact ⟨_, _, rfl, rfl⟩) | (simp_all; done)
theorem call5 {ns x} (h : callAt 5 ns = some x) : ∃ f n, ns = [f, n] ∧ x = .render f n := by
  unfold callAt at h; split at h <;> first | (cases h; exact ⟨_, _, rfl, rfl⟩) | (simp_all; done)
theorem call6 {ns x} (h : callAt 6 ns = some x) : ∃ f n, ns = [f, n] ∧ x = .raw f n := by
  unfold callAt at h; split at h <;> first | (cases h; exact ⟨_, _, rfl, rfl⟩) | (simp_all; done)
theorem call7 {ns x} (h : callAt 7 ns = some x) : ∃ t, ns = [t] ∧ x = .sounds t := by
  unfold callAt at h; split at h <;> first | (cases h; exact ⟨_, rfl, rfl⟩) | (simp_all; done)
theorem call8 {ns x} (h : callAt 8 ns = some x) : ∃ t, ns = [t] ∧ x = .next t := by
  unfold callAt at h; split at h <;> first | (cases h; exact ⟨_, rfl, rfl⟩) | (simp_all; done)
theorem call9 {ns x} (h : callAt 9 ns = some x) : ∃ v n k, ns = [v, n, k] ∧ x = .loud v n k := by
  unfold callAt at h; split at h <;> first | (cases h; exact ⟨_, _, _, rfl, rfl⟩) | (simp_all; done)
theorem call10 {ns x} (h : callAt 10 ns = some x) : ∃ v t, ns = [v, t] ∧ x = .lineAt v t := by
  unfold callAt at h; split at h <;> first | (cases h; exact ⟨_, _, rfl, rfl⟩) | (simp_all; done)
theorem call11 {ns x} (h : callAt 11 ns = some x) : ∃ t, ns = [t] ∧ x = .seek t := by
  unfold callAt at h; split at h <;> first | (cases h; exact ⟨_, rfl, rfl⟩) | (simp_all; done)
theorem call12 {ns x} (h : callAt 12 ns = some x) : ∃ n, ns = [n] ∧ x = .play n := by
  unfold callAt at h; split at h <;> first | (cases h; exact ⟨_, rfl, rfl⟩) | (simp_all; done)
theorem call13 {ns x} (h : callAt 13 ns = some x) : ∃ f n, ns = [f, n] ∧ x = .peak f n := by
  unfold callAt at h; split at h <;> first | (cases h; exact ⟨_, _, rfl, rfl⟩) | (simp_all; done)
theorem call14 {ns x} (h : callAt 14 ns = some x) : ns = [] ∧ x = .notes := by
  unfold callAt at h; split at h <;> first | (cases h; exact ⟨rfl, rfl⟩) | (simp_all; done)
theorem call15 {ns x} (h : callAt 15 ns = some x) : ns = [] ∧ x = .save := by
  unfold callAt at h; split at h <;> first | (cases h; exact ⟨rfl, rfl⟩) | (simp_all; done)
theorem call16 {ns x} (h : callAt 16 ns = some x) : ∃ l, ns = l.length :: l ∧ x = .load l := by
  unfold callAt at h; split at h <;> simp_all
  exact ⟨_, ⟨rfl, rfl⟩, h.2.symm⟩
section
variable {P : Program} {w : World} {K : PySem.W.Frag} {mg : Str → Option Value} {base : Heap} {A : Adr}
def Ans (A : Adr) (H : Hp) (p : Addr) (st : State) (F : List Addr) (x : Call) (Q : VK) : Prop := ∀ H' l F', PlayerAt A H' p (step st x).1 F' → H' l = some (.lst ((shown (step st x).2).map .int)) → (∀ b o, H b = some o → b ∉ F → H' b = some o) → (∀ b ∈ F', b ∈ F ∨ H b = none) → H l = none → Q (.ref l) H'
def sp_ans (A : Adr) (c : Nat) : Sp := fun vs H Q _ => ∃ (p nl : Addr) (ns : List Nat) (st : State) (F : List Addr) (x : Call), vs = [.ref p, .ref nl] ∧ PlayerAt A H p st F ∧ StOk st ∧ H nl = some (.lst (nv ns)) ∧ callAt c ns = some x ∧ (∀ n ∈ ns, n < 2 ^ 64) ∧ ns.length ≤ 16000 ∧ Ans A H p st F x Q
theorem Ans.keep {H H' : Hp} {p l : Addr} {st : State} {F : List Addr} {x : Call} {Q : VK} {a : Answer} (k : Ans A H p st F x Q) (hp : PlayerAt A H p st F) (e : step st x = (st, a)) (s : Same H H') (hl : H' l = some (.lst ((shown a).map .int))) (nl : H l = none) : Q (.ref l) H' := by
  refine k H' l F ?_ ?_ (fun b o e _ => s b o e) (fun b hb => .inl hb) nl
  · rw [e]; exact hp.same s
  · rw [e]; exact hl
theorem Ans.ret {H H1 : Hp} {p : Addr} {st : State} {F : List Addr} {x : Call} {Q : VK} {z : Int} (k : Ans A H p st F x Q) (hp : PlayerAt A H p st F) (e : step st x = (st, says z)) (s : Same H H1) : [V.int z].length ≤ sizeLine ∧ ∀ l, H1 l = none → Q (.ref l) (upd H1 l (.lst [V.int z])) :=
  ⟨by show 1 ≤ sizeLine; decide, fun l hl => k.keep hp e (s.trans (Same.new hl)) upd_same (s.free hl)⟩
/-! ### lists with their sizes -/
def sp_with_lists (A : Adr) : Sp := fun vs H Q _ => ∃ (z : Int) (b : Addr) (ls : List (Addr × List Int)), vs = [.int z, .ref b] ∧ H b = some (.lst (ls.map fun p => .ref p.1)) ∧ (∀ p ∈ ls, H p.1 = some (.lst (p.2.map .int))) ∧ (shown ⟨z, ls.map (·.2)⟩).length ≤ 16000 ∧ ∀ D H', H D = none → Acc H H' D ((shown ⟨z, ls.map (·.2)⟩).map .int) → Q (.ref D) H'
theorem ok_with_lists (T : Txt K mg A) : FnOk P w K mg base CX0 1 A.f_with_lists A.d_with_lists ["number", "lists"] (sp_with_lists A) := by
  refine T.with_lists.fn.ok sc_with_lists (fun vs H Q E h => ?_) (fun cdv A' outer s H vs Q E hr h => ?_)
  · obtain ⟨a, s, np, rfl, _⟩ := h; rfl
  · obtain ⟨z, b, ls, rfl, hb, hls, hlen, k⟩ := h
    refine ⟨_, (pss_cons (ps_set (i := 2) sc_with_lists.nd rfl (Or.inl rfl) (pe_lst (pa_cons (pv 0) pa_nil)))
  (pss_cons (ps_for PassesOwn.never rfl (pi_list (pv 1)) (pg_name (i := 3) sc_with_lists.nd rfl (Or.inl rfl))
  (pss_cons (ps_expr (pe_bm PySem.F.plainAttrs_list PySem.F.slot_list_append PySem.F.type_list_append mt_append (pv 2) (pa_cons (pe_callB call_len_seq (by rfl) T.b_len PySem.boot_len (pa_cons (pv 3) pa_nil)) pa_nil)))
  (pss_one (ps_expr (pe_bm PySem.F.plainAttrs_list PySem.F.slot_list_extend PySem.F.type_list_extend mt_extend (pv 2) (pa_cons (pv 3) pa_nil))))))
  (pss_one (ps_ret (pv 2))))), ?_⟩
    refine ⟨_, rfl, by show 1 ≤ sizeLine; decide, fun m hm => ?_⟩
    let f : Addr × List Int → List Int := fun p => (p.2.length : Int) :: p.2
    have tot : (shown ⟨z, ls.map (·.2)⟩) = z :: ls.flatMap f := by
      show z :: (ls.map (·.2)).flatMap _ = _
      rw [List.flatMap_map]
    have bd : ∀ i x, ls[i]? = some x → 1 + ((ls.take i).flatMap f).length + 1 + x.2.length ≤ 16000 := fun i x hx => by
      have e : ls.flatMap f = (ls.take (i + 1)).flatMap f ++ (ls.drop (i + 1)).flatMap f := by rw [← List.flatMap_append, List.take_append_drop]
      rw [tot, List.length_cons, e, flat_snoc hx, List.length_append, List.length_append] at hlen
      have : (f x).length = x.2.length + 1 := rfl
      omega
    have s1 : Same H (upd H m (.lst [V.int z])) := Same.new hm
    refine ⟨_, rfl, b, rfl, ⟨_, SqL.of (s1 _ _ hb)⟩, for_list (K := K) (a := b) (xs := ls.map fun p => V.ref p.1) (fun i σ H' => ∃ v : Option V, σ = [some (.int z), some (.ref b), some (.ref m), v] ∧ Acc H H' m ((z :: (ls.take i).flatMap f).map .int))
      ⟨none, rfl, s1, by rw [upd_same]; rfl⟩ (fun i σ H' _ ⟨_, _, q⟩ => SqL.of (q.same _ _ hb)) ?_ ?_⟩
    · rintro i y σ H' hi ⟨v, rfl, q⟩
      obtain ⟨p, hp, rfl⟩ := of_map hi
      have hp1 := hls p (List.mem_of_getElem? hp)
      have bi := bd i p hp
      refine ⟨_, rfl, .inl ⟨rfl, _, SqL.of q.at_⟩, _, rfl, p.1, _, rfl, .inl (SqL.of (q.same _ _ hp1)), m, _, _, rfl, rfl, q.at_, ?_, ?_⟩
      · rw [List.length_map, List.length_cons]; exact line16 (by omega)
      have q2 : Acc H (upd H' m (.lst (((z :: (ls.take i).flatMap f).map .int) ++ [V.int (p.2.map V.int).length]))) m (((z :: (ls.take i).flatMap f).map .int) ++ [V.int (p.2.map V.int).length]) := q.put hm (Same.refl _)
      refine ⟨_, rfl, .inl ⟨rfl, _, SqL.of q2.at_⟩, _, rfl, m, p.1, _, _, rfl, rfl, q2.at_, q2.same _ _ hp1, ?_, _, rfl, ?_⟩
      · rw [List.length_append, List.length_map, List.length_cons, List.length_map]
        exact Nat.le_of_lt (line16 (by show _ + 1 + 1 + _ ≤ 16000; omega))
      · refine (q2.put hm (Same.refl _)).eq ?_
        rw [flat_snoc hp, ← List.cons_append, List.map_append, List.append_assoc, List.length_map]
        rfl
    · rintro σ H' ⟨v, rfl, q⟩
      refine ⟨_, rfl, k m H' hm (q.eq ?_)⟩
      rw [List.length_map, List.take_length, tot]
def sp_part_fits : Sp := fun vs H Q _ => ∃ f n : Nat, vs = [iv f, iv n] ∧ Q (.bl (isPart f n)) H
theorem ok_part_fits (T : Txt K mg A) : FnOk P w K mg base CX0 1 A.f_part_fits A.d_part_fits ["first", "n"] sp_part_fits := by
  refine T.part_fits.fn.ok sc_part_fits (fun vs H Q E h => ?_) (fun cdv A' outer s H vs Q E hr h => ?_)
  · obtain ⟨a, s, rfl, _⟩ := h; rfl
  · obtain ⟨f, n, rfl, k⟩ := h
    refine ⟨_, (pss_one (ps_ret (pe_and (pe_cmpR op_le (pv 1) (pe_gi rfl T.c_LONGEST_PART) (nomark _)) (pe_one (pe_cmpR op_le (pe_op op_add (pv 0) (pv 1)) (pe_gi rfl T.c_TIME_END) (nomark _)))))), ?_⟩
    have e : isPart f n = (decide (n ≤ 256) && decide (f + n ≤ 1099511627776)) := rfl
    rw [e] at k
    refine ⟨_, rfl, _, _, rfl, rfl, tst (fun c => iteT ?_) fun c => iteF ?_⟩
    · rw [decide_eq_true (show n ≤ 256 by omega), Bool.true_and] at k
      refine ⟨_, rfl, _, rfl, _, _, rfl, rfl, _, _, rfl, rfl, ?_⟩
      have z := dle (f + n) 1099511627776
      rw [← z] at k
      exact k
    · rw [decide_eq_false (show ¬ n ≤ 256 by omega), Bool.false_and] at k
      exact k
def sp_Player (A : Adr) : Sp := fun vs H Q _ => ∃ x dx : Addr, vs = [.ref x] ∧ H x = some (.ins A.c_Player dx []) ∧ ∀ H' F, PlayerAt A H' x ScoreNs.start F → (∀ b ∈ F, b = x ∨ H b = none) → (∀ b o, b ≠ x → H b = some o → H' b = some o) → Q .non H'
theorem ok_Player (T : Txt K mg A) : FnOk P w K mg base CX0 5 A.f_Player A.d_Player ["self"] (sp_Player A) := by
  refine T.Player.fn.ok sc_Player (fun vs H Q E h => ?_) (fun cdv A' outer s H vs Q E hr h => ?_)
  · obtain ⟨x, dx, rfl, _⟩ := h; rfl
  · obtain ⟨x, dx, rfl, h1, k⟩ := h
    refine ⟨_, (pss_cons (ps_fld (pv 0) (pmake0 T.Score (ok_Score T) (hr.mono (by decide)) pass0) rfl)
  (pss_one (ps_fld (pv 0) pe_int rfl))), ?_⟩
    have no := T.Player.no
    refine fun a da na nda nea => ⟨a, da, rfl, upd_same, fun H2 F sc fr keep => ⟨rfl, ?_⟩⟩
    have s2 : Same H H2 := same_made' na nda keep
    have h2 := s2 _ _ h1
    refine ⟨_, rfl, x, _, dx, _, rfl, h2, T.Player.cl, no "score" (by decide), by decide, ?_⟩
    refine ⟨_, rfl, x, _, dx, _, rfl, upd_same, T.Player.cl, no "place" (by decide), by show 1 < 1000; decide, ?_⟩
    obtain ⟨dxs, lv, ll, ln, vp, lp, np, z, rfl⟩ := sc
    have xa : a ≠ x := fun e => by rw [e, h1] at na; cases na
    have kp : ∀ b o, b ≠ x → H2 b = some o → upd (upd H2 x (.ins A.c_Player dx (putF "score" (.ref a) []))) x (.ins A.c_Player dx (putF "place" (.int 0) (putF "score" (.ref a) []))) b = some o := fun b o n e => by rw [upd_ne n, upd_ne n]; exact e
    have nf : ∀ b o, H2 b = some o → o ≠ .ins A.c_Player dx [] → b ≠ x := fun b o e n q => n (by rw [q, h2] at e; exact (Option.some.inj e).symm)
    refine k _ (x :: a :: lv :: ll :: ln :: (lp.map (·.1) ++ np.map (·.1))) ⟨dx, a, _, by rw [upd_same]; rfl, ⟨dxs, lv, ll, ln, vp, lp, np, ⟨kp _ _ xa z.ob, kp _ _ (nf _ _ z.hv (by intro q; cases q)) z.hv, ?_, z.ve, kp _ _ (nf _ _ z.hl (by intro q; cases q)) z.hl, ?_, z.le, kp _ _ (nf _ _ z.hn (by intro q; cases q)) z.hn, ?_, z.ne, z.d1, z.d2, z.d3, z.d4, z.nd⟩, rfl⟩, rfl⟩ ?_ ?_
    · intro p hp
      obtain ⟨d, e⟩ := z.vs p hp
      exact ⟨d, kp _ _ (ne_len e h2 (by show 5 ≠ 0; decide)) e⟩
    · intro p hp
      obtain ⟨qs, e1, e2, e3⟩ := z.ls p hp
      exact ⟨qs, kp _ _ (nf _ _ e1 (by intro q; cases q)) e1, fun q hq => kp _ _ (nf _ _ (e2 q hq) (by intro q; cases q)) (e2 q hq), e3⟩
    · intro p hp
      obtain ⟨d, e⟩ := z.ns p hp
      exact ⟨d, kp _ _ (ne_len e h2 (by show 6 ≠ 0; decide)) e⟩
    · intro b hb
      rcases List.mem_cons.mp hb with q | hb
      · exact .inl q
      · rcases fr b hb with q | q
        · rw [q]; exact .inr na
        · right
          cases e : H b with
          | none => rfl
          | some o =>
            have ba : b ≠ a := ne_of_none e na
            rw [upd_ne ba] at q
            by_cases bd : b = da
            · rw [bd, upd_same] at q; cases q
            · rw [upd_ne bd, e] at q; cases q
    · intro b o hb e
      exact kp _ _ hb (s2 _ _ e)
end
end Sb
end
section
set_option Elab.async false
set_option linter.all false
set_option maxRecDepth 100000
set_option maxHeartbeats 4000000
namespace Sb
open PySem PySem.Spec PyProof.Rows L2 ScoreNs Mu
open ScoreNeutral (shown)
theorem nv_ints (l : List Nat) : nv l = (ScoreNs.ints l).map V.int := nv_int l
section
variable {P : Program} {w : World} {K : PySem.W.Frag} {mg : Str → Option Value} {base : Heap} {A : Adr}
theorem ok_answer_render (T : Txt K mg A) : FnOk P w K mg base CX0 7 A.f_answer_render A.d_answer_render ["player", "numbers"] (sp_ans A 5) := by
  refine T.answer_render.fn.ok sc_answer_render (fun vs H Q E h => ?_) (fun cdv A' outer s H vs Q E hr h => ?_)
  · obtain ⟨p, nl, ns, st, F, x, rfl, _⟩ := h; rfl
  · obtain ⟨p, nl, ns, st, F, x, rfl, hp, so, hn, hc, hb, hlen, k⟩ := h
    obtain ⟨f, n, rfl, rfl⟩ := call5 hc
    have sl := step_len so (.render f n)
    obtain ⟨dx, a, G, h1, ⟨dxs, lv, ll, ln, vp, lp, np, z, rfl⟩, rfl⟩ := id hp
    have hx : ScX A H a st.score np := ⟨dxs, lv, ll, ln, vp, lp, z⟩
    have ok := so.sc
    refine ⟨_, (pss_cons (ps_if (pt_not (pt_val (pcall T.part_fits (ok_part_fits T) (hr.mono (by decide)) pass0 (pa_cons (pe_ix ix_list (pv 1) pe_int (fun _ _ => rfl)) (pa_cons (pe_ix ix_list (pv 1) pe_int (fun _ _ => rfl)) pa_nil)))))
  (pss_one (ps_ret (pe_lst (pa_cons (pe_gi rfl T.c_NOT_AS_TOLD) pa_nil))))
  pss_nil)
  (pss_one (ps_ret (pcall T.with_lists (ok_with_lists T) (hr.mono (by decide)) pass0 (pa_cons (pe_ix ix_list (pv 1) pe_int (fun _ _ => rfl)) (pa_cons (pe_lst (pa_cons (pcall T.samples (ok_samples T) (hr.mono (by decide)) pass0 (pa_cons (pe_fld (pv 0) rfl) (pa_cons (pe_ix ix_list (pv 1) pe_int (fun _ _ => rfl)) (pa_cons (pe_ix ix_list (pv 1) pe_int (fun _ _ => rfl)) pa_nil)))) pa_nil)) pa_nil)))))), ?_⟩
    refine ⟨_, rfl, nl, _, _, _, rfl, rfl, SqL.of hn, at_of (j := 0) rfl rfl, _, rfl, nl, _, _, _, rfl, rfl, SqL.of hn, at_of (j := 1) rfl rfl, f, n, rfl, _, rfl, ?_⟩
    cases pf : isPart f n with
    | false =>
      refine iteT (k.ret hp ?_ (Same.refl H))
      show (st, if isPart f n = false then _ else _) = _
      rw [if_pos pf]
    | true =>
      have e : step st (.render f n) = (st, ⟨(n : Int), [(st.score.render f n)]⟩) := by
        show (st, if isPart f n = false then _ else _) = _
        rw [if_neg (by rw [pf]; decide)]
      have pl := part_le (f := f) (n := n) (by rw [pf]; decide)
      rw [e] at sl
      refine iteF ⟨_, rfl, nl, _, _, _, rfl, rfl, SqL.of hn, at_of (j := 1) rfl rfl, _, rfl, p_score T h1 ⟨_, rfl, nl, _, _, _, rfl, rfl, SqL.of hn, at_of (j := 0) rfl rfl, _, rfl, nl, _, _, _, rfl, rfl, SqL.of hn, at_of (j := 1) rfl rfl, a, st.score, np, f, n, rfl, hx, ok, pl.1, by omega, fun D H1 hD q => ⟨by show 1 ≤ sizeLine; decide, fun l hl => ?_⟩⟩⟩
      refine ⟨(n : Int), l, [(D, (st.score.render f n))], rfl, upd_same, ?_, Nat.le_trans sl (by decide), fun E H2 hE q2 => k.keep hp e ((q.same.trans (Same.new hl)).trans q2.same) q2.at_ ((q.same.trans (Same.new hl)).free hE)⟩
      intro r hr
      rw [List.mem_singleton.mp hr]
      exact (Same.new hl) _ _ q.at_
theorem ok_answer_raw (T : Txt K mg A) : FnOk P w K mg base CX0 6 A.f_answer_raw A.d_answer_raw ["player", "numbers"] (sp_ans A 6) := by
  refine T.answer_raw.fn.ok sc_answer_raw (fun vs H Q E h => ?_) (fun cdv A' outer s H vs Q E hr h => ?_)
  · obtain ⟨p, nl, ns, st, F, x, rfl, _⟩ := h; rfl
  · obtain ⟨p, nl, ns, st, F, x, rfl, hp, so, hn, hc, hb, hlen, k⟩ := h
    obtain ⟨f, n, rfl, rfl⟩ := call6 hc
    have sl := step_len so (.raw f n)
    obtain ⟨dx, a, G, h1, ⟨dxs, lv, ll, ln, vp, lp, np, z, rfl⟩, rfl⟩ := id hp
    have hx : ScX A H a st.score np := ⟨dxs, lv, ll, ln, vp, lp, z⟩
    have ok := so.sc
    refine ⟨_, (pss_cons (ps_if (pt_not (pt_val (pcall T.part_fits (ok_part_fits T) (hr.mono (by decide)) pass0 (pa_cons (pe_ix ix_list (pv 1) pe_int (fun _ _ => rfl)) (pa_cons (pe_ix ix_list (pv 1) pe_int (fun _ _ => rfl)) pa_nil)))))
  (pss_one (ps_ret (pe_lst (pa_cons (pe_gi rfl T.c_NOT_AS_TOLD) pa_nil))))
  pss_nil)
  (pss_one (ps_ret (pcall T.with_lists (ok_with_lists T) (hr.mono (by decide)) pass0 (pa_cons (pe_ix ix_list (pv 1) pe_int (fun _ _ => rfl)) (pa_cons (pe_lst (pa_cons (pcall T.sums (ok_sums T) (hr.mono (by decide)) pass0 (pa_cons (pe_fld (pv 0) rfl) (pa_cons (pe_ix ix_list (pv 1) pe_int (fun _ _ => rfl)) (pa_cons (pe_ix ix_list (pv 1) pe_int (fun _ _ => rfl)) pa_nil)))) pa_nil)) pa_nil)))))), ?_⟩
    refine ⟨_, rfl, nl, _, _, _, rfl, rfl, SqL.of hn, at_of (j := 0) rfl rfl, _, rfl, nl, _, _, _, rfl, rfl, SqL.of hn, at_of (j := 1) rfl rfl, f, n, rfl, _, rfl, ?_⟩
    cases pf : isPart f n with
    | false =>
      refine iteT (k.ret hp ?_ (Same.refl H))
      show (st, if isPart f n = false then _ else _) = _
      rw [if_pos pf]
    | true =>
      have e : step st (.raw f n) = (st, ⟨(n : Int), [((List.range n).map fun i => st.score.sum (f + i))]⟩) := by
        show (st, if isPart f n = false then _ else _) = _
        rw [if_neg (by rw [pf]; decide)]
      have pl := part_le (f := f) (n := n) (by rw [pf]; decide)
      rw [e] at sl
      refine iteF ⟨_, rfl, nl, _, _, _, rfl, rfl, SqL.of hn, at_of (j := 1) rfl rfl, _, rfl, p_score T h1 ⟨_, rfl, nl, _, _, _, rfl, rfl, SqL.of hn, at_of (j := 0) rfl rfl, _, rfl, nl, _, _, _, rfl, rfl, SqL.of hn, at_of (j := 1) rfl rfl, a, st.score, np, f, n, rfl, hx, ok, pl.1, by omega, fun D H1 hD q => ⟨by show 1 ≤ sizeLine; decide, fun l hl => ?_⟩⟩⟩
      refine ⟨(n : Int), l, [(D, ((List.range n).map fun i => st.score.sum (f + i)))], rfl, upd_same, ?_, Nat.le_trans sl (by decide), fun E H2 hE q2 => k.keep hp e ((q.same.trans (Same.new hl)).trans q2.same) q2.at_ ((q.same.trans (Same.new hl)).free hE)⟩
      intro r hr
      rw [List.mem_singleton.mp hr]
      exact (Same.new hl) _ _ q.at_
theorem ok_answer_sounds (T : Txt K mg A) : FnOk P w K mg base CX0 4 A.f_answer_sounds A.d_answer_sounds ["player", "numbers"] (sp_ans A 7) := by
  refine T.answer_sounds.fn.ok sc_answer_sounds (fun vs H Q E h => ?_) (fun cdv A' outer s H vs Q E hr h => ?_)
  · obtain ⟨p, nl, ns, st, F, x, rfl, _⟩ := h; rfl
  · obtain ⟨p, nl, ns, st, F, x, rfl, hp, so, hn, hc, hb, hlen, k⟩ := h
    obtain ⟨t, rfl, rfl⟩ := call7 hc
    have sl := step_len so (.sounds t)
    obtain ⟨dx, a, G, h1, ⟨dxs, lv, ll, ln, vp, lp, np, z, rfl⟩, rfl⟩ := id hp
    have hx : ScX A H a st.score np := ⟨dxs, lv, ll, ln, vp, lp, z⟩
    have ok := so.sc
    refine ⟨_, (pss_cons (ps_if (pt_cmpR op_ge (pe_ix ix_list (pv 1) pe_int (fun _ _ => rfl)) (pe_gi rfl T.c_TIME_END) (nomark _))
  (pss_one (ps_ret (pe_lst (pa_cons (pe_gi rfl T.c_NOT_AS_TOLD) pa_nil))))
  pss_nil)
  (pss_cons (ps_set (i := 2) sc_answer_sounds.nd rfl (Or.inl rfl) (pcall T.sounding (ok_sounding T) (hr.mono (by decide)) pass0 (pa_cons (pe_fld (pv 0) rfl) (pa_cons (pe_ix ix_list (pv 1) pe_int (fun _ _ => rfl)) pa_nil))))
  (pss_one (ps_ret (pcall T.with_lists (ok_with_lists T) (hr.mono (by decide)) pass0 (pa_cons (pe_callB call_len_seq (by rfl) T.b_len PySem.boot_len (pa_cons (pv 2) pa_nil)) (pa_cons (pe_lst (pa_cons (pv 2) pa_nil)) pa_nil))))))), ?_⟩
    refine ⟨_, rfl, nl, _, _, _, rfl, rfl, SqL.of hn, at_of (j := 0) rfl rfl, _, _, rfl, rfl, tst (fun c => iteT (k.ret hp ?_ (Same.refl H))) fun c => iteF ?_⟩
    · show (st, if TIME ≤ t then _ else _) = _
      rw [if_pos (show TIME ≤ t by unfold TIME; omega)]
    · have e : step st (.sounds t) = (st, ⟨((st.score.at_ t).length : Int), [ScoreNs.ints (st.score.at_ t)]⟩) := by
        show (st, if TIME ≤ t then _ else _) = _
        rw [if_neg (show ¬ TIME ≤ t by unfold TIME; omega)]
      rw [e] at sl
      refine ⟨_, rfl, p_score T h1 ⟨_, rfl, nl, _, _, _, rfl, rfl, SqL.of hn, at_of (j := 0) rfl rfl, a, st.score, np, t, rfl, hx, ok, fun D H1 hD q => ?_⟩⟩
      refine ⟨_, rfl, D, _, rfl, .inl (SqL.of q.at_), _, rfl, by show 1 ≤ sizeLine; decide, fun l hl => ?_⟩
      rw [List.length_map]
      refine ⟨((st.score.at_ t).length : Int), l, [(D, ScoreNs.ints (st.score.at_ t))], rfl, upd_same, ?_, Nat.le_trans sl (by decide), fun E H2 hE q2 => k.keep hp e ((q.same.trans (Same.new hl)).trans q2.same) q2.at_ ((q.same.trans (Same.new hl)).free hE)⟩
      intro r hr
      rw [List.mem_singleton.mp hr, ← nv_ints]
      exact (Same.new hl) _ _ q.at_
theorem ok_answer_next (T : Txt K mg A) : FnOk P w K mg base CX0 3 A.f_answer_next A.d_answer_next ["player", "numbers"] (sp_ans A 8) := by
  refine T.answer_next.fn.ok sc_answer_next (fun vs H Q E h => ?_) (fun cdv A' outer s H vs Q E hr h => ?_)
  · obtain ⟨p, nl, ns, st, F, x, rfl, _⟩ := h; rfl
  · obtain ⟨p, nl, ns, st, F, x, rfl, hp, so, hn, hc, hb, hlen, k⟩ := h
    obtain ⟨t, rfl, rfl⟩ := call8 hc
    have sl := step_len so (.next t)
    obtain ⟨dx, a, G, h1, ⟨dxs, lv, ll, ln, vp, lp, np, z, rfl⟩, rfl⟩ := id hp
    have hx : ScX A H a st.score np := ⟨dxs, lv, ll, ln, vp, lp, z⟩
    have ok := so.sc
    refine ⟨_, (pss_cons (ps_if (pt_cmpR op_ge (pe_ix ix_list (pv 1) pe_int (fun _ _ => rfl)) (pe_gi rfl T.c_TIME_END) (nomark _))
  (pss_one (ps_ret (pe_lst (pa_cons (pe_gi rfl T.c_NOT_AS_TOLD) pa_nil))))
  pss_nil)
  (pss_cons (ps_set (i := 2) sc_answer_next.nd rfl (Or.inl rfl) (pcall T.next_change (ok_next_change T) (hr.mono (by decide)) pass0 (pa_cons (pe_fld (pv 0) rfl) (pa_cons (pe_ix ix_list (pv 1) pe_int (fun _ _ => rfl)) pa_nil))))
  (pss_cons (ps_if (pt_cmpR op_isN (pv 2) pe_non (nomark _))
  (pss_one (ps_ret (pe_lst (pa_cons (pe_gi rfl T.c_NONE_LATER) pa_nil))))
  pss_nil)
  (pss_one (ps_ret (pe_lst (pa_cons (pv 2) pa_nil))))))), ?_⟩
    refine ⟨_, rfl, nl, _, _, _, rfl, rfl, SqL.of hn, at_of (j := 0) rfl rfl, _, _, rfl, rfl, tst (fun c => iteT (k.ret hp ?_ (Same.refl H))) fun c => iteF ?_⟩
    · show (st, if TIME ≤ t then _ else _) = _
      rw [if_pos (show TIME ≤ t by unfold TIME; omega)]
    · have e : step st (.next t) = (st, match st.score.next_ t with | none => says (-5) | some u => says u) := by
        show (st, if TIME ≤ t then _ else _) = _
        rw [if_neg (show ¬ TIME ≤ t by unfold TIME; omega)]
        cases st.score.next_ t <;> rfl
      refine ⟨_, rfl, p_score T h1 ⟨_, rfl, nl, _, _, _, rfl, rfl, SqL.of hn, at_of (j := 0) rfl rfl, a, st.score, np, t, rfl, hx, ok, fun H1 s1 => ?_⟩⟩
      cases hnx : st.score.next_ t with
      | none =>
        rw [hnx] at e
        exact ⟨_, rfl, rfl, tst (fun c => iteT (k.ret hp e s1)) fun c => absurd rfl c⟩
      | some u =>
        rw [hnx] at e
        exact ⟨_, rfl, rfl, tst (fun c => by cases c) fun c => iteF ⟨_, rfl, k.ret hp e s1⟩⟩
def GL : List Nat := [7, 16777216, 33554432]
theorem ok_answer_loud (T : Txt K mg A) : FnOk P w K mg base CX0 3 A.f_answer_loud A.d_answer_loud ["player", "numbers"] (sp_ans A 9) := by
  refine T.answer_loud.fn.ok sc_answer_loud (fun vs H Q E h => ?_) (fun cdv A' outer s H vs Q E hr h => ?_)
  · obtain ⟨p, nl, ns, st, F, x, rfl, _⟩ := h; rfl
  · obtain ⟨p, nl, ns, st, F, x, rfl, hp, so, hn, hc, hb, hlen, k⟩ := h
    obtain ⟨v, n, m, rfl, rfl⟩ := call9 hc
    have sl := step_len so (.loud v n m)
    obtain ⟨dx, a, G, h1, ⟨dxs, lv, ll, ln, vp, lp, np, z, rfl⟩, rfl⟩ := id hp
    have hx : ScX A H a st.score np := ⟨dxs, lv, ll, ln, vp, lp, z⟩
    have ok := so.sc
    refine ⟨_, (pss_cons (ps_if (pt_not (pt_val (pcall T.none_above (ok_none_above T) (hr.mono (by decide)) pass0 (pa_cons (pv 1) (pa_cons (pe_gr rfl T.t_GREATEST_OF_LOUD) pa_nil)))))
  (pss_one (ps_ret (pe_lst (pa_cons (pe_gi rfl T.c_NOT_AS_TOLD) pa_nil))))
  pss_nil)
  (pss_one (ps_ret (pe_lst (pa_cons (pcall T.loudness (ok_loudness T) (hr.mono (by decide)) pass0 (pa_cons (pe_ix ix_list (pe_fld (pe_fld (pv 0) rfl) rfl) (pe_ix ix_list (pv 1) pe_int (fun _ _ => rfl)) (fun _ _ => rfl)) (pa_cons (pe_ix ix_list (pv 1) pe_int (fun _ _ => rfl)) (pa_cons (pe_ix ix_list (pv 1) pe_int (fun _ _ => rfl)) pa_nil)))) pa_nil))))), ?_⟩
    refine ⟨_, rfl, nl, _, [v, n, m], GL, rfl, SqL.of hn, T.q_GREATEST_OF_LOUD H, by decide, fun H1 s1 => ⟨_, rfl, ?_⟩⟩
    have gl : noneAbove [v, n, m] GL = true ↔ ¬ (VOICES ≤ v ∨ LENGTH < n ∨ 2 * LENGTH < m) := by
      unfold noneAbove GL VOICES LENGTH
      simp only [List.zipWith_cons_cons, List.zipWith_nil_left, List.all_cons, List.all_nil, id, Bool.and_eq_true, decide_eq_true_eq, and_true]
      omega
    have z1 := z.same s1
    have hn1 := s1 _ _ hn
    cases pf : noneAbove [v, n, m] GL with
    | false =>
      refine iteT (k.ret hp ?_ s1)
      show (st, if VOICES ≤ v ∨ LENGTH < n ∨ 2 * LENGTH < m then _ else _) = _
      rw [if_pos (Classical.byContradiction fun c => by rw [gl.mpr c] at pf; cases pf)]
    | true =>
      have c := gl.mp pf
      have e : step st (.loud v n m) = (st, says ((st.score.voice v).loud n m : Nat)) := by
        show (st, if VOICES ≤ v ∨ LENGTH < n ∨ 2 * LENGTH < m then _ else _) = _
        rw [if_neg c]
      have hv : v < 8 := by have : ¬ 8 ≤ v := fun q => c (.inl q); omega
      have e2 := ok.voice_at hv
      rw [← z.ve, List.getElem?_map] at e2
      cases q : vp[v]? with
      | none => rw [q] at e2; cases e2
      | some r =>
        rw [q] at e2
        have e2 : r.2 = st.score.voice v := Option.some.inj e2
        refine iteF ⟨_, rfl, p_score T (s1 _ _ h1) (s_voices T z1.ob ⟨_, rfl, nl, _, _, _, rfl, rfl, SqL.of hn1, at_of (j := 0) rfl rfl, lv, _, _, _, rfl, rfl, SqL.of z1.hv, atI_nat (v := .ref r.1) (by rw [List.getElem?_map, q]; rfl), _, rfl, nl, _, _, _, rfl, rfl, SqL.of hn1, at_of (j := 1) rfl rfl, _, rfl, nl, _, _, _, rfl, rfl, SqL.of hn1, at_of (j := 2) rfl rfl, r.1, st.score.voice v, n, m, rfl, ?_, ok.voice v, k.ret hp e s1⟩)⟩
        rw [← e2]
        exact z1.vs r (List.mem_of_getElem? q)
theorem ok_answer_line_at (T : Txt K mg A) : FnOk P w K mg base CX0 3 A.f_answer_line_at A.d_answer_line_at ["player", "numbers"] (sp_ans A 10) := by
  refine T.answer_line_at.fn.ok sc_answer_line_at (fun vs H Q E h => ?_) (fun cdv A' outer s H vs Q E hr h => ?_)
  · obtain ⟨p, nl, ns, st, F, x, rfl, _⟩ := h; rfl
  · obtain ⟨p, nl, ns, st, F, x, rfl, hp, so, hn, hc, hb, hlen, k⟩ := h
    obtain ⟨v, t, rfl, rfl⟩ := call10 hc
    have sl := step_len so (.lineAt v t)
    obtain ⟨dx, a, G, h1, ⟨dxs, lv, ll, ln, vp, lp, np, z, rfl⟩, rfl⟩ := id hp
    have hx : ScX A H a st.score np := ⟨dxs, lv, ll, ln, vp, lp, z⟩
    have ok := so.sc
    refine ⟨_, (pss_cons (ps_if (PW.pt (pw_or (pt_cmpR op_ge (pe_ix ix_list (pv 1) pe_int (fun _ _ => rfl)) (pe_gi rfl T.c_VOICE_COUNT) (nomark _)) (pw_or1 (pt_cmpR op_ge (pe_ix ix_list (pv 1) pe_int (fun _ _ => rfl)) (pe_gi rfl T.c_TIME_END) (nomark _)))))
  (pss_one (ps_ret (pe_lst (pa_cons (pe_gi rfl T.c_NOT_AS_TOLD) pa_nil))))
  pss_nil)
  (pss_one (ps_ret (pe_lst (pa_cons (pcall T.line_value (ok_line_value T) (hr.mono (by decide)) pass0 (pa_cons (pe_ix ix_list (pe_fld (pe_fld (pv 0) rfl) rfl) (pe_ix ix_list (pv 1) pe_int (fun _ _ => rfl)) (fun _ _ => rfl)) (pa_cons (pe_ix ix_list (pv 1) pe_int (fun _ _ => rfl)) pa_nil))) pa_nil))))), ?_⟩
    have bad : (VOICES ≤ v ∨ TIME ≤ t) → step st (.lineAt v t) = (st, says (-1)) := fun c => by
      show (st, if VOICES ≤ v ∨ TIME ≤ t then _ else _) = _
      rw [if_pos c]
    refine ⟨_, rfl, nl, _, _, _, rfl, rfl, SqL.of hn, at_of (j := 0) rfl rfl, _, _, rfl, rfl, tst (fun c => iteT (iteT (k.ret hp (bad (.inl (by unfold VOICES; omega))) (Same.refl H)))) fun c => iteF ⟨_, rfl, nl, _, _, _, rfl, rfl, SqL.of hn, at_of (j := 1) rfl rfl, _, _, rfl, rfl, tst (fun d => iteT (k.ret hp (bad (.inr (by unfold TIME; omega))) (Same.refl H))) fun d => iteF ?_⟩⟩
    have e : step st (.lineAt v t) = (st, says ((st.score.line v).at_ t : Nat)) := by
      show (st, if VOICES ≤ v ∨ TIME ≤ t then _ else _) = _
      rw [if_neg (by unfold VOICES TIME; omega)]
    have e2 := ok.line_at (v := v) (by omega)
    rw [← z.le, List.getElem?_map] at e2
    cases q : lp[v]? with
    | none => rw [q] at e2; cases e2
    | some r =>
      rw [q] at e2
      have e2 : r.2 = st.score.line v := Option.some.inj e2
      refine ⟨_, rfl, p_score T h1 (s_lines T z.ob ⟨_, rfl, nl, _, _, _, rfl, rfl, SqL.of hn, at_of (j := 0) rfl rfl, ll, _, _, _, rfl, rfl, SqL.of z.hl, atI_nat (v := .ref r.1) (by rw [List.getElem?_map, q]; rfl), _, rfl, nl, _, _, _, rfl, rfl, SqL.of hn, at_of (j := 1) rfl rfl, r.1, st.score.line v, t, rfl, ?_, ok.line v, k.ret hp e (Same.refl H)⟩)⟩
      rw [← e2]
      exact z.ls r (List.mem_of_getElem? q)
theorem ok_answer_peak (T : Txt K mg A) : FnOk P w K mg base CX0 8 A.f_answer_peak A.d_answer_peak ["player", "numbers"] (sp_ans A 13) := by
  refine T.answer_peak.fn.ok sc_answer_peak (fun vs H Q E h => ?_) (fun cdv A' outer s H vs Q E hr h => ?_)
  · obtain ⟨p, nl, ns, st, F, x, rfl, _⟩ := h; rfl
  · obtain ⟨p, nl, ns, st, F, x, rfl, hp, so, hn, hc, hb, hlen, k⟩ := h
    obtain ⟨f, n, rfl, rfl⟩ := call13 hc
    have sl := step_len so (.peak f n)
    obtain ⟨dx, a, G, h1, ⟨dxs, lv, ll, ln, vp, lp, np, z, rfl⟩, rfl⟩ := id hp
    have hx : ScX A H a st.score np := ⟨dxs, lv, ll, ln, vp, lp, z⟩
    have ok := so.sc
    refine ⟨_, (pss_cons (ps_if (pt_not (pt_val (pcall T.part_fits (ok_part_fits T) (hr.mono (by decide)) pass0 (pa_cons (pe_ix ix_list (pv 1) pe_int (fun _ _ => rfl)) (pa_cons (pe_ix ix_list (pv 1) pe_int (fun _ _ => rfl)) pa_nil)))))
  (pss_one (ps_ret (pe_lst (pa_cons (pe_gi rfl T.c_NOT_AS_TOLD) pa_nil))))
  pss_nil)
  (pss_cons (ps_set (i := 2) sc_answer_peak.nd rfl (Or.inl rfl) (pcall T.peak (ok_peak T) (hr.mono (by decide)) pass0 (pa_cons (pe_fld (pv 0) rfl) (pa_cons (pe_ix ix_list (pv 1) pe_int (fun _ _ => rfl)) (pa_cons (pe_ix ix_list (pv 1) pe_int (fun _ _ => rfl)) pa_nil)))))
  (pss_one (ps_ret (pcall T.with_lists (ok_with_lists T) (hr.mono (by decide)) pass0 (pa_cons (pe_ix ix_tup (pv 2) pe_int (fun _ _ => rfl)) (pa_cons (pe_lst (pa_cons (pe_lst (pa_cons (pe_ix ix_tup (pv 2) pe_int (fun _ _ => rfl)) pa_nil)) pa_nil)) pa_nil))))))), ?_⟩
    refine ⟨_, rfl, nl, _, _, _, rfl, rfl, SqL.of hn, at_of (j := 0) rfl rfl, _, rfl, nl, _, _, _, rfl, rfl, SqL.of hn, at_of (j := 1) rfl rfl, f, n, rfl, _, rfl, ?_⟩
    cases pf : isPart f n with
    | false =>
      refine iteT (k.ret hp ?_ (Same.refl H))
      show (st, if isPart f n = false then _ else _) = _
      rw [if_pos pf]
    | true =>
      have e : step st (.peak f n) = (st, ⟨((peakOf (st.score.render f n)).1 : Int), [ScoreNs.ints [f + (peakOf (st.score.render f n)).2]]⟩) := by
        show (st, if isPart f n = false then _ else _) = _
        rw [if_neg (by rw [pf]; decide)]
      have pl := part_le (f := f) (n := n) (by rw [pf]; decide)
      rw [e] at sl
      refine iteF ⟨_, rfl, p_score T h1 ⟨_, rfl, nl, _, _, _, rfl, rfl, SqL.of hn, at_of (j := 0) rfl rfl, _, rfl, nl, _, _, _, rfl, rfl, SqL.of hn, at_of (j := 1) rfl rfl, a, st.score, np, f, n, rfl, hx, ok, pl.1, by omega, fun D H1 s1 hD => ?_⟩⟩
      refine ⟨_, rfl, D, _, _, _, rfl, rfl, SqT.of hD, at_of (j := 0) rfl rfl, _, rfl, D, _, _, _, rfl, rfl, SqT.of hD, at_of (j := 1) rfl rfl, by show 1 ≤ sizeLine; decide, fun l1 hl1 => ⟨by show 1 ≤ sizeLine; decide, fun l hl => ?_⟩⟩
      have s2 : ∀ o, Same H (upd (upd H1 l1 (.lst [iv (f + (peakOf (st.score.render f n)).2)])) l o) := fun o => (s1.trans (Same.new hl1)).trans (Same.new hl)
      refine ⟨((peakOf (st.score.render f n)).1 : Int), l, [(l1, ScoreNs.ints [f + (peakOf (st.score.render f n)).2])], rfl, upd_same, ?_, Nat.le_trans sl (by decide), fun E H2 hE q2 => k.keep hp e ((s2 _).trans q2.same) q2.at_ ((s2 _).free hE)⟩
      intro r hr
      rw [List.mem_singleton.mp hr]
      exact (Same.new hl) _ _ upd_same
theorem ok_answer_notes (T : Txt K mg A) : FnOk P w K mg base CX0 2 A.f_answer_notes A.d_answer_notes ["player", "numbers"] (sp_ans A 14) := by
  refine T.answer_notes.fn.ok sc_answer_notes (fun vs H Q E h => ?_) (fun cdv A' outer s H vs Q E hr h => ?_)
  · obtain ⟨p, nl, ns, st, F, x, rfl, _⟩ := h; rfl
  · obtain ⟨p, nl, ns, st, F, x, rfl, hp, so, hn, hc, hb, hlen, k⟩ := h
    obtain ⟨rfl, rfl⟩ := call14 hc
    have sl := step_len so .notes
    obtain ⟨dx, a, G, h1, ⟨dxs, lv, ll, ln, vp, lp, np, z, rfl⟩, rfl⟩ := id hp
    have hx : ScX A H a st.score np := ⟨dxs, lv, ll, ln, vp, lp, z⟩
    have ok := so.sc
    refine ⟨_, (pss_cons (ps_setLc (i := 2) rfl sc_answer_notes.nd rfl rfl (sw_true rfl rfl rfl rfl) (pi_list (pe_fld (pe_fld (pv 0) rfl) rfl)) (own := [("note", 3)]) (blkOk_by (by show blkC ["player", "numbers", "found", "note"] (defScope s_answer_notes) _ _ = true; decide +kernel)) (fun _ _ _ _ _ => (pg_name (i := 3) sc_answer_notes.nd rfl (Or.inl rfl))) (fun _ _ _ _ _ => pts_nil) (fun _ _ _ _ _ => (pcall T.note_numbers (ok_note_numbers T) (hr.mono (by decide)) pass0 (pa_cons (pv 3) pa_nil))))
  (pss_one (ps_ret (pcall T.with_lists (ok_with_lists T) (hr.mono (by decide)) pass0 (pa_cons (pe_callB call_len_seq (by rfl) T.b_len PySem.boot_len (pa_cons (pv 2) pa_nil)) (pa_cons (pv 2) pa_nil)))))), ?_⟩
    have npl := hx.len ok
    have e : step st .notes = (st, ⟨(st.score.notes.length : Int), st.score.notes.map fun n => ScoreNs.ints n.row⟩) := rfl
    rw [e] at sl
    refine ⟨_, rfl, p_score T h1 (s_notes T z.ob ⟨ln, rfl, ⟨_, SqL.of z.hn⟩, fun D hD => ?_⟩)⟩
    refine lc_list (K := K) (a := ln) (xs := np.map fun p => V.ref p.1) (fun j H' => ∃ qp : List (Addr × List Int), Acc H H' D (qp.map fun p => .ref p.1) ∧ qp.map (·.2) = (np.take j).map (fun p => ScoreNs.ints p.2.row) ∧ ∀ p ∈ qp, H' p.1 = some (.lst (p.2.map V.int)) ∧ p.1 ≠ D) ⟨[], Acc.start hD, rfl, fun _ h => (nomatch h)⟩ (fun j H' _ ⟨_, q, _, _⟩ => SqL.of (q.same _ _ z.hn)) (fun j y H' hj ⟨qp, q, q2, q3⟩ => ?_) fun H1 ⟨qp, q, q2, q3⟩ => ?_
    · obtain ⟨r, hr', rfl⟩ := of_map hj
      have pm := List.mem_of_getElem? hr'
      refine ⟨rfl, yesI ⟨_, rfl, r.1, r.2, rfl, (z.ns r pm).same q.same, fun l hl => ⟨_, (Same.new hl) _ _ q.at_, ?_, qp ++ [(l, ScoreNs.ints r.2.row)], ?_, ?_, ?_⟩⟩⟩
      · have := congrArg List.length q2
        rw [List.length_map, List.length_map, List.length_take] at this
        rw [List.length_map]; exact line16 (by omega)
      · rw [List.map_append]; exact q.push hD (Same.new hl)
      · rw [List.map_append, q2, take_snoc hr', List.map_append]; rfl
      · have nd : l ≠ D := fun z => by rw [z, q.at_] at hl; cases hl
        intro p hp
        rcases List.mem_append.mp hp with z | z
        · obtain ⟨z1, z2⟩ := q3 p z
          exact ⟨by rw [upd_ne z2, upd_ne (ne_of_none z1 hl)]; exact z1, z2⟩
        · rw [List.mem_singleton.mp z]
          exact ⟨by rw [upd_ne nd, upd_same]; exact congrArg (fun q => some (HO.lst q)) (nv_ints _), nd⟩
    rw [List.length_map, List.take_length] at q2
    have en : st.score.notes.map (fun n => ScoreNs.ints n.row) = qp.map (·.2) := by rw [q2, ← z.ne, List.map_map]; rfl
    have el : st.score.notes.length = qp.length := by
      have := congrArg List.length q2
      rw [List.length_map, List.length_map] at this
      rw [← z.ne, List.length_map, this]
    rw [en, el] at e sl
    refine ⟨_, rfl, D, _, rfl, .inl (SqL.of q.at_), _, rfl, ?_⟩
    rw [List.length_map]
    exact ⟨(qp.length : Int), D, qp, rfl, q.at_, fun p hp => (q3 p hp).1, Nat.le_trans sl (by decide), fun E H2 hE q2 => k.keep hp e (q.same.trans q2.same) q2.at_ (q.same.free hE)⟩
theorem ok_answer_save (T : Txt K mg A) : FnOk P w K mg base CX0 3 A.f_answer_save A.d_answer_save ["player", "numbers"] (sp_ans A 15) := by
  refine T.answer_save.fn.ok sc_answer_save (fun vs H Q E h => ?_) (fun cdv A' outer s H vs Q E hr h => ?_)
  · obtain ⟨p, nl, ns, st, F, x, rfl, _⟩ := h; rfl
  · obtain ⟨p, nl, ns, st, F, x, rfl, hp, so, hn, hc, hb, hlen, k⟩ := h
    obtain ⟨rfl, rfl⟩ := call15 hc
    have sl := step_len so .save
    obtain ⟨dx, a, G, h1, ⟨dxs, lv, ll, ln, vp, lp, np, z, rfl⟩, rfl⟩ := id hp
    have hx : ScX A H a st.score np := ⟨dxs, lv, ll, ln, vp, lp, z⟩
    have ok := so.sc
    refine ⟨_, (pss_cons (ps_set (i := 2) sc_answer_save.nd rfl (Or.inl rfl) (pcall T.row_of (ok_row_of T) (hr.mono (by decide)) pass0 (pa_cons (pe_fld (pv 0) rfl) pa_nil)))
  (pss_one (ps_ret (pcall T.with_lists (ok_with_lists T) (hr.mono (by decide)) pass0 (pa_cons (pe_callB call_len_seq (by rfl) T.b_len PySem.boot_len (pa_cons (pv 2) pa_nil)) (pa_cons (pe_lst (pa_cons (pv 2) pa_nil)) pa_nil)))))), ?_⟩
    have e : step st .save = (st, ⟨(st.score.row.length : Int), [ScoreNs.ints st.score.row]⟩) := rfl
    rw [e] at sl
    refine ⟨_, rfl, p_score T h1 ⟨a, st.score, np, rfl, hx, ok, fun D H1 hD q => ?_⟩⟩
    refine ⟨_, rfl, D, _, rfl, .inl (SqL.of q.at_), _, rfl, by show 1 ≤ sizeLine; decide, fun l hl => ?_⟩
    rw [List.length_map]
    refine ⟨(st.score.row.length : Int), l, [(D, ScoreNs.ints st.score.row)], rfl, upd_same, ?_, Nat.le_trans sl (by decide), fun E H2 hE q2 => k.keep hp e ((q.same.trans (Same.new hl)).trans q2.same) q2.at_ ((q.same.trans (Same.new hl)).free hE)⟩
    intro r hr
    rw [List.mem_singleton.mp hr, ← nv_ints]
    exact (Same.new hl) _ _ q.at_
end
end Sb
end
section
set_option Elab.async false
set_option linter.all false
set_option maxRecDepth 100000
set_option maxHeartbeats 4000000
namespace Sb
open PySem PySem.Spec PyProof.Rows L2 ScoreNs Mu
open ScoreNeutral (shown)
theorem ixN_nat {n j : Nat} (h : j < n) : ixN n (j : Int) = some j := by
  unfold ixN
  rw [if_pos (by omega), if_pos (by omega)]
  rfl
theorem upd_free {H : Hp} {y l : Addr} {o : HO} (h : (upd H y o) l = none) : H l = none := by
  by_cases e : l = y
  · rw [e, upd_same] at h; cases h
  · rw [upd_ne e] at h; exact h
section
variable {P : Program} {w : World} {K : PySem.W.Frag} {mg : Str → Option Value} {base : Heap} {A : Adr}
theorem Ans.put {H H4 : Hp} {p : Addr} {st st' : State} {F F' : List Addr} {x : Call} {Q : VK} {z : Int} (k : Ans A H p st F x Q) (e : step st x = (st', says z)) (hp : PlayerAt A H4 p st' F') (fr : ∀ b o, H b = some o → b ∉ F → H4 b = some o) (sub : ∀ b ∈ F', b ∈ F ∨ H b = none) (fre : ∀ l, H4 l = none → H l = none) :
    [V.int z].length ≤ sizeLine ∧ ∀ l, H4 l = none → Q (.ref l) (upd H4 l (.lst [V.int z])) := by
  refine ⟨by show 1 ≤ sizeLine; decide, fun l hl => k _ l F' ?_ ?_ (fun b o e2 n => (Same.new hl) _ _ (fr b o e2 n)) sub (fre l hl)⟩
  · rw [e]; exact hp.same (Same.new hl)
  · rw [e]; exact upd_same
section
variable {H H' : Hp} {a dx lv ll ln : Addr} {s : Score} {vp : List (Addr × Voice)} {lp : List (Addr × Line)} {np : List (Addr × Note)}
theorem Sc.x {r C d2 : Addr} {fs : List (Str × V)} (x : Sc A H a s dx lv ll ln vp lp np) (sx : SameX r H H') (hr : H r = some (.ins C d2 fs)) (n : fs.length = 2) : Sc A H' a s dx lv ll ln vp lp np :=
  ⟨sx _ _ (ne_len x.ob hr (by rw [n]; show 4 ≠ 2; decide)) x.ob, sx _ _ (ne_of x.hv hr (by intro z; cases z)) x.hv, fun p hp => (x.vs p hp).x sx hr (by rw [n]; decide), x.ve, sx _ _ (ne_of x.hl hr (by intro z; cases z)) x.hl, fun p hp => (x.ls p hp).x sx hr, x.le,
    sx _ _ (ne_of x.hn hr (by intro z; cases z)) x.hn, fun p hp => (x.ns p hp).x sx hr (by rw [n]; decide), x.ne, x.d1, x.d2, x.d3, x.d4, x.nd⟩
theorem Sc.setVoice {v : Nat} {y : Addr} {V' : Voice} (x : Sc A H a s dx lv ll ln vp lp np) (hy : VoiceAt A H y V') : Sc A (upd H lv (.lst ((vp.map fun p => V.ref p.1).set v (.ref y)))) a ⟨s.voices.set v V', s.lines, s.next, s.notes⟩ dx lv ll ln (vp.set v (y, V')) lp np where
  ob := by rw [upd_ne (ne_of x.ob x.hv (by intro z; cases z))]; exact x.ob
  hv := by rw [upd_same, List.map_set]
  vs := fun p hp => by
    rcases List.mem_or_eq_of_mem_set hp with h | h
    · exact (x.vs p h).d updX x.hv
    · rw [h]; exact hy.d updX x.hv
  ve := by rw [List.map_set, x.ve]
  hl := by rw [upd_ne x.d1.symm]; exact x.hl
  ls := fun p hp => (x.ls p hp).d updX x.hv (x.d4 p hp).1
  le := x.le
  hn := by rw [upd_ne x.d2.symm]; exact x.hn
  ns := fun p hp => (x.ns p hp).d updX x.hv
  ne := x.ne
  d1 := x.d1
  d2 := x.d2
  d3 := x.d3
  d4 := x.d4
  nd := x.nd
theorem Sc.setLine {v : Nat} {y : Addr} {pt : Line} (x : Sc A H a s dx lv ll ln vp lp np) (hy : LineAt H y pt) (n : y ≠ lv ∧ y ≠ ll ∧ y ≠ ln) : Sc A (upd H ll (.lst ((lp.map fun p => V.ref p.1).set v (.ref y)))) a ⟨s.voices, s.lines.set v pt, s.next, s.notes⟩ dx lv ll ln vp (lp.set v (y, pt)) np where
  ob := by rw [upd_ne (ne_of x.ob x.hl (by intro z; cases z))]; exact x.ob
  hv := by rw [upd_ne x.d1]; exact x.hv
  vs := fun p hp => (x.vs p hp).d updX x.hl
  ve := x.ve
  hl := by rw [upd_same, List.map_set]
  ls := fun p hp => by
    rcases List.mem_or_eq_of_mem_set hp with h | h
    · exact (x.ls p h).d updX x.hl (x.d4 p h).2.1
    · rw [h]; exact hy.d updX x.hl n.2.1
  le := by rw [List.map_set, x.le]
  hn := by rw [upd_ne x.d3.symm]; exact x.hn
  ns := fun p hp => (x.ns p hp).d updX x.hl
  ne := x.ne
  d1 := x.d1
  d2 := x.d2
  d3 := x.d3
  d4 := fun p hp => by
    rcases List.mem_or_eq_of_mem_set hp with h | h
    · exact x.d4 p h
    · rw [h]; exact n
  nd := x.nd
theorem Sc.addNote {y : Addr} {n : Note} {m : Nat} (x : Sc A H a s dx lv ll ln vp lp np) (hy : NoteAt A H y n) (ny : y ∉ np.map (·.1)) : Sc A (upd (upd H ln (.lst (np.map (fun p => V.ref p.1) ++ [.ref y]))) a (.ins A.c_Score dx (scoreF lv ll ln m))) a ⟨s.voices, s.lines, m, s.notes ++ [n]⟩ dx lv ll ln vp lp (np ++ [(y, n)]) :=
  have xa : a ≠ ln := ne_of x.ob x.hn (by intro z; cases z)
  have ob1 : (upd H ln (.lst (np.map (fun p => V.ref p.1) ++ [.ref y]))) a = some (.ins A.c_Score dx (scoreF lv ll ln s.next)) := by rw [upd_ne xa]; exact x.ob
  { ob := upd_same
    hv := by rw [upd_ne (ne_of x.hv x.ob (by intro z; cases z)), upd_ne x.d2]; exact x.hv
    vs := fun p hp => ((x.vs p hp).d updX x.hn).x updX ob1 (by show 4 ≠ 5; decide)
    ve := x.ve
    hl := by rw [upd_ne (ne_of x.hl x.ob (by intro z; cases z)), upd_ne x.d3]; exact x.hl
    ls := fun p hp => ((x.ls p hp).d updX x.hn (x.d4 p hp).2.2).x updX ob1
    le := x.le
    hn := by rw [upd_ne xa.symm, upd_same, List.map_append]; rfl
    ns := fun p hp => by
      rcases List.mem_append.mp hp with h | h
      · exact ((x.ns p h).d updX x.hn).x updX ob1 (by show 4 ≠ 6; decide)
      · rw [List.mem_singleton.mp h]; exact (hy.d updX x.hn).x updX ob1 (by show 4 ≠ 6; decide)
    ne := by rw [List.map_append, x.ne]; rfl
    d1 := x.d1
    d2 := x.d2
    d3 := x.d3
    d4 := x.d4
    nd := by
      rw [List.map_append]
      refine List.nodup_append.mpr ⟨x.nd, by simp, fun b hb c hc e => ny ?_⟩
      rw [List.mem_singleton.mp hc] at e
      have e : b = y := e
      rw [← e]; exact hb }
theorem Sc.newNotes {D : Addr} {np' : List (Addr × Note)} (x : Sc A H a s dx lv ll ln vp lp np) (sub : ∀ p ∈ np', p ∈ np) (nd : (np'.map (·.1)).Nodup) (hD : H D = some (.lst (np'.map fun p => .ref p.1))) (n1 : lv ≠ D) (n2 : ll ≠ D) (n3 : ∀ p ∈ lp, p.1 ≠ D) :
    Sc A (upd H a (.ins A.c_Score dx (scoreF lv ll D s.next))) a ⟨s.voices, s.lines, s.next, np'.map (·.2)⟩ dx lv ll D vp lp np' where
  ob := upd_same
  hv := by rw [upd_ne (ne_of x.hv x.ob (by intro z; cases z))]; exact x.hv
  vs := fun p hp => (x.vs p hp).x updX x.ob (by show 4 ≠ 5; decide)
  ve := x.ve
  hl := by rw [upd_ne (ne_of x.hl x.ob (by intro z; cases z))]; exact x.hl
  ls := fun p hp => (x.ls p hp).x updX x.ob
  le := x.le
  hn := by rw [upd_ne (ne_of hD x.ob (by intro z; cases z))]; exact hD
  ns := fun p hp => (x.ns p (sub p hp)).x updX x.ob (by show 4 ≠ 6; decide)
  ne := rfl
  d1 := x.d1
  d2 := n1
  d3 := n2
  d4 := fun p hp => ⟨(x.d4 p hp).1, (x.d4 p hp).2.1, n3 p hp⟩
  nd := nd
theorem set_self {α : Type} {l : List α} {j : Nat} {v : α} (h : l[j]? = some v) : l.set j v = l := by
  refine List.ext_getElem? fun i => ?_
  rw [List.getElem?_set]
  split
  · rename_i e; subst e
    split
    · exact h.symm
    · rename_i n; rw [List.getElem?_eq_none (by omega)]
  · rfl
theorem Sc.moveNote {j : Nat} {p : Addr × Note} {n : Note} {dn : Addr} (x : Sc A H a s dx lv ll ln vp lp np) (hj : np[j]? = some p) (hd : H p.1 = some (.ins A.c_Note dn (noteF p.2))) : Sc A (upd H p.1 (.ins A.c_Note dn (noteF n))) a ⟨s.voices, s.lines, s.next, s.notes.set j n⟩ dx lv ll ln vp lp (np.set j (p.1, n)) where
  ob := by rw [upd_ne (ne_len x.ob hd (by show 4 ≠ 6; decide))]; exact x.ob
  hv := by rw [upd_ne (ne_of x.hv hd (by intro z; cases z))]; exact x.hv
  vs := fun q hq => (x.vs q hq).x updX hd (by show 6 ≠ 5; decide)
  ve := x.ve
  hl := by rw [upd_ne (ne_of x.hl hd (by intro z; cases z))]; exact x.hl
  ls := fun q hq => (x.ls q hq).x updX hd
  le := x.le
  hn := by rw [upd_ne (ne_of x.hn hd (by intro z; cases z)), List.map_set, set_self (by rw [List.getElem?_map, hj]; rfl)]; exact x.hn
  ns := fun q hq => by
    obtain ⟨i, hi⟩ := List.mem_iff_getElem?.mp hq
    rw [List.getElem?_set] at hi
    split at hi
    · split at hi
      · cases hi; exact ⟨dn, upd_same⟩
      · cases hi
    · rename_i nij
      obtain ⟨d, e⟩ := x.ns q (List.mem_of_getElem? hi)
      refine ⟨d, ?_⟩
      have : q.1 ≠ p.1 := fun z => nij ((List.getElem?_inj (l := np.map (·.1)) (by rw [List.length_map]; exact (List.getElem?_eq_some_iff.mp hj).1) x.nd).mp (by rw [List.getElem?_map, List.getElem?_map, hi, hj]; exact congrArg some z.symm))
      rw [upd_ne this]; exact e
  ne := by rw [List.map_set, x.ne]
  d1 := x.d1
  d2 := x.d2
  d3 := x.d3
  d4 := x.d4
  nd := by rw [List.map_set, set_self (by rw [List.getElem?_map, hj]; rfl)]; exact x.nd
end
theorem ok_answer_seek (T : Txt K mg A) : FnOk P w K mg base CX0 1 A.f_answer_seek A.d_answer_seek ["player", "numbers"] (sp_ans A 11) := by
  refine T.answer_seek.fn.ok sc_answer_seek (fun vs H Q E h => ?_) (fun cdv A' outer s H vs Q E hr h => ?_)
  · obtain ⟨p, nl, ns, st, F, x, rfl, _⟩ := h; rfl
  · obtain ⟨p, nl, ns, st, F, x, rfl, hp, so, hn, hc, hb, hlen, k⟩ := h
    obtain ⟨t, rfl, rfl⟩ := call11 hc
    obtain ⟨dx, a, G, h1, ⟨dxs, lv, ll, ln, vp, lp, np, z, rfl⟩, rfl⟩ := id hp
    have hx : ScX A H a st.score np := ⟨dxs, lv, ll, ln, vp, lp, z⟩
    have ok := so.sc
    refine ⟨_, (pss_cons (ps_if (pt_cmpR op_ge (pe_ix ix_list (pv 1) pe_int (fun _ _ => rfl)) (pe_gi rfl T.c_TIME_END) (nomark _))
  (pss_one (ps_ret (pe_lst (pa_cons (pe_gi rfl T.c_NOT_AS_TOLD) pa_nil))))
  pss_nil)
  (pss_cons (ps_fld (pv 0) (pe_ix ix_list (pv 1) pe_int (fun _ _ => rfl)) rfl)
  (pss_one (ps_ret (pe_lst (pa_cons pe_int pa_nil)))))), ?_⟩
    refine ⟨_, rfl, nl, _, _, _, rfl, rfl, SqL.of hn, at_of (j := 0) rfl rfl, _, _, rfl, rfl, tst (fun c => iteT (k.ret hp ?_ (Same.refl H))) fun c => iteF ?_⟩
    · show (if TIME ≤ t then _ else _) = _
      rw [if_pos (show TIME ≤ t by unfold TIME; omega)]
    · have e : step st (.seek t) = (⟨st.score, t⟩, says 0) := by
        show (if TIME ≤ t then _ else _) = _
        rw [if_neg (show ¬ TIME ≤ t by unfold TIME; omega)]
      refine ⟨_, rfl, nl, _, _, _, rfl, rfl, SqL.of hn, at_of (j := 0) rfl rfl, _, rfl, p, _, dx, _, rfl, h1, T.Player.cl, T.Player.no "place" (by decide), by show 2 < 1000; decide, ?_⟩
      refine k.put e ⟨dx, a, _, by rw [upd_same]; rfl, ⟨dxs, lv, ll, ln, vp, lp, np, z.x updX h1 rfl, rfl⟩, rfl⟩ (fun b o e2 n => ?_) (fun b hb => .inl hb) fun l hl => upd_free hl
      rw [upd_ne (fun q => n (by rw [q]; exact List.mem_cons_self))]; exact e2
theorem ok_answer_play (T : Txt K mg A) : FnOk P w K mg base CX0 7 A.f_answer_play A.d_answer_play ["player", "numbers"] (sp_ans A 12) := by
  refine T.answer_play.fn.ok sc_answer_play (fun vs H Q E h => ?_) (fun cdv A' outer s H vs Q E hr h => ?_)
  · obtain ⟨p, nl, ns, st, F, x, rfl, _⟩ := h; rfl
  · obtain ⟨p, nl, ns, st, F, x, rfl, hp, so, hn, hc, hb, hlen, k⟩ := h
    obtain ⟨n, rfl, rfl⟩ := call12 hc
    obtain ⟨dx, a, G, h1, ⟨dxs, lv, ll, ln, vp, lp, np, z, rfl⟩, rfl⟩ := id hp
    have hx : ScX A H a st.score np := ⟨dxs, lv, ll, ln, vp, lp, z⟩
    have ok := so.sc
    refine ⟨_, (pss_cons (ps_set (i := 2) sc_answer_play.nd rfl (Or.inl rfl) (pe_fld (pv 0) rfl))
  (pss_cons (ps_set (i := 3) sc_answer_play.nd rfl (Or.inl rfl) (pe_ix ix_list (pv 1) pe_int (fun _ _ => rfl)))
  (pss_cons (ps_if (pt_not (pt_val (pcall T.part_fits (ok_part_fits T) (hr.mono (by decide)) pass0 (pa_cons (pv 2) (pa_cons (pv 3) pa_nil)))))
  (pss_one (ps_ret (pe_lst (pa_cons (pe_gi rfl T.c_NOT_AS_TOLD) pa_nil))))
  pss_nil)
  (pss_cons (ps_fld (pv 0) (pe_op op_add (pv 2) (pv 3)) rfl)
  (pss_one (ps_ret (pcall T.with_lists (ok_with_lists T) (hr.mono (by decide)) pass0 (pa_cons (pe_fld (pv 0) rfl) (pa_cons (pe_lst (pa_cons (pcall T.samples (ok_samples T) (hr.mono (by decide)) pass0 (pa_cons (pe_fld (pv 0) rfl) (pa_cons (pv 2) (pa_cons (pv 3) pa_nil)))) pa_nil)) pa_nil))))))))), ?_⟩
    have sl := step_len so (.play n)
    refine ⟨_, rfl, p_place T h1 ⟨_, rfl, nl, _, _, _, rfl, rfl, SqL.of hn, at_of (j := 0) rfl rfl, _, rfl, _, rfl, st.place, n, rfl, _, rfl, ?_⟩⟩
    cases pf : isPart st.place n with
    | false =>
      refine iteT (k.ret hp ?_ (Same.refl H))
      show (if isPart st.place n = false then _ else _) = _
      rw [if_pos pf]
    | true =>
      have e : step st (.play n) = (⟨st.score, st.place + n⟩, ⟨((st.place + n : Nat) : Int), [st.score.render st.place n]⟩) := by
        show (if isPart st.place n = false then _ else _) = _
        rw [if_neg (by rw [pf]; decide)]
      have pl := part_le (f := st.place) (n := n) (by rw [pf]; decide)
      rw [e] at sl
      refine iteF ⟨_, rfl, _, rfl, _, _, rfl, rfl, _, rfl, p, _, dx, _, rfl, h1, T.Player.cl, T.Player.no "place" (by decide), by show 2 < 1000; decide, ?_⟩
      have h2 : (upd H p (.ins A.c_Player dx (putF "place" (.int ((st.place : Int) + (n : Int))) (playerF a st.place)))) p = some (.ins A.c_Player dx (playerF a (st.place + n))) := by rw [upd_same]; rfl
      have z2 : Sc A (upd H p (.ins A.c_Player dx (putF "place" (.int ((st.place : Int) + (n : Int))) (playerF a st.place)))) a st.score dxs lv ll ln vp lp np := z.x updX h1 rfl
      have fr : ∀ b o, H b = some o → b ∉ p :: a :: lv :: ll :: ln :: (lp.map (·.1) ++ np.map (·.1)) → (upd H p (.ins A.c_Player dx (putF "place" (.int ((st.place : Int) + (n : Int))) (playerF a st.place)))) b = some o := fun b o e2 n => by
        rw [upd_ne (fun q => n (by rw [q]; exact List.mem_cons_self))]; exact e2
      have fre : ∀ l, (upd H p (.ins A.c_Player dx (putF "place" (.int ((st.place : Int) + (n : Int))) (playerF a st.place)))) l = none → H l = none := fun l hl => upd_free hl
      generalize upd H p (.ins A.c_Player dx (putF "place" (.int ((st.place : Int) + (n : Int))) (playerF a st.place))) = H2 at h2 z2 fr fre ⊢
      refine ⟨_, rfl, p_place T h2 ⟨_, rfl, p_score T h2 ⟨_, rfl, _, rfl, a, st.score, np, st.place, n, rfl, ⟨dxs, lv, ll, ln, vp, lp, z2⟩, ok, pl.1, so.pl, fun D H3 hD q => ⟨by show 1 ≤ sizeLine; decide, fun l hl => ?_⟩⟩⟩⟩
      have s3 : ∀ o, Same H2 (upd H3 l o) := fun o => q.same.trans (Same.new hl)
      refine ⟨((st.place + n : Nat) : Int), l, [(D, st.score.render st.place n)], rfl, upd_same, ?_, Nat.le_trans sl (by decide), fun E H4 hE q2 => k H4 E (p :: a :: lv :: ll :: ln :: (lp.map (·.1) ++ np.map (·.1))) ?_ ?_ (fun b o e2 n => q2.same _ _ ((s3 _) _ _ (fr b o e2 n))) (fun b hb => .inl hb) (fre _ ((s3 _).free hE))⟩
      · intro r hr
        rw [List.mem_singleton.mp hr]
        exact (Same.new hl) _ _ q.at_
      · rw [e]
        exact PlayerAt.same ⟨dx, a, _, h2, ⟨dxs, lv, ll, ln, vp, lp, np, z2, rfl⟩, rfl⟩ ((s3 _).trans q2.same)
      · rw [e]; exact q2.at_
theorem ok_answer_voice (T : Txt K mg A) : FnOk P w K mg base CX0 3 A.f_answer_voice A.d_answer_voice ["player", "numbers"] (sp_ans A 0) := by
  refine T.answer_voice.fn.ok sc_answer_voice (fun vs H Q E h => ?_) (fun cdv A' outer s H vs Q E hr h => ?_)
  · obtain ⟨p, nl, ns, st, F, x, rfl, _⟩ := h; rfl
  · obtain ⟨p, nl, ns, st, F, x, rfl, hp, so, hn, hc, hb, hlen, k⟩ := h
    obtain ⟨v, w1, w2, w3, w4, w5, rfl, rfl⟩ := call0 hc
    obtain ⟨dx, a, G, h1, ⟨dxs, lv, ll, ln, vp, lp, np, z, rfl⟩, rfl⟩ := id hp
    have hx : ScX A H a st.score np := ⟨dxs, lv, ll, ln, vp, lp, z⟩
    have ok := so.sc
    refine ⟨_, (pss_cons (ps_set (i := 2) sc_answer_voice.nd rfl (Or.inl rfl) (pe_ix ix_list (pv 1) pe_int (fun _ _ => rfl)))
  (pss_cons (ps_if (PW.pt (pw_or (pt_cmpR op_ge (pv 2) (pe_gi rfl T.c_VOICE_COUNT) (nomark _)) (pw_or1 (pt_not (pt_val (pcall T.voice_fits (ok_voice_fits T) (hr.mono (by decide)) pass0 (pa_cons (pe_slice sl_list (pv 1) (po_some pe_int) po_none) pa_nil)))))))
  (pss_one (ps_ret (pe_lst (pa_cons (pe_gi rfl T.c_NOT_AS_TOLD) pa_nil))))
  pss_nil)
  (pss_cons (ps_set (i := 3) sc_answer_voice.nd rfl (Or.inl rfl) (pe_fld (pv 0) rfl))
  (pss_cons (ps_asg (pmake T.Voice (ok_Voice T) (hr.mono (by decide)) pass0 (pa_cons (pe_slice sl_list (pv 1) (po_some pe_int) po_none) pa_nil)) (pg_sub (pe_fld (pv 3) rfl) (pv 2) set_list))
  (pss_one (ps_ret (pe_lst (pa_cons pe_int pa_nil)))))))), ?_⟩
    let u : Voice := ⟨w1, w2, w3, w4, w5⟩
    have ec : cutV (nv [v, w1, w2, w3, w4, w5]) (some 1) none = nv u.row := cut_from (ns := [v, w1, w2, w3, w4, w5]) (k := 1) (by show 1 ≤ 6; decide)
    have bad : (VOICES ≤ v ∨ u.fine = false) → step st (.voice v w1 w2 w3 w4 w5) = (st, says (-1)) := fun c => by
      show (if VOICES ≤ v ∨ u.fine = false then _ else _) = _
      rw [if_pos c]
    refine ⟨_, rfl, nl, _, _, _, rfl, rfl, SqL.of hn, at_of (j := 0) rfl rfl, _, rfl, _, _, rfl, rfl, tst (fun c => iteT (iteT (k.ret hp (bad (.inl (by unfold VOICES; omega))) (Same.refl H)))) fun c => iteF ⟨_, rfl, _, rfl, nl, _, rfl, SqL.of hn, fun q hq => ?_⟩⟩
    rw [ec]
    refine ⟨q, u.row, rfl, SqL.of upd_same, fun H1 s1 => ⟨_, rfl, ?_⟩⟩
    have s1 : Same H H1 := (Same.new hq).trans s1
    cases fv : noneAbove u.row GV with
    | false =>
      refine iteT (k.ret hp (bad (.inr ?_)) s1)
      cases h : u.fine with
      | false => rfl
      | true => rw [(fits_voice u).mpr ((vok_iff u).mp h)] at fv; cases fv
    | true =>
      have uok := (fits_voice u).mp fv
      have e : step st (.voice v w1 w2 w3 w4 w5) = (⟨⟨st.score.voices.set v u, st.score.lines, st.score.next, st.score.notes⟩, st.place⟩, says 0) := by
        show (if VOICES ≤ v ∨ u.fine = false then _ else _) = _
        rw [if_neg (by rw [(vok_iff u).mpr uok]; unfold VOICES; exact fun q => q.elim (fun q => by omega) (fun q => by cases q))]
      have hn1 := s1 _ _ hn
      refine iteF ⟨_, rfl, p_score T (s1 _ _ h1) ⟨_, rfl, _, rfl, nl, _, rfl, SqL.of hn1, fun q2 hq2 => ?_⟩⟩
      rw [ec]
      refine fun y dy ny ndy ney => ⟨y, dy, q2, u, rfl, upd_same, .inl (SqL.of ?_), fun H3 e1 e2 => ⟨rfl, ?_⟩⟩
      · have : (upd H1 q2 (.lst (nv u.row))) q2 = _ := upd_same
        rw [upd_ne (ne_of_none this ny), upd_ne (ne_of_none this ndy)]; exact this
      have s3 : Same H H3 := (s1.trans (Same.new hq2)).trans (same_made ny ndy e2)
      have z3 := z.same s3
      have vl : (vp.map fun p => V.ref p.1).length = 8 := by have := ok.vlen; rw [← z.ve, List.length_map] at this; rw [List.length_map]; exact this
      refine ⟨_, rfl, s_voices T z3.ob ⟨_, rfl, lv, _, _, v, rfl, rfl, z3.hv, by rw [vl]; exact ixN_nat (by omega), ?_⟩⟩
      refine k.put e ⟨dx, a, _, ?_, ⟨dxs, lv, ll, ln, vp.set v (y, u), lp, np, z3.setVoice ⟨dy, e1⟩, rfl⟩, rfl⟩ (fun b o e2 n => ?_) (fun b hb => .inl hb) fun l hl => s3.free (upd_free hl)
      · rw [upd_ne (ne_of (s3 _ _ h1) z3.hv (by intro z; cases z))]; exact s3 _ _ h1
      · rw [upd_ne (fun q => n (by rw [q]; simp))]; exact s3 _ _ e2
theorem ok_answer_line (T : Txt K mg A) : FnOk P w K mg base CX0 3 A.f_answer_line A.d_answer_line ["player", "numbers"] (sp_ans A 1) := by
  refine T.answer_line.fn.ok sc_answer_line (fun vs H Q E h => ?_) (fun cdv A' outer s H vs Q E hr h => ?_)
  · obtain ⟨p, nl, ns, st, F, x, rfl, _⟩ := h; rfl
  · obtain ⟨p, nl, ns, st, F, x, rfl, hp, so, hn, hc, hb, hlen, k⟩ := h
    obtain ⟨v, l, rfl, rfl⟩ := call1 hc
    obtain ⟨dx, a, G, h1, ⟨dxs, lv, ll, ln, vp, lp, np, z, rfl⟩, rfl⟩ := id hp
    have hx : ScX A H a st.score np := ⟨dxs, lv, ll, ln, vp, lp, z⟩
    have ok := so.sc
    refine ⟨_, (pss_cons (ps_set (i := 2) sc_answer_line.nd rfl (Or.inl rfl) (pe_ix ix_list (pv 1) pe_int (fun _ _ => rfl)))
  (pss_cons (ps_if (PW.pt (pw_or (pt_cmpR op_ge (pv 2) (pe_gi rfl T.c_VOICE_COUNT) (nomark _)) (pw_or1 (pt_not (pt_val (pcall T.points_fit (ok_points_fit T) (hr.mono (by decide)) pass0 (pa_cons (pe_slice sl_list (pv 1) (po_some pe_int) po_none) pa_nil)))))))
  (pss_one (ps_ret (pe_lst (pa_cons (pe_gi rfl T.c_NOT_AS_TOLD) pa_nil))))
  pss_nil)
  (pss_cons (ps_set (i := 3) sc_answer_line.nd rfl (Or.inl rfl) (pe_fld (pv 0) rfl))
  (pss_cons (ps_asg (pcall T.points_of (ok_points_of T) (hr.mono (by decide)) pass0 (pa_cons (pe_slice sl_list (pv 1) (po_some pe_int) po_none) pa_nil)) (pg_sub (pe_fld (pv 3) rfl) (pv 2) set_list))
  (pss_one (ps_ret (pe_lst (pa_cons (pe_callB call_len_seq (by rfl) T.b_len PySem.boot_len (pa_cons (pe_ix ix_list (pe_fld (pv 3) rfl) (pv 2) (fun _ _ => rfl)) pa_nil)) pa_nil)))))))), ?_⟩
    have ec : cutV (nv (v :: l.length :: l)) (some 2) none = nv l := cut_from (ns := v :: l.length :: l) (k := 2) (by show 2 ≤ l.length + 1 + 1; omega)
    have st1 : ¬ VOICES ≤ v → step st (.line v l) = (match pairsOf l with | none => (st, says (-1)) | some p => if Line.fine p = false then (st, says (-1)) else (⟨⟨st.score.voices, st.score.lines.set v p, st.score.next, st.score.notes⟩, st.place⟩, says (p.length : Nat))) := fun c => by
      show (if VOICES ≤ v then _ else _) = _
      rw [if_neg c]
      rfl
    refine ⟨_, rfl, nl, _, _, _, rfl, rfl, SqL.of hn, at_of (j := 0) rfl rfl, _, rfl, _, _, rfl, rfl, tst (fun c => iteT (iteT (k.ret hp ?_ (Same.refl H)))) fun c => iteF ⟨_, rfl, _, rfl, nl, _, rfl, SqL.of hn, fun q hq => ?_⟩⟩
    · show (if VOICES ≤ v then _ else _) = _
      rw [if_pos (by unfold VOICES; omega)]
    have st2 := st1 (by unfold VOICES; omega)
    rw [ec]
    refine ⟨q, l, rfl, SqL.of upd_same, fun H1 s1 => ⟨_, rfl, ?_⟩⟩
    have s1 : Same H H1 := (Same.new hq).trans s1
    have fl : fitL l = (match pairsOf l with | none => false | some p => Line.fine p) := rfl
    cases fv : fitL l with
    | false =>
      refine iteT (k.ret hp ?_ s1)
      rw [fv] at fl
      rw [st2]
      cases hpo : pairsOf l with
      | none => rfl
      | some pt =>
        rw [hpo] at fl
        show (if Line.fine pt = false then _ else _) = _
        rw [if_pos fl.symm]
    | true =>
      rw [fv] at fl
      have ev : l.length % 2 = 0 := by
        rcases Nat.mod_two_eq_zero_or_one l.length with h | h
        · exact h
        · rw [pairsOf_odd _ h] at fl; cases fl
      rw [pairsOf_even _ ev] at fl st2
      have fl : true = Line.fine (pairs l) := fl
      have lok := (lok_iff _).mp fl.symm
      have e : step st (.line v l) = (⟨⟨st.score.voices, st.score.lines.set v (pairs l), st.score.next, st.score.notes⟩, st.place⟩, says ((pairs l).length : Nat)) := by
        rw [st2]
        show (if Line.fine (pairs l) = false then _ else _) = _
        rw [if_neg (by rw [← fl]; decide)]
      have hn1 := s1 _ _ hn
      refine iteF ⟨_, rfl, p_score T (s1 _ _ h1) ⟨_, rfl, _, rfl, nl, _, rfl, SqL.of hn1, fun q2 hq2 => ?_⟩⟩
      rw [ec]
      refine ⟨q2, l, rfl, SqL.of upd_same, ev, fun y H3 ny hy s3 => ?_⟩
      have s2 : Same H (upd H1 q2 (.lst (nv l))) := s1.trans (Same.new hq2)
      have s3 : Same H H3 := s2.trans s3
      have z2 := z.same s2
      have z3 := z.same s3
      have yn : y ≠ lv ∧ y ≠ ll ∧ y ≠ ln := ⟨(ne_of_none z2.hv ny).symm, (ne_of_none z2.hl ny).symm, (ne_of_none z2.hn ny).symm⟩
      have lpl : lp.length = 8 := by have := ok.llen; rw [← z.le, List.length_map] at this; exact this
      have z4 := z3.setLine (v := v) hy yn
      refine ⟨_, rfl, s_lines T z3.ob ⟨_, rfl, ll, _, _, v, rfl, rfl, z3.hl, by rw [List.length_map, lpl]; exact ixN_nat (by omega), ?_⟩⟩
      have hy4 : LineAt (upd H3 ll (.lst ((lp.map fun p => V.ref p.1).set v (.ref y)))) y (pairs l) := hy.d updX z3.hl yn.2.1
      obtain ⟨qs, hq1, hq2', hq3⟩ := id hy4
      have ql : qs.length = (pairs l).length := by rw [← hq3, List.length_map]
      refine ⟨_, rfl, s_lines T z4.ob ⟨_, rfl, ll, _, _, _, rfl, rfl, SqL.of z4.hl, atI_nat (v := .ref y) (by rw [List.getElem?_map, List.getElem?_set_self (by omega)]; rfl), y, _, rfl, .inl (SqL.of hq1), ?_⟩⟩
      rw [List.length_map, ql]
      refine k.put e ⟨dx, a, _, ?_, ⟨dxs, lv, ll, ln, vp, lp.set v (y, pairs l), np, z4, rfl⟩, rfl⟩ (fun b o e2 n => ?_) (fun b hb => ?_) fun l hl => s3.free (upd_free hl)
      · rw [upd_ne (ne_of (s3 _ _ h1) z3.hl (by intro z; cases z))]; exact s3 _ _ h1
      · rw [upd_ne (fun q => n (by rw [q]; simp))]; exact s3 _ _ e2
      · rw [List.map_set] at hb
        simp only [List.mem_cons, List.mem_append] at hb ⊢
        rcases hb with q | q | q | q | q | q | q
        · exact .inl (.inl q)
        · exact .inl (.inr (.inl q))
        · exact .inl (.inr (.inr (.inl q)))
        · exact .inl (.inr (.inr (.inr (.inl q))))
        · exact .inl (.inr (.inr (.inr (.inr (.inl q)))))
        · rcases List.mem_or_eq_of_mem_set q with q | q
          · exact .inl (.inr (.inr (.inr (.inr (.inr (.inl q))))))
          · rw [q]; exact .inr (s2.free ny)
        · exact .inl (.inr (.inr (.inr (.inr (.inr (.inr q))))))
theorem ok_answer_note (T : Txt K mg A) : FnOk P w K mg base CX0 3 A.f_answer_note A.d_answer_note ["player", "numbers"] (sp_ans A 2) := by
  refine T.answer_note.fn.ok sc_answer_note (fun vs H Q E h => ?_) (fun cdv A' outer s H vs Q E hr h => ?_)
  · obtain ⟨p, nl, ns, st, F, x, rfl, _⟩ := h; rfl
  · obtain ⟨p, nl, ns, st, F, x, rfl, hp, so, hn, hc, hb, hlen, k⟩ := h
    obtain ⟨v, t, n, sp, lev, rfl, rfl⟩ := call2 hc
    obtain ⟨dx, a, G, h1, ⟨dxs, lv, ll, ln, vp, lp, np, z, rfl⟩, rfl⟩ := id hp
    have hx : ScX A H a st.score np := ⟨dxs, lv, ll, ln, vp, lp, z⟩
    have ok := so.sc
    refine ⟨_, (pss_cons (ps_if (pt_not (pt_val (pcall T.note_fits (ok_note_fits T) (hr.mono (by decide)) pass0 (pa_cons (pv 1) pa_nil))))
  (pss_one (ps_ret (pe_lst (pa_cons (pe_gi rfl T.c_NOT_AS_TOLD) pa_nil))))
  pss_nil)
  (pss_cons (ps_set (i := 2) sc_answer_note.nd rfl (Or.inl rfl) (pe_fld (pv 0) rfl))
  (pss_cons (ps_set (i := 3) sc_answer_note.nd rfl (Or.inl rfl) (pe_fld (pv 2) rfl))
  (pss_cons (ps_if (PW.pt (pw_or (pt_cmpR op_ge (pe_callB call_len_seq (by rfl) T.b_len PySem.boot_len (pa_cons (pe_fld (pv 2) rfl) pa_nil)) (pe_gi rfl T.c_MOST_NOTES) (nomark _)) (pw_or1 (pt_cmpR op_ge (pv 3) (pe_gi rfl T.c_NUMBERS_END) (nomark _)))))
  (pss_one (ps_ret (pe_lst (pa_cons (pe_gi rfl T.c_NO_ROOM) pa_nil))))
  pss_nil)
  (pss_cons (ps_expr (pe_bm PySem.F.plainAttrs_list PySem.F.slot_list_append PySem.F.type_list_append mt_append (pe_fld (pv 2) rfl) (pa_cons (pmake T.Note (ok_Note T) (hr.mono (by decide)) pass0 (pa_cons (pv 3) (pa_cons (pv 1) pa_nil))) pa_nil)))
  (pss_cons (ps_fld (pv 2) (pe_op op_add (pv 3) pe_int) rfl)
  (pss_one (ps_ret (pe_lst (pa_cons (pv 3) pa_nil)))))))))), ?_⟩
    let m : Note := ⟨st.score.next, v, t, n, sp, lev⟩
    have npl := hx.len ok
    have nle : st.score.notes.length = np.length := by rw [← z.ne, List.length_map]
    refine ⟨_, rfl, nl, [v, t, n, sp, lev], n, rfl, SqL.of hn, rfl, fun H1 s1 => ⟨_, rfl, ?_⟩⟩
    have s1 : Same H H1 := s1
    have z1 := z.same s1
    cases fv : (decide (1 ≤ n) && noneAbove [v, t, n, sp, lev] GN) with
    | false =>
      refine iteT (k.ret hp ?_ s1)
      show (if m.fine = false then _ else _) = _
      rw [if_pos]
      cases h : m.fine with
      | false => rfl
      | true => have := (fits_note m).mpr ((nok_iff m).mp h); have this : (decide (1 ≤ n) && noneAbove [v, t, n, sp, lev] GN) = true := this; rw [fv] at this; cases this
    | true =>
      have mok : NOk m := (fits_note m).mp fv
      have mf : m.fine = true := (nok_iff m).mpr mok
      have full : (NOTES ≤ st.score.notes.length ∨ IDS ≤ st.score.next) → step st (.note v t n sp lev) = (st, says (-6)) := fun c => by
        show (if m.fine = false then _ else if NOTES ≤ st.score.notes.length ∨ IDS ≤ st.score.next then _ else _) = _
        rw [if_neg (by rw [mf]; decide), if_pos c]
      refine iteF ⟨_, rfl, p_score T (s1 _ _ h1) ⟨_, rfl, s_next T z1.ob ⟨_, rfl, s_notes T z1.ob ⟨ln, _, rfl, .inl (SqL.of z1.hn), _, _, rfl, rfl, tst (fun c => iteT (iteT (k.ret hp (full (.inl ?_)) s1))) fun c => iteF ⟨_, rfl, _, _, rfl, rfl, tst (fun d => iteT (k.ret hp (full (.inr ?_)) s1)) fun d => iteF ?_⟩⟩⟩⟩⟩
      · rw [List.length_map] at c
        unfold NOTES; omega
      · unfold IDS; omega
      · rw [List.length_map] at c
        have e : step st (.note v t n sp lev) = (⟨⟨st.score.voices, st.score.lines, st.score.next + 1, st.score.notes ++ [m]⟩, st.place⟩, says (st.score.next : Nat)) := by
          show (if m.fine = false then _ else if NOTES ≤ st.score.notes.length ∨ IDS ≤ st.score.next then _ else _) = _
          rw [if_neg (by rw [mf]; decide), if_neg (by unfold NOTES IDS; omega)]
        refine ⟨_, rfl, s_notes T z1.ob ⟨.inl ⟨rfl, _, SqL.of z1.hn⟩, _, rfl, _, rfl, fun y dy ny ndy ney => ⟨y, dy, nl, m, rfl, upd_same, SqL.of ?_, fun H2 e1 e2 => ⟨rfl, ?_⟩⟩⟩⟩
        · have := s1 _ _ hn
          rw [upd_ne (ne_of_none this ny), upd_ne (ne_of_none this ndy)]; exact this
        have s2 : Same H H2 := s1.trans (same_made ny ndy e2)
        have z2 := z.same s2
        refine ⟨ln, _, _, rfl, rfl, z2.hn, by rw [List.length_map]; exact line16 (by omega), ?_⟩
        have xa : a ≠ ln := ne_of z2.ob z2.hn (by intro z; cases z)
        refine ⟨_, rfl, _, _, rfl, rfl, _, rfl, a, _, dxs, _, rfl, (by rw [upd_ne xa]; exact z2.ob), T.Score.cl, T.Score.no "next_number" (by decide), (by show 4 < 1000; decide), _, rfl, ?_⟩
        have ymem : y ∉ np.map (·.1) := fun hm => by
          obtain ⟨r, hr, rfl⟩ := List.mem_map.mp hm
          obtain ⟨d, e⟩ := z1.ns r hr
          rw [e] at ny; cases ny
        have z3 := z2.addNote (m := st.score.next + 1) ⟨dy, e1⟩ ymem
        have h2 := s2 _ _ h1
        refine k.put e ⟨dx, a, _, ?_, ⟨dxs, lv, ll, ln, vp, lp, np ++ [(y, m)], z3, rfl⟩, rfl⟩ (fun b o e2 n => ?_) (fun b hb => ?_) fun l hl => s2.free (upd_free (upd_free hl))
        · rw [upd_ne (ne_len h2 z2.ob (by show 2 ≠ 4; decide)), upd_ne (ne_of h2 z2.hn (by intro z; cases z))]; exact h2
        · rw [upd_ne (fun q => n (by rw [q]; simp)), upd_ne (fun q => n (by rw [q]; simp))]; exact s2 _ _ e2
        · rw [List.map_append] at hb
          simp only [List.mem_cons, List.mem_append, List.map_cons, List.map_nil, List.not_mem_nil, or_false] at hb ⊢
          rcases hb with q | q | q | q | q | q | q | q
          · exact .inl (.inl q)
          · exact .inl (.inr (.inl q))
          · exact .inl (.inr (.inr (.inl q)))
          · exact .inl (.inr (.inr (.inr (.inl q))))
          · exact .inl (.inr (.inr (.inr (.inr (.inl q)))))
          · exact .inl (.inr (.inr (.inr (.inr (.inr (.inl q))))))
          · exact .inl (.inr (.inr (.inr (.inr (.inr (.inr q))))))
          · rw [q]; exact .inr (s1.free ny)
end
end Sb
end
section
set_option Elab.async false
set_option linter.all false
set_option maxRecDepth 100000
set_option maxHeartbeats 4000000
namespace Sb
open PySem PySem.Spec PyProof.Rows L2 ScoreNs Mu
open ScoreNeutral (shown)
theorem ps_fldK {X : Cx} (K : PySem.W.Frag) {o value : Expr} {f : Str} {pos pos' : Pos} {ta tv : TE} (hK : X.K = K) (ha : PE X o ta) (hv : PE X value tv) (hs : swapsWith value (some (.Attribute o f pos')) pos.line X.env = pure false) : PS X (.Assign [.Attribute o f pos'] value pos) (sFld K ta tv f) := by
  subst hK
  exact ps_fld ha hv hs
theorem sl_listK {X : Cx} (K : PySem.W.Frag) (hK : X.K = K) : SlR X (rSlL K) := by
  subst hK
  exact sl_list
section
variable {P : Program} {w : World} {K : PySem.W.Frag} {mg : Str → Option Value} {base : Heap} {A : Adr}
theorem ok_answer_drop (T : Txt K mg A) : FnOk P w K mg base CX0 2 A.f_answer_drop A.d_answer_drop ["player", "numbers"] (sp_ans A 3) := by
  refine T.answer_drop.fn.ok sc_answer_drop (fun vs H Q E h => ?_) (fun cdv A' outer s H vs Q E hr h => ?_)
  · obtain ⟨p, nl, ns, st, F, x, rfl, _⟩ := h; rfl
  · obtain ⟨p, nl, ns, st, F, x, rfl, hp, so, hn, hc, hb, hlen, k⟩ := h
    obtain ⟨i, rfl, rfl⟩ := call3 hc
    obtain ⟨dx, a, G, h1, ⟨dxs, lv, ll, ln, vp, lp, np, z, rfl⟩, rfl⟩ := id hp
    have hx : ScX A H a st.score np := ⟨dxs, lv, ll, ln, vp, lp, z⟩
    have ok := so.sc
    refine ⟨_, (pss_cons (ps_set (i := 2) sc_answer_drop.nd rfl (Or.inl rfl) (pe_fld (pv 0) rfl))
  (pss_cons (ps_set (i := 3) sc_answer_drop.nd rfl (Or.inr rfl) (pcall T.note_numbered (ok_note_numbered T) (hr.mono (by decide)) pass0 (pa_cons (pv 2) (pa_cons (pe_ix ix_list (pv 1) pe_int (fun _ _ => rfl)) pa_nil))))
  (pss_cons (ps_if (pt_cmpR op_isN (pv 3) pe_non (nomark _))
  (pss_one (ps_ret (pe_lst (pa_cons (pe_gi rfl T.c_NO_SUCH_NOTE) pa_nil))))
  pss_nil)
  (pss_cons (ps_fld (pv 2) (pe_lc rfl sc_answer_drop.nd (pi_list (pe_fld (pv 2) rfl)) (own := [("note", 4)]) (blkOk_by (by show blkC ["player", "numbers", "score", "dropped", "note"] (defScope s_answer_drop) _ _ = true; decide +kernel)) (fun _ _ _ _ _ => (pg_name (i := 4) sc_answer_drop.nd rfl (Or.inl rfl))) (fun _ _ _ _ _ => (pts_one (pt_cmpR op_ne (pe_fldK K rfl (pv 4) rfl) (pe_fldK K rfl (pv 3) rfl) (nomark _)))) (fun _ _ _ _ _ => (pv 4))) rfl)
  (pss_one (ps_ret (pe_lst (pa_cons pe_int pa_nil)))))))), ?_⟩
    have npl := hx.len ok
    refine ⟨_, rfl, p_score T h1 ⟨_, rfl, _, rfl, nl, _, _, _, rfl, rfl, SqL.of hn, at_of (j := 0) rfl rfl, a, st.score, np, i, rfl, hx, fun j r hj hri => ?_, fun hno => ?_⟩⟩
    · have rm := List.mem_of_getElem? hj
      have hr1 := z.ns r rm
      have e : step st (.drop i) = (⟨⟨st.score.voices, st.score.lines, st.score.next, st.score.notes.filter fun n => n.id != i⟩, st.place⟩, says 0) := by
        show (if (st.score.notes.any fun n => n.id == i) = false then _ else _) = _
        rw [if_neg]
        have : (st.score.notes.any fun n => n.id == i) = true := List.any_eq_true.mpr ⟨r.2, by rw [← z.ne]; exact List.mem_map_of_mem rm, by rw [hri]; simp⟩
        rw [this]; decide
      refine ⟨_, rfl, rfl, tst (fun c => by cases c) fun c => iteF ?_⟩
      refine ⟨_, rfl, s_notes T z.ob ⟨ln, rfl, ⟨_, SqL.of z.hn⟩, fun D hD => ?_⟩⟩
      refine lc_list (K := K) (a := ln) (xs := np.map fun p => V.ref p.1) (fun j H' => Acc H H' D (((np.take j).filter fun q => q.2.id != i).map fun p => .ref p.1)) (Acc.start hD) (fun j H' _ q => SqL.of (q.same _ _ z.hn)) (fun j y H' hj q => ?_) fun H1 q1 => ?_
      · obtain ⟨y, hy, rfl⟩ := of_map hj
        have hy1 := (z.ns y (List.mem_of_getElem? hy)).same q.same
        refine ⟨rfl, _, rfl, n_number T hy1 ⟨_, rfl, n_number T (hr1.same q.same) ⟨rfl, _, rfl, ?_⟩⟩⟩
        rw [filter_snoc hy]
        by_cases h : y.2.id = i
        · have h1 : (!decide (V.int (y.2.id : Int) = V.int (r.2.id : Int))) = false := by rw [h, hri, decide_eq_true rfl]; rfl
          have h2 : (y.2.id != i) = false := by rw [h]; simp
          rw [h1, h2]
          refine iteF (q.eq ?_)
          rw [if_neg (by decide), List.append_nil]
        · have h1 : (!decide (V.int (y.2.id : Int) = V.int (r.2.id : Int))) = true := by
            rw [hri, decide_eq_false]
            · rfl
            · intro e; exact h (by have := V.int.inj e; omega)
          have h2 : (y.2.id != i) = true := by simp [h]
          rw [h1, h2]
          refine iteT ⟨_, rfl, _, q.at_, ?_, (q.push hD (Same.refl H')).eq ?_⟩
          · rw [List.length_map]
            refine line16 (Nat.le_trans (List.length_filter_le _ _) ?_)
            rw [List.length_take]; omega
          · rw [if_pos rfl, List.map_append]; rfl
      rw [List.length_map, List.take_length] at q1
      have z1 := z.same q1.same
      have h11 := q1.same _ _ h1
      refine ⟨_, rfl, a, _, dxs, _, rfl, z1.ob, T.Score.cl, T.Score.no "notes" (by decide), by show 4 < 1000; decide, ?_⟩
      have z2 := z1.newNotes (D := D) (np' := np.filter fun q => q.2.id != i) (fun p hp => (List.mem_filter.mp hp).1) (List.Nodup.sublist (List.Sublist.map _ List.filter_sublist) z.nd) q1.at_ (ne_of_none z.hv hD) (ne_of_none z.hl hD) (fun p hp => by obtain ⟨qs, e, _⟩ := z.ls p hp; exact ne_of_none e hD)
      have en : (np.filter fun q => q.2.id != i).map (·.2) = st.score.notes.filter fun n => n.id != i := by rw [← z.ne, List.filter_map]; rfl
      rw [en] at z2
      refine k.put e ⟨dx, a, _, ?_, ⟨dxs, lv, ll, D, vp, lp, np.filter fun q => q.2.id != i, z2, rfl⟩, rfl⟩ (fun b o e2 n => ?_) (fun b hb => ?_) fun l hl => q1.same.free (upd_free hl)
      · rw [upd_ne (ne_len h11 z1.ob (by show 2 ≠ 4; decide))]; exact h11
      · rw [upd_ne (fun q => n (by rw [q]; simp))]; exact q1.same _ _ e2
      · simp only [List.mem_cons, List.mem_append] at hb ⊢
        rcases hb with q | q | q | q | q | q | q
        · exact .inl (.inl q)
        · exact .inl (.inr (.inl q))
        · exact .inl (.inr (.inr (.inl q)))
        · exact .inl (.inr (.inr (.inr (.inl q))))
        · rw [q]; exact .inr hD
        · exact .inl (.inr (.inr (.inr (.inr (.inr (.inl q))))))
        · obtain ⟨y, hy, rfl⟩ := List.mem_map.mp q
          exact .inl (.inr (.inr (.inr (.inr (.inr (.inr (List.mem_map_of_mem (List.mem_filter.mp hy).1)))))))
    · refine ⟨_, rfl, rfl, tst (fun c => iteT (k.ret hp ?_ (Same.refl H))) fun c => absurd rfl c⟩
      show (if (st.score.notes.any fun n => n.id == i) = false then _ else _) = _
      rw [if_pos]
      refine List.any_eq_false.mpr fun n hn => ?_
      rw [← z.ne] at hn
      obtain ⟨y, hy, rfl⟩ := List.mem_map.mp hn
      have := hno y hy
      simp [this]
theorem ok_answer_move (T : Txt K mg A) : FnOk P w K mg base CX0 2 A.f_answer_move A.d_answer_move ["player", "numbers"] (sp_ans A 4) := by
  refine T.answer_move.fn.ok sc_answer_move (fun vs H Q E h => ?_) (fun cdv A' outer s H vs Q E hr h => ?_)
  · obtain ⟨p, nl, ns, st, F, x, rfl, _⟩ := h; rfl
  · obtain ⟨p, nl, ns, st, F, x, rfl, hp, so, hn, hc, hb, hlen, k⟩ := h
    obtain ⟨i, t, rfl, rfl⟩ := call4 hc
    obtain ⟨dx, a, G, h1, ⟨dxs, lv, ll, ln, vp, lp, np, z, rfl⟩, rfl⟩ := id hp
    have hx : ScX A H a st.score np := ⟨dxs, lv, ll, ln, vp, lp, z⟩
    have ok := so.sc
    refine ⟨_, (pss_cons (ps_if (pt_cmpR op_ge (pe_ix ix_list (pv 1) pe_int (fun _ _ => rfl)) (pe_gi rfl T.c_TIME_END) (nomark _))
  (pss_one (ps_ret (pe_lst (pa_cons (pe_gi rfl T.c_NOT_AS_TOLD) pa_nil))))
  pss_nil)
  (pss_cons (ps_set (i := 2) sc_answer_move.nd rfl (Or.inl rfl) (pcall T.note_numbered (ok_note_numbered T) (hr.mono (by decide)) pass0 (pa_cons (pe_fld (pv 0) rfl) (pa_cons (pe_ix ix_list (pv 1) pe_int (fun _ _ => rfl)) pa_nil))))
  (pss_cons (ps_if (pt_cmpR op_isN (pv 2) pe_non (nomark _))
  (pss_one (ps_ret (pe_lst (pa_cons (pe_gi rfl T.c_NO_SUCH_NOTE) pa_nil))))
  pss_nil)
  (pss_cons (ps_fld (pv 2) (pe_ix ix_list (pv 1) pe_int (fun _ _ => rfl)) rfl)
  (pss_one (ps_ret (pe_lst (pa_cons pe_int pa_nil)))))))), ?_⟩
    refine ⟨_, rfl, nl, _, _, _, rfl, rfl, SqL.of hn, at_of (j := 1) rfl rfl, _, _, rfl, rfl, tst (fun c => iteT (k.ret hp ?_ (Same.refl H))) fun c => iteF ?_⟩
    · show (if TIME ≤ t then _ else _) = _
      rw [if_pos (show TIME ≤ t by unfold TIME; omega)]
    · have nt : ¬ TIME ≤ t := by unfold TIME; omega
      refine ⟨_, rfl, p_score T h1 ⟨_, rfl, nl, _, _, _, rfl, rfl, SqL.of hn, at_of (j := 0) rfl rfl, a, st.score, np, i, rfl, hx, fun j r hj hri => ?_, fun hno => ?_⟩⟩
      · have rm := List.mem_of_getElem? hj
        obtain ⟨dn, hdn⟩ := z.ns r rm
        have hj2 : st.score.notes[j]? = some r.2 := by rw [← z.ne, List.getElem?_map, hj]; rfl
        have e : step st (.move i t) = (⟨⟨st.score.voices, st.score.lines, st.score.next, st.score.notes.set j ⟨r.2.id, r.2.voice, t, r.2.len, r.2.step, r.2.level⟩⟩, st.place⟩, says 0) := by
          show (if TIME ≤ t then _ else if (st.score.notes.any fun n => n.id == i) = false then _ else _) = _
          rw [if_neg nt, if_neg]
          · rw [move_set ok.nd hj2 hri]
          · have : (st.score.notes.any fun n => n.id == i) = true := List.any_eq_true.mpr ⟨r.2, List.mem_of_getElem? hj2, by rw [hri]; simp⟩
            rw [this]; decide
        refine ⟨_, rfl, rfl, tst (fun c => by cases c) fun c => iteF ?_⟩
        refine ⟨_, rfl, nl, _, _, _, rfl, rfl, SqL.of hn, at_of (j := 1) rfl rfl, _, rfl, r.1, _, dn, _, rfl, hdn, T.Note.cl, T.Note.no "at" (by decide), by show 6 < 1000; decide, ?_⟩
        rw [show putF ("at" : Str) (iv t) (noteF r.2) = noteF ⟨r.2.id, r.2.voice, t, r.2.len, r.2.step, r.2.level⟩ from rfl]
        have z2 := z.moveNote (n := ⟨r.2.id, r.2.voice, t, r.2.len, r.2.step, r.2.level⟩) hj hdn
        refine k.put e ⟨dx, a, _, ?_, ⟨dxs, lv, ll, ln, vp, lp, np.set j (r.1, ⟨r.2.id, r.2.voice, t, r.2.len, r.2.step, r.2.level⟩), z2, rfl⟩, rfl⟩ (fun b o e2 n => ?_) (fun b hb => ?_) fun l hl => upd_free hl
        · rw [upd_ne (ne_len h1 hdn (by show 2 ≠ 6; decide))]; exact h1
        · rw [upd_ne (fun q => n (by rw [q]; simp only [List.mem_cons, List.mem_append]; exact .inr (.inr (.inr (.inr (.inr (.inr (List.mem_map_of_mem rm))))))))]; exact e2
        · rw [List.map_set, set_self (by rw [List.getElem?_map, hj]; rfl)] at hb
          exact .inl hb
      · refine ⟨_, rfl, rfl, tst (fun c => iteT (k.ret hp ?_ (Same.refl H))) fun c => absurd rfl c⟩
        show (if TIME ≤ t then _ else if (st.score.notes.any fun n => n.id == i) = false then _ else _) = _
        rw [if_neg nt, if_pos]
        refine List.any_eq_false.mpr fun n hn => ?_
        rw [← z.ne] at hn
        obtain ⟨y, hy, rfl⟩ := List.mem_map.mp hn
        have := hno y hy
        simp [this]
theorem ok_answer_load (T : Txt K mg A) : FnOk P w K mg base CX0 6 A.f_answer_load A.d_answer_load ["player", "numbers"] (sp_ans A 16) := by
  refine T.answer_load.fn.ok sc_answer_load (fun vs H Q E h => ?_) (fun cdv A' outer s H vs Q E hr h => ?_)
  · obtain ⟨p, nl, ns, st, F, x, rfl, _⟩ := h; rfl
  · obtain ⟨p, nl, ns, st, F, x, rfl, hp, so, hn, hc, hb, hlen, k⟩ := h
    obtain ⟨l, rfl, rfl⟩ := call16 hc
    obtain ⟨dx, a, G, h1, ⟨dxs, lv, ll, ln, vp, lp, np, z, rfl⟩, rfl⟩ := id hp
    have hx : ScX A H a st.score np := ⟨dxs, lv, ll, ln, vp, lp, z⟩
    have ok := so.sc
    refine ⟨_, (pss_cons (ps_try rfl rfl rfl T.x_m T.x_in (fun _ _ _ th => (pss_one (ps_fldK K rfl (pv 0) (pcall T.score_of (ok_score_of T) (hr.mono (by decide)) th.pass (pa_cons (pe_slice (sl_listK K rfl) (pv 1) (po_some pe_int) po_none) pa_nil)) rfl))) (fun _ => (pss_one (ps_ret (pe_lst (pa_cons (pe_gi rfl T.c_NO_ROW) pa_nil))))))
  (pss_one (ps_ret (pe_lst (pa_cons (pe_callB call_len_seq (by rfl) T.b_len PySem.boot_len (pa_cons (pe_fld (pe_fld (pv 0) rfl) rfl) pa_nil)) pa_nil))))), ?_⟩
    have ec : cutV (nv (l.length :: l)) (some 1) none = nv l := cut_from (ns := l.length :: l) (k := 1) (by show 1 ≤ l.length + 1; omega)
    refine ⟨_, rfl, _, rfl, nl, _, rfl, SqL.of hn, fun q hq => ?_⟩
    rw [ec]
    have sq : Same H (upd H q (.lst (nv l))) := Same.new hq
    refine ⟨q, l, rfl, upd_same, fun no e H2 s2 σ' => ?_, fun u hin sok b H2 G sc fr s2' => ?_⟩
    · refine k.ret hp ?_ (sq.trans s2)
      show (match scoreIn l with | none => _ | some x => _) = _
      rw [no]
    · have s2 : Same H H2 := sq.trans s2'
      have e : step st (.load l) = (⟨u, st.place⟩, says (u.notes.length : Nat)) := by
        show (match scoreIn l with | none => _ | some x => _) = _
        rw [hin]
      obtain ⟨dx2, lv2, ll2, ln2, vp2, lp2, np2, z2, rfl⟩ := sc
      have h2 := s2 _ _ h1
      refine ⟨_, rfl, p, _, dx, _, rfl, h2, T.Player.cl, T.Player.no "score" (by decide), by show 2 < 1000; decide, ?_⟩
      rw [show putF ("score" : Str) (V.ref b) (playerF a st.place) = playerF b st.place from rfl]
      have z3 : Sc A (upd H2 p (.ins A.c_Player dx (playerF b st.place))) b u dx2 lv2 ll2 ln2 vp2 lp2 np2 := z2.x updX h2 rfl
      have nle : np2.length = u.notes.length := by rw [← z2.ne, List.length_map]
      refine ⟨_, rfl, p_score T upd_same (s_notes T z3.ob ⟨ln2, _, rfl, .inl (SqL.of z3.hn), ?_⟩)⟩
      rw [List.length_map, nle]
      refine k.put e ⟨dx, b, _, upd_same, ⟨dx2, lv2, ll2, ln2, vp2, lp2, np2, z3, rfl⟩, rfl⟩ (fun c o e2 n => ?_) (fun c hc => ?_) fun l hl => s2.free (upd_free hl)
      · rw [upd_ne (fun q => n (by rw [q]; exact List.mem_cons_self))]; exact s2 _ _ e2
      · rcases List.mem_cons.mp hc with q | hc
        · rw [q]; exact .inl List.mem_cons_self
        · exact .inr (sq.free (fr c hc))
end
end Sb
end
section
set_option Elab.async false
set_option linter.all false
set_option maxRecDepth 100000
set_option maxHeartbeats 4000000
namespace Sb
open PySem PySem.Spec PyProof.Rows L2 ScoreNs Mu
open ScoreNeutral (shown)
theorem in_rows : ∀ {p : Nat}, p < 17 → inV (iv p) [.int 1, .int 16] = decide (p = 1 ∨ p = 16)
  | 0, _ => by decide
  | 1, _ => by decide
  | 2, _ => by decide
  | 3, _ => by decide
  | 4, _ => by decide
  | 5, _ => by decide
  | 6, _ => by decide
  | 7, _ => by decide
  | 8, _ => by decide
  | 9, _ => by decide
  | 10, _ => by decide
  | 11, _ => by decide
  | 12, _ => by decide
  | 13, _ => by decide
  | 14, _ => by decide
  | 15, _ => by decide
  | 16, _ => by decide
  | p + 17, h => absurd h (by omega)
theorem plain_at {p : Nat} (h : p < 17) : (nv [6, 1, 5, 1, 2, 2, 2, 1, 1, 3, 2, 1, 1, 2, 0, 0, 0])[p]? = some (iv (plain p)) := by
  refine at_nv ?_
  unfold Mu.plain
  rw [List.getD_eq_getElem?_getD, List.getElem?_eq_getElem h]
  rfl
section
variable {P : Program} {w : World} {K : PySem.W.Frag} {mg : Str → Option Value} {base : Heap} {A : Adr}
def sp_call_end (K : PySem.W.Frag) : Sp := fun vs H Q _ => ∃ (c : Addr) (zs : List Nat) (b p : Nat) (ns t : List Nat), vs = [.ref c, iv b] ∧ SqL K H c (nv zs) ∧ zs.drop b = p :: (ns ++ t) ∧ p < 17 ∧ (if p = 1 ∨ p = 16 then ∃ n, ns[plain p]? = some n ∧ ns.length = plain p + 1 + n else ns.length = plain p) ∧ Q (iv (b + 1 + ns.length)) H
theorem at_drop {zs q : List Nat} {b p i n : Nat} (h : zs.drop b = p :: q) (hi : q[i]? = some n) : zs[b + 1 + i]? = some n := by
  have e : (zs.drop b)[i + 1]? = some n := by rw [h]; exact hi
  rw [List.getElem?_drop] at e
  rw [show b + 1 + i = b + (i + 1) by omega]; exact e
theorem at_first {zs q : List Nat} {b p : Nat} (h : zs.drop b = p :: q) : zs[b]? = some p := by
  have e : (zs.drop b)[0]? = some p := by rw [h]; rfl
  rw [List.getElem?_drop] at e; exact e
theorem ok_call_end (T : Txt K mg A) : FnOk P w K mg base CX0 1 A.f_call_end A.d_call_end ["calls", "begin"] (sp_call_end K) := by
  refine T.call_end.fn.ok sc_call_end (fun vs H Q E h => ?_) (fun cdv A' outer s H vs Q E hr h => ?_)
  · obtain ⟨c, zs, b, p, ns, t, rfl, _⟩ := h; rfl
  · obtain ⟨c, zs, b, p, ns, t, rfl, hc, hd, hp, hl, k⟩ := h
    refine ⟨_, (pss_cons (ps_set (i := 2) sc_call_end.nd rfl (Or.inl rfl) (pe_op op_add (pe_op op_add (pv 1) pe_int) (pe_ix ix_tup (pe_gr rfl T.t_PLAIN_NUMBERS) (pe_ix ix_list (pv 0) (pv 1) (fun _ _ => rfl)) (fun _ _ => rfl))))
  (pss_cons (ps_if (pt_cmpR op_in_seq (pe_ix ix_list (pv 0) (pv 1) (fun _ _ => rfl)) (pe_gr rfl T.t_CALLS_WITH_ROW) (by with_unfolding_all rfl))
  (pss_one (ps_ret (pe_op op_add (pe_op op_add (pv 2) pe_int) (pe_ix ix_list (pv 0) (pv 2) (fun _ _ => rfl)))))
  pss_nil)
  (pss_one (ps_ret (pv 2))))), ?_⟩
    have h0 := atI_nat (at_nv (at_first hd))
    refine ⟨_, rfl, _, _, rfl, rfl, _, rfl, _, rfl, c, _, _, _, rfl, rfl, hc, h0, A.t_PLAIN_NUMBERS, _, _, _, rfl, rfl, T.q_PLAIN_NUMBERS H, atI_nat (plain_at hp), _, _, rfl, rfl, ?_⟩
    refine ⟨_, rfl, _, rfl, c, _, _, _, rfl, rfl, hc, h0, A.t_CALLS_WITH_ROW, _, rfl, .inr (T.q_CALLS_WITH_ROW H), rfl, rfl, ?_⟩
    show ∃ k, V.bl (inV (iv p) [.int 1, .int 16]) = V.bl k ∧ _
    rw [in_rows hp]
    refine tst (fun z => iteT ?_) fun z => iteF ?_
    · rw [if_pos z] at hl
      obtain ⟨n, hn, hl⟩ := hl
      have hn2 : (ns ++ t)[plain p]? = some n := by rw [List.getElem?_append_left (by omega)]; exact hn
      refine ⟨_, rfl, _, _, rfl, rfl, _, rfl, _, rfl, c, _, _, _, rfl, rfl, hc, atI_nv (j := b + 1 + plain p) rfl (at_drop hd hn2), _, _, rfl, rfl, ?_⟩
      rw [hl] at k
      have e : b + 1 + (plain p + 1 + n) = b + 1 + plain p + 1 + n := by omega
      rw [e] at k
      exact k
    · rw [if_neg z] at hl
      rw [hl] at k
      exact ⟨_, rfl, k⟩
/-! ### the calls -/
def Calls (K : PySem.W.Frag) (H : Hp) (F : List Addr) (c : Addr) (xs : List V) : Prop := (∀ H2, SqL K H2 c xs) ∨ ∃ o, H c = some o ∧ (∀ H2 : Hp, H2 c = some o → SqL K H2 c xs) ∧ c ∉ F
theorem Calls.sq {H : Hp} {F : List Addr} {c : Addr} {xs : List V} (h : Calls K H F c xs) : SqL K H c xs := by
  rcases h with h | ⟨o, h1, h2, _⟩
  · exact h H
  · exact h2 H h1
theorem Calls.step {H H' : Hp} {F F' : List Addr} {c : Addr} {xs : List V} (h : Calls K H F c xs) (fr : ∀ b o, H b = some o → b ∉ F → H' b = some o) (sub : ∀ b ∈ F', b ∈ F ∨ H b = none) : Calls K H' F' c xs := by
  rcases h with h | ⟨o, h1, h2, h3⟩
  · exact .inl h
  · refine .inr ⟨o, fr c o h1 h3, h2, fun m => ?_⟩
    rcases sub c m with q | q
    · exact h3 q
    · rw [h1] at q; cases q
theorem Calls.start {H : Hp} {c : Addr} {xs : List V} (h : SqL K H c xs) : Calls K H [] c xs := by
  rcases h with (h | ⟨o, h⟩) | h
  · exact .inr ⟨_, h, fun H2 e => .inl (.inl e), by simp⟩
  · exact .inr ⟨_, h, fun H2 e => .inl (.inr ⟨o, e⟩), by simp⟩
  · exact .inl fun H2 => .inr h
theorem PlayerAt.d {H H' : Hp} {p g : Addr} {st : State} {F : List Addr} {xs : List V} (h : PlayerAt A H p st F) (sx : SameX g H H') (hg : H g = some (.lst xs)) (n : g ∉ F) : PlayerAt A H' p st F := by
  obtain ⟨dx, a, G, h1, ⟨dxs, lv, ll, ln, vp, lp, np, z, rfl⟩, rfl⟩ := h
  simp only [List.mem_cons, List.mem_append, not_or] at n
  obtain ⟨n1, n2, n3, n4, n5, n6, n7⟩ := n
  have nl : ∀ p ∈ lp, p.1 ≠ g := fun p hp e => n6 (by rw [← e]; exact List.mem_map_of_mem hp)
  exact ⟨dx, a, _, sx _ _ (fun e => n1 e.symm) h1, ⟨dxs, lv, ll, ln, vp, lp, np, ⟨sx _ _ (fun e => n2 e.symm) z.ob, sx _ _ (fun e => n3 e.symm) z.hv, fun p hp => (z.vs p hp).d sx hg, z.ve, sx _ _ (fun e => n4 e.symm) z.hl, fun p hp => (z.ls p hp).d sx hg (nl p hp), z.le, sx _ _ (fun e => n5 e.symm) z.hn, fun p hp => (z.ns p hp).d sx hg, z.ne, z.d1, z.d2, z.d3, z.d4, z.nd⟩, rfl⟩, rfl⟩
theorem answerer (T : Txt K mg A) : ∀ {p : Nat}, p < 17 → ∃ f fd k, ([V.ref A.f_answer_voice, V.ref A.f_answer_line, V.ref A.f_answer_note, V.ref A.f_answer_drop, V.ref A.f_answer_move, V.ref A.f_answer_render, V.ref A.f_answer_raw, V.ref A.f_answer_sounds, V.ref A.f_answer_next, V.ref A.f_answer_loud, V.ref A.f_answer_line_at, V.ref A.f_answer_seek, V.ref A.f_answer_play, V.ref A.f_answer_peak, V.ref A.f_answer_notes, V.ref A.f_answer_save, V.ref A.f_answer_load] : List V)[p]? = some (.ref f) ∧ PySem.W.keepIn K (.ref f) = true ∧ k ≤ 8 ∧ FnOk P w K mg base CX0 k f fd ["player", "numbers"] (sp_ans A p) ∧ Binds K fd ["player", "numbers"] []
  | 0, _ => ⟨_, _, 3, rfl, T.answer_voice.fn.kp, by decide, ok_answer_voice T, T.answer_voice.b⟩
  | 1, _ => ⟨_, _, 3, rfl, T.answer_line.fn.kp, by decide, ok_answer_line T, T.answer_line.b⟩
  | 2, _ => ⟨_, _, 3, rfl, T.answer_note.fn.kp, by decide, ok_answer_note T, T.answer_note.b⟩
  | 3, _ => ⟨_, _, 2, rfl, T.answer_drop.fn.kp, by decide, ok_answer_drop T, T.answer_drop.b⟩
  | 4, _ => ⟨_, _, 2, rfl, T.answer_move.fn.kp, by decide, ok_answer_move T, T.answer_move.b⟩
  | 5, _ => ⟨_, _, 7, rfl, T.answer_render.fn.kp, by decide, ok_answer_render T, T.answer_render.b⟩
  | 6, _ => ⟨_, _, 6, rfl, T.answer_raw.fn.kp, by decide, ok_answer_raw T, T.answer_raw.b⟩
  | 7, _ => ⟨_, _, 4, rfl, T.answer_sounds.fn.kp, by decide, ok_answer_sounds T, T.answer_sounds.b⟩
  | 8, _ => ⟨_, _, 3, rfl, T.answer_next.fn.kp, by decide, ok_answer_next T, T.answer_next.b⟩
  | 9, _ => ⟨_, _, 3, rfl, T.answer_loud.fn.kp, by decide, ok_answer_loud T, T.answer_loud.b⟩
  | 10, _ => ⟨_, _, 3, rfl, T.answer_line_at.fn.kp, by decide, ok_answer_line_at T, T.answer_line_at.b⟩
  | 11, _ => ⟨_, _, 1, rfl, T.answer_seek.fn.kp, by decide, ok_answer_seek T, T.answer_seek.b⟩
  | 12, _ => ⟨_, _, 7, rfl, T.answer_play.fn.kp, by decide, ok_answer_play T, T.answer_play.b⟩
  | 13, _ => ⟨_, _, 8, rfl, T.answer_peak.fn.kp, by decide, ok_answer_peak T, T.answer_peak.b⟩
  | 14, _ => ⟨_, _, 2, rfl, T.answer_notes.fn.kp, by decide, ok_answer_notes T, T.answer_notes.b⟩
  | 15, _ => ⟨_, _, 3, rfl, T.answer_save.fn.kp, by decide, ok_answer_save T, T.answer_save.b⟩
  | 16, _ => ⟨_, _, 6, rfl, T.answer_load.fn.kp, by decide, ok_answer_load T, T.answer_load.b⟩
  | p + 17, h => absurd h (by omega)
theorem cast_inj : ∀ {a b : List Nat}, a.map (fun (n : Nat) => (n : Int)) = b.map (fun (n : Nat) => (n : Int)) → a = b
  | [], [], _ => rfl
  | [], _ :: _, h => by cases h
  | _ :: _, [], h => by cases h
  | x :: a, y :: b, h => by
    have h1 := List.cons.inj h
    rw [cast_inj h1.2, show x = y from Int.ofNat.inj h1.1]
theorem put_cons (c : List (List Int)) (cs : List (List (List Int))) : PyFlat.put (c :: cs) = PyFlat.put1 c ++ PyFlat.put cs := rfl
def sp_answers (K : PySem.W.Frag) : Sp := fun vs H Q _ => ∃ (c : Addr) (l : List Int), vs = [.ref c] ∧ SqL K H c (l.map .int) ∧ l.length ≤ 16000 ∧ PyWrswav.answers_asked l = true ∧ ∀ D H', H' D = some (.lst ((PyWrswav.answers l).map .int)) → Q (.ref D) H'
theorem put_nats : ∀ {cs : List (List (List Int))}, (∀ c ∈ cs, ∃ p ns x, Told c p ns x) → ∃ zs : List Nat, PyFlat.put cs = zs.map fun (n : Nat) => (n : Int)
  | [], _ => ⟨[], rfl⟩
  | c :: cs, h => by
    obtain ⟨p, ns, x, t⟩ := h c List.mem_cons_self
    obtain ⟨zs, e⟩ := put_nats fun d hd => h d (List.mem_cons_of_mem _ hd)
    refine ⟨(p :: ns) ++ zs, ?_⟩
    rw [put_cons, t.put, e, List.map_append]; rfl
theorem ok_answers (T : Txt K mg A) : FnOk P w K mg base CX0 9 A.f_answers A.d_answers ["calls"] (sp_answers K) := by
  refine T.answers.fn.ok sc_answers (fun vs H Q E h => ?_) (fun cdv A' outer s H vs Q E hr h => ?_)
  · obtain ⟨c, l, rfl, _⟩ := h; rfl
  · obtain ⟨c, l, rfl, hc, hlen, hask, k⟩ := h
    refine ⟨_, (pss_cons (ps_set (i := 1) sc_answers.nd rfl (Or.inl rfl) (pmake0 T.Player (ok_Player T) (hr.mono (by decide)) pass0))
  (pss_cons (ps_set (i := 2) sc_answers.nd rfl (Or.inl rfl) (pe_lst pa_nil))
  (pss_cons (ps_set (i := 3) sc_answers.nd rfl (Or.inl rfl) pe_int)
  (pss_cons (ps_while PassesOwn.never (pt_cmpR op_lt (pv 3) (pe_callB call_len_seq (by rfl) T.b_len PySem.boot_len (pa_cons (pv 0) pa_nil)) (nomark _))
  (pss_cons (ps_set (i := 4) sc_answers.nd rfl (Or.inl rfl) (pcall T.call_end (ok_call_end T) (hr.mono (by decide)) pass0 (pa_cons (pv 0) (pa_cons (pv 3) pa_nil))))
  (pss_cons (ps_set (i := 5) sc_answers.nd rfl (Or.inl rfl) (pe_callV (pe_ix ix_tup (pe_gr rfl T.t_ANSWERERS) (pe_ix ix_list (pv 0) (pv 3) (fun _ _ => rfl)) (fun _ _ => rfl)) (pa_cons (pv 1) (pa_cons (pe_slice sl_list (pv 0) (po_some (pe_op op_add (pv 3) pe_int)) (po_some (pv 4))) pa_nil))))
  (pss_cons (ps_expr (pe_bm PySem.F.plainAttrs_list PySem.F.slot_list_append PySem.F.type_list_append mt_append (pv 2) (pa_cons (pe_callB call_len_seq (by rfl) T.b_len PySem.boot_len (pa_cons (pv 5) pa_nil)) pa_nil)))
  (pss_cons (ps_expr (pe_bm PySem.F.plainAttrs_list PySem.F.slot_list_extend PySem.F.type_list_extend mt_extend (pv 2) (pa_cons (pv 5) pa_nil)))
  (pss_one (ps_set (i := 3) sc_answers.nd rfl (Or.inl rfl) (pv 4))))))))
  (pss_one (ps_ret (pv 2))))))), ?_⟩
    obtain ⟨cs, hl, hcs, htold, hans⟩ := answers_of hask hlen
    obtain ⟨zs, hz⟩ := put_nats htold
    rw [← hl] at hz
    rw [hz, ← nv_int] at hc
    have zl : zs.length ≤ 16000 := by rw [hz, List.length_map] at hlen; exact hlen
    rw [hans] at k
    -- the player
    refine fun pl dp np ndp nep => ⟨pl, dp, rfl, upd_same, fun H1 F1 pa1 fr1 kp1 => ⟨rfl, ?_⟩⟩
    have s1 : Same H H1 := same_made' np ndp kp1
    have f1 : ∀ b ∈ F1, H b = none := fun b hb => by
      rcases fr1 b hb with q | q
      · rw [q]; exact np
      · exact upd_free (upd_free q)
    have cl1 : Calls K H1 F1 c (nv zs) := (Calls.start hc).step (fun b o e _ => s1 b o e) fun b hb => .inr (f1 b hb)
    refine ⟨Nat.zero_le _, fun g hg => ?_⟩
    have cl2 : Calls K (upd H1 g (.lst [])) (g :: F1) c (nv zs) := cl1.step (fun b o e _ => (Same.new hg) b o e) fun b hb => by
      rcases List.mem_cons.mp hb with q | q
      · rw [q]; exact .inr hg
      · exact .inl q
    have pa2 : PlayerAt A (upd H1 g (.lst [])) pl ScoreNs.start F1 := pa1.same (Same.new hg)
    have ng : g ∉ F1 := fun m => by
      obtain ⟨dx, a, G, h1, ⟨dxs, lv, ll, ln, vp, lp, np', z, rfl⟩, rfl⟩ := pa1
      simp only [List.mem_cons, List.mem_append] at m
      rcases m with q | q | q | q | q | q | q
      · rw [q, h1] at hg; cases hg
      · rw [q, z.ob] at hg; cases hg
      · rw [q, z.hv] at hg; cases hg
      · rw [q, z.hl] at hg; cases hg
      · rw [q, z.hn] at hg; cases hg
      · obtain ⟨r, hr, rfl⟩ := List.mem_map.mp q
        obtain ⟨qs, e, _⟩ := z.ls r hr
        rw [e] at hg; cases hg
      · obtain ⟨r, hr, rfl⟩ := List.mem_map.mp q
        obtain ⟨d, e⟩ := z.ns r hr
        rw [e] at hg; cases hg
    have hg2 : (upd H1 g (.lst [])) g = some (.lst (([] : List Int).map V.int)) := upd_same
    generalize upd H1 g (.lst []) = H2 at cl2 pa2 hg2 ⊢
    -- the loop
    refine ⟨fun m σ H' => ∃ (b : Nat) (v4 v5 : Option V) (st : State) (F : List Addr) (todo : List (List (List Int))) (out : List Int), m = todo.length ∧ σ = [some (.ref c), some (.ref pl), some (.ref g), some (iv b), v4, v5] ∧ PlayerAt A H' pl st F ∧ StOk st ∧ Calls K H' (g :: F) c (nv zs) ∧ H' g = some (.lst (out.map V.int)) ∧ g ∉ F ∧
      b ≤ zs.length ∧ (zs.drop b).map (fun (n : Nat) => (n : Int)) = PyFlat.put todo ∧ (∀ c ∈ todo, ∃ p ns x, Told c p ns x) ∧ toldFrom ScoreNs.start cs = out ++ toldFrom st todo ∧ out.length + 1001 * todo.length ≤ 1001000,
      ⟨cs.length, 0, none, none, ScoreNs.start, F1, cs, [], rfl, rfl, pa2, start_ok, cl2, hg2, ng, Nat.zero_le _, ?_, htold, rfl, ?_⟩, ?_⟩
    · rw [List.drop_zero, ← hz, hl]
    · show 0 + 1001 * cs.length ≤ _
      omega
    rintro m σ H' ⟨b, v4, v5, st, F, todo, out, rfl, rfl, pa, so, cl, hg', ngF, hb, hd, ht, htl, hol⟩
    refine ⟨_, rfl, _, rfl, c, _, rfl, .inl cl.sq, _, _, rfl, rfl, tst (fun q => iteT ?_) fun q => iteF ?_⟩
    · rw [List.length_map] at q
      cases todo with
      | nil =>
        have e := congrArg List.length hd
        rw [List.length_map, List.length_drop] at e
        have e : zs.length - b = 0 := e
        omega
      | cons d todo =>
        obtain ⟨p, ns, x, t⟩ := ht d List.mem_cons_self
        rw [put_cons, t.put] at hd
        obtain ⟨z1, z2, e1, e2, e3⟩ := List.map_eq_append_iff.mp hd
        have e2 : z1 = p :: ns := cast_inj (b := p :: ns) e2
        subst e2
        have hd0 : zs.drop b = p :: (ns ++ z2) := e1
        have hlb : b + 1 + ns.length ≤ zs.length := by
          have e := congrArg List.length hd0
          rw [List.length_drop, List.length_cons, List.length_append] at e
          omega
        refine ⟨_, fun σ' H' z => z, ?_⟩
        refine ⟨_, rfl, _, rfl, c, zs, b, p, ns, z2, rfl, cl.sq, hd0, t.lt, t.len, ?_⟩
        obtain ⟨f, fd, kk, hf, hkeep, hk8, hok, hbind⟩ := answerer (P := P) (w := w) (base := base) T t.lt
        refine ⟨_, rfl, _, rfl, c, _, _, _, rfl, rfl, cl.sq, atI_nat (at_nv (at_first hd0)), A.t_ANSWERERS, _, _, _, rfl, rfl, T.q_ANSWERERS H', atI_nat hf, f, rfl, hkeep, _, rfl, _, rfl, _, rfl, _, _, rfl, rfl, _, rfl, _, rfl, _, rfl, c, _, rfl, cl.sq, fun nl hnl => ?_⟩
        have ec : cutV (nv zs) (some ((b : Int) + 1)) (some ((b + 1 + ns.length : Nat) : Int)) = nv ns := by
          have := cut_part (ns := zs) (b := b + 1) (e := b + 1 + ns.length) (by omega) hlb
          rw [show b + 1 + ns.length - (b + 1) = ns.length by omega, ← List.drop_drop, hd0] at this
          have e9 : List.take ns.length (List.drop 1 (p :: (ns ++ z2))) = ns := by
            show List.take ns.length (ns ++ z2) = ns
            rw [List.take_left]
          rw [e9] at this
          exact this
        rw [ec]
        refine ⟨kk, fd, _, _, hok, hr.mono hk8, hbind, pl, nl, ns, st, F, x, rfl, pa.same (Same.new hnl), so, upd_same, t.call, t.big, by omega, fun H3 la F3 pa3 hla fr3 sub3 nla => ?_⟩
        have sl := step_len so x
        have fr : ∀ b o, H' b = some o → b ∉ F → H3 b = some o := fun b o e n => fr3 b o ((Same.new hnl) b o e) n
        have sub : ∀ b ∈ F3, b ∈ F ∨ H' b = none := fun b hb => (sub3 b hb).imp id fun e => upd_free e
        have hg3 := fr _ _ hg' ngF
        have ng3 : g ∉ F3 := fun m => by
          rcases sub g m with q | q
          · exact ngF q
          · rw [hg'] at q; cases q
        have lg : la ≠ g := fun z => by rw [z, (Same.new hnl) _ _ hg'] at nla; cases nla
        -- append, extend
        refine ⟨_, rfl, .inl ⟨rfl, _, SqL.of hg3⟩, _, rfl, la, _, rfl, .inl (SqL.of hla), g, _, _, rfl, rfl, hg3, ?_, ?_⟩
        · rw [List.length_map]
          exact Nat.lt_of_le_of_lt (show out.length ≤ 1001000 by omega) (by decide)
        refine ⟨_, rfl, .inl ⟨rfl, _, SqL.of upd_same⟩, _, rfl, g, la, _, _, rfl, rfl, upd_same, (by rw [upd_ne lg]; exact hla), ?_, _, rfl, ?_⟩
        · rw [List.length_append, List.length_map, List.length_map]
          refine Nat.le_of_lt (Nat.lt_of_le_of_lt (show _ ≤ 1001000 from ?_) (by decide))
          show out.length + 1 + _ ≤ _
          rw [List.length_cons] at hol
          omega
        rw [List.length_map]
        generalize hsh : shown (step st x).2 = sh at hla sl ⊢
        have eo : out.map V.int ++ [V.int (sh.length : Nat)] ++ sh.map V.int = (out ++ (sh.length : Int) :: sh).map V.int := by rw [List.map_append, List.append_assoc]; rfl
        rw [eo]
        refine ⟨todo.length, by show todo.length < todo.length + 1; omega, b + 1 + ns.length, _, _, (step st x).1, F3, todo, out ++ (sh.length : Int) :: sh, rfl, rfl, (pa3.d updX hg3 ng3).d updX upd_same ng3, step_ok so x, cl.step (fun b o e n => ?_) (fun b hb => ?_), upd_same, ng3, hlb, ?_, fun c hc => ht c (List.mem_cons_of_mem _ hc), ?_, ?_⟩
        · have n1 : b ≠ g := fun z => n (by rw [z]; exact List.mem_cons_self)
          rw [upd_ne n1, upd_ne n1]
          exact fr b o e fun m => n (List.mem_cons_of_mem _ m)
        · rcases List.mem_cons.mp hb with q | q
          · exact .inl (by rw [q]; exact List.mem_cons_self)
          · exact (sub b q).imp (fun m => List.mem_cons_of_mem _ m) id
        · rw [show b + 1 + ns.length = b + (1 + ns.length) by omega, ← List.drop_drop, hd0, ← e3]
          congr 1
          rw [show 1 + ns.length = ns.length + 1 by omega]
          show List.drop ns.length (ns ++ z2) = z2
          rw [List.drop_left]
        · rw [htl, toldFrom_cons todo t.of, hsh, List.append_assoc]
        · rw [List.length_append, List.length_cons]
          rw [List.length_cons] at hol
          omega
    · rw [List.length_map] at q
      have e0 : zs.drop b = [] := List.drop_eq_nil_of_le (by omega)
      rw [e0] at hd
      cases todo with
      | cons d todo =>
        obtain ⟨p, ns, x, t⟩ := ht d List.mem_cons_self
        rw [put_cons, t.put] at hd
        cases hd
      | nil =>
        rw [toldFrom_nil, List.append_nil] at htl
        exact ⟨_, rfl, k g H' (by rw [htl]; exact hg')⟩
end
end Sb
end
section
set_option Elab.async false
set_option linter.all false
set_option maxRecDepth 100000
set_option maxHeartbeats 4000000
namespace Sb
open PySem PySem.Spec PyProof.Rows L2 ScoreNs Mu
section
variable {K : PySem.W.Frag} {mg : Str → Option Value} {h : Heap}
theorem fn_look {f : Addr} {d : FuncData} (e : Hd.fnAt K f = some d) : ∃ oc od sl, K.lookup f = some ⟨oc, od, .func d, sl⟩ := by
  obtain ⟨o, a, b⟩ := Option.bind_eq_some_iff.mp e
  obtain ⟨oc, od, dt, sl⟩ := o
  cases dt <;> first | (cases b; exact ⟨_, _, _, a⟩) | cases b
theorem fn_shape {x q : Str} {st : Stmt} {d : FuncData} (e : some (Hd.obsFn d) = Hd.shape x q st) : d = PySem.W.fnOf x q (defArgs st) (defBody st) (defScope st) .none d.kwdefaults d.doc d.pyModule d.annotations d.code d.closureTuple := by
  cases st <;> first | cases e | skip
  obtain ⟨⟩ := d
  simp only [Hd.shape, Hd.obsFn, Option.some.injEq, Prod.mk.injEq] at e
  obtain ⟨rfl, rfl, rfl, rfl, rfl, rfl, rfl, rfl, rfl⟩ := e
  rfl
theorem fn_all {x q : Str} {st : Stmt} {f : Addr} (e : (Hd.fnAt K f).map Hd.obsFn = Hd.shape x q st) (c : ((Hd.fnAt K f).map fun d => PySem.W.codeIn K d.code q) = some true) (k : PySem.W.keepIn K (.ref f) = true) : Fun K x q st f ((Hd.fnAt K f).getD default) := by
  cases g : Hd.fnAt K f with
  | none => rw [g] at c; cases c
  | some d =>
    rw [g] at e c
    obtain ⟨oc, od, sl, l⟩ := fn_look g
    have z := fn_shape e
    have c' : PySem.W.codeIn K d.code q = true := Option.some.inj c
    exact ⟨⟨oc, od, _, _, _, _, d.code, _, sl, z, l, c'⟩, k⟩
theorem def_of {x : Str} {i : Nat} {f : Addr} {ps : List Str} (X : K.In h) (G : h.Ns mainGlobals mg) (e : Hd.obsD K (x, i, f) = Hd.goodD (x, i, f))
    (hb : ∀ (kV doc pm : Value) (an : Option Addr) (cdv ct : Value) (us : List Value), us.length = ps.length → bindArgs (PySem.W.fnOf x x (defArgs (top i)) (defBody (top i)) (defScope (top i)) .none kV doc pm an cdv ct) ⟨us, []⟩ = pure (ps.zip us)) :
    Def K mg x x (top i) f ((Hd.fnAt K f).getD default) ps := by
  simp only [Hd.obsD, Hd.goodD, Prod.mk.injEq] at e
  obtain ⟨a, b, c, d⟩ := e
  have F := fn_all (st := top i) b c d
  exact ⟨F, PySem.W.mg_of X G a, F.binds hb⟩
theorem cla_of {x q : Str} {i : Nat} {C f : Addr} {ps flds : List Str} (X : K.In h) (G : h.Ns mainGlobals mg) (e : Hd.obsC K (x, q, i, C, f, flds) = Hd.goodC (x, q, i, C, f, flds))
    (hb : ∀ (kV doc pm : Value) (an : Option Addr) (cdv ct : Value) (us : List Value), us.length = ps.length → bindArgs (PySem.W.fnOf "__init__" q (defArgs (inClass (top i) 0)) (defBody (inClass (top i) 0)) (defScope (inClass (top i) 0)) .none kV doc pm an cdv ct) ⟨us, []⟩ = pure (ps.zip us)) :
    Cla K mg x q (inClass (top i) 0) C f ((Hd.fnAt K f).getD default) ps flds := by
  simp only [Hd.obsC, Hd.goodC, Prod.mk.injEq, Bool.and_eq_true] at e
  obtain ⟨⟨a, n, s⟩, b, c, ⟨⟨⟨⟨⟨⟨k1, k2⟩, k3⟩, k4⟩, k5⟩, k6⟩, k7⟩, l⟩ := e
  have F := fn_all (st := inClass (top i) 0) b c k2
  refine ⟨F, F.binds hb, PySem.W.mg_of X G a, ⟨k6, n, k1, k7⟩, ⟨k3, k4, k5, s⟩, fun y hy => ?_⟩
  exact List.map_inj_left.mp l y hy
theorem bare_int {v : Value} {i : Int} (e : Hd.bare v = .int i 0) : ∃ t, v = .int i t := by
  cases v <;> first | (cases e; exact ⟨_, rfl⟩) | cases e
theorem bare_ref {v : Value} {a : Addr} (e : Hd.bare v = .ref a) : v = .ref a := by
  cases v <;> first | (cases e; rfl) | cases e
theorem int_of {x : Str} {i : Int} (X : K.In h) (G : h.Ns mainGlobals mg) (e : Hd.obsI K (x, i) = Hd.goodI (x, i)) : ∃ t, mg x = some (.int i t) := by
  obtain ⟨v, a, b⟩ := Option.map_eq_some_iff.mp e
  obtain ⟨u, rfl, c⟩ := Option.map_eq_some_iff.mp b
  obtain ⟨t, rfl⟩ := bare_int c
  exact ⟨t, PySem.W.mg_of X G a⟩
def asWord : V → Value
  | .int i => .int i 0
  | .ref a => .ref a
  | _ => .none
def plainV : V → Bool
  | .int _ | .ref _ => true
  | _ => false
theorem words_of : ∀ {xs : List V} {its : List Value}, its.map Hd.bare = xs.map asWord → xs.all plainV = true → Vals xs its
  | [], [], _, _ => .nil
  | [], _ :: _, e, _ => by cases e
  | _ :: _, [], e, _ => by cases e
  | x :: xs, u :: us, e, k => by
    simp only [List.map_cons, List.cons.injEq, List.all_cons, Bool.and_eq_true] at e k
    refine .cons ?_ (words_of e.2 k.2)
    cases x <;> first | exact bare_int e.1 | exact bare_ref e.1 | cases k.1
theorem tup_of {x : Str} {t : Addr} {xs : List V} {ws : List Value} (X : K.In h) (G : h.Ns mainGlobals mg) (e : Hd.obsT K (x, t, ws) = Hd.goodT (x, t, ws)) (hw : ws = xs.map asWord) (hp : xs.all plainV = true) (hz : xs.length ≤ 1000) :
    mg x = some (.ref t) ∧ ∀ H : Hp, SqT K H t xs := by
  simp only [Hd.obsT, Hd.goodT, Prod.mk.injEq] at e
  obtain ⟨a, b⟩ := e
  obtain ⟨o, l, c⟩ := Option.map_eq_some_iff.mp b
  simp only [Prod.mk.injEq] at c
  obtain ⟨c1, c2⟩ := c
  refine ⟨PySem.W.mg_of X G a, fun _ => ?_⟩
  obtain ⟨oc, od, dt, sl⟩ := o
  cases dt with
  | seq its n =>
    have c3 : its.toList.map Hd.bare = xs.map asWord := (Option.some.inj c2).trans hw
    have v := words_of c3 hp
    refine .inr ⟨_, its, n, l, c1, rfl, ?_, v⟩
    have := v.length
    simp only [Array.length_toList] at this
    have q : (1000 : Nat) ≤ sizeLine := by decide
    omega
  | _ => cases c2
end
theorem txt_of {K : PySem.W.Frag} {mg : Str → Option Value} {h : Heap} (X : K.In h) (G : h.Ns mainGlobals mg) (F : Hd.Facts K) : ∃ A, Txt K mg A := by
  have E := And.intro F.d (And.intro F.c (And.intro F.i (And.intro F.t (And.intro F.b (Prod.mk.inj F.x)))))
  have D_none_above := def_of (x := "none_above") (i := 6) (f := 19) (ps := ["numbers", "greatest"]) X G (Hd.mapAt E.1 0 _ (by kernel_rfl)) (fun _ _ _ _ _ _ us hl => match us, hl with | [_, _], _ => rfl)
  have D_points_of := def_of (x := "points_of") (i := 9) (f := 26) (ps := ["numbers"]) X G (Hd.mapAt E.1 1 _ (by kernel_rfl)) (fun _ _ _ _ _ _ us hl => match us, hl with | [_], _ => rfl)
  have D_point_numbers := def_of (x := "point_numbers") (i := 10) (f := 33) (ps := ["points"]) X G (Hd.mapAt E.1 2 _ (by kernel_rfl)) (fun _ _ _ _ _ _ us hl => match us, hl with | [_], _ => rfl)
  have D_points_fit := def_of (x := "points_fit") (i := 11) (f := 40) (ps := ["numbers"]) X G (Hd.mapAt E.1 3 _ (by kernel_rfl)) (fun _ _ _ _ _ _ us hl => match us, hl with | [_], _ => rfl)
  have D_value_between := def_of (x := "value_between") (i := 12) (f := 47) (ps := ["earlier", "later", "t"]) X G (Hd.mapAt E.1 4 _ (by kernel_rfl)) (fun _ _ _ _ _ _ us hl => match us, hl with | [_, _, _], _ => rfl)
  have D_line_value := def_of (x := "line_value") (i := 13) (f := 54) (ps := ["points", "t"]) X G (Hd.mapAt E.1 5 _ (by kernel_rfl)) (fun _ _ _ _ _ _ us hl => match us, hl with | [_, _], _ => rfl)
  have D_Voice := cla_of (x := "Voice") (q := "Voice.__init__") (i := 17) (C := 73) (f := 70) (flds := ["wave", "rise", "fall", "stay", "fade"]) (ps := ["self", "numbers"]) X G (Hd.mapAt E.2.1 0 _ (by kernel_rfl)) (fun _ _ _ _ _ _ us hl => match us, hl with | [_, _], _ => rfl)
  have D_voice_fits := def_of (x := "voice_fits") (i := 18) (f := 84) (ps := ["numbers"]) X G (Hd.mapAt E.1 6 _ (by kernel_rfl)) (fun _ _ _ _ _ _ us hl => match us, hl with | [_], _ => rfl)
  have D_voice_numbers := def_of (x := "voice_numbers") (i := 19) (f := 91) (ps := ["voice"]) X G (Hd.mapAt E.1 7 _ (by kernel_rfl)) (fun _ _ _ _ _ _ us hl => match us, hl with | [_], _ => rfl)
  have D_held := def_of (x := "held") (i := 20) (f := 98) (ps := ["voice", "k"]) X G (Hd.mapAt E.1 8 _ (by kernel_rfl)) (fun _ _ _ _ _ _ us hl => match us, hl with | [_, _], _ => rfl)
  have D_loudness := def_of (x := "loudness") (i := 21) (f := 105) (ps := ["voice", "length", "k"]) X G (Hd.mapAt E.1 9 _ (by kernel_rfl)) (fun _ _ _ _ _ _ us hl => match us, hl with | [_, _, _], _ => rfl)
  have D_saw := def_of (x := "saw") (i := 26) (f := 112) (ps := ["place"]) X G (Hd.mapAt E.1 10 _ (by kernel_rfl)) (fun _ _ _ _ _ _ us hl => match us, hl with | [_], _ => rfl)
  have D_square := def_of (x := "square") (i := 27) (f := 119) (ps := ["place"]) X G (Hd.mapAt E.1 11 _ (by kernel_rfl)) (fun _ _ _ _ _ _ us hl => match us, hl with | [_], _ => rfl)
  have D_triangle := def_of (x := "triangle") (i := 28) (f := 126) (ps := ["place"]) X G (Hd.mapAt E.1 12 _ (by kernel_rfl)) (fun _ _ _ _ _ _ us hl => match us, hl with | [_], _ => rfl)
  have D_arcs := def_of (x := "arcs") (i := 29) (f := 133) (ps := ["place"]) X G (Hd.mapAt E.1 13 _ (by kernel_rfl)) (fun _ _ _ _ _ _ us hl => match us, hl with | [_], _ => rfl)
  have D_wave_value := def_of (x := "wave_value") (i := 31) (f := 141) (ps := ["wave", "place"]) X G (Hd.mapAt E.1 14 _ (by kernel_rfl)) (fun _ _ _ _ _ _ us hl => match us, hl with | [_, _], _ => rfl)
  have D_Note := cla_of (x := "Note") (q := "Note.__init__") (i := 35) (C := 159) (f := 156) (flds := ["number", "voice_number", "at", "length", "step", "level"]) (ps := ["self", "number", "numbers"]) X G (Hd.mapAt E.2.1 1 _ (by kernel_rfl)) (fun _ _ _ _ _ _ us hl => match us, hl with | [_, _, _], _ => rfl)
  have D_note_fits := def_of (x := "note_fits") (i := 36) (f := 170) (ps := ["numbers"]) X G (Hd.mapAt E.1 15 _ (by kernel_rfl)) (fun _ _ _ _ _ _ us hl => match us, hl with | [_], _ => rfl)
  have D_note_numbers := def_of (x := "note_numbers") (i := 37) (f := 177) (ps := ["note"]) X G (Hd.mapAt E.1 16 _ (by kernel_rfl)) (fun _ _ _ _ _ _ us hl => match us, hl with | [_], _ => rfl)
  have D_note_end := def_of (x := "note_end") (i := 38) (f := 184) (ps := ["note", "voice"]) X G (Hd.mapAt E.1 17 _ (by kernel_rfl)) (fun _ _ _ _ _ _ us hl => match us, hl with | [_, _], _ => rfl)
  have D_sounds_at := def_of (x := "sounds_at") (i := 39) (f := 191) (ps := ["note", "voice", "t"]) X G (Hd.mapAt E.1 18 _ (by kernel_rfl)) (fun _ _ _ _ _ _ us hl => match us, hl with | [_, _, _], _ => rfl)
  have D_given_at := def_of (x := "given_at") (i := 40) (f := 198) (ps := ["note", "voice", "value", "t"]) X G (Hd.mapAt E.1 19 _ (by kernel_rfl)) (fun _ _ _ _ _ _ us hl => match us, hl with | [_, _, _, _], _ => rfl)
  have D_Score := cla_of (x := "Score") (q := "Score.__init__") (i := 44) (C := 213) (f := 210) (flds := ["voices", "lines", "notes", "next_number"]) (ps := ["self"]) X G (Hd.mapAt E.2.1 2 _ (by kernel_rfl)) (fun _ _ _ _ _ _ us hl => match us, hl with | [_], _ => rfl)
  have D_voice_of := def_of (x := "voice_of") (i := 45) (f := 224) (ps := ["score", "note"]) X G (Hd.mapAt E.1 20 _ (by kernel_rfl)) (fun _ _ _ _ _ _ us hl => match us, hl with | [_, _], _ => rfl)
  have D_note_numbered := def_of (x := "note_numbered") (i := 46) (f := 231) (ps := ["score", "number"]) X G (Hd.mapAt E.1 21 _ (by kernel_rfl)) (fun _ _ _ _ _ _ us hl => match us, hl with | [_, _], _ => rfl)
  have D_sounding := def_of (x := "sounding") (i := 47) (f := 236) (ps := ["score", "t"]) X G (Hd.mapAt E.1 22 _ (by kernel_rfl)) (fun _ _ _ _ _ _ us hl => match us, hl with | [_, _], _ => rfl)
  have D_next_change := def_of (x := "next_change") (i := 48) (f := 241) (ps := ["score", "t"]) X G (Hd.mapAt E.1 23 _ (by kernel_rfl)) (fun _ _ _ _ _ _ us hl => match us, hl with | [_, _], _ => rfl)
  have D_heard_within := def_of (x := "heard_within") (i := 49) (f := 246) (ps := ["score", "first", "end"]) X G (Hd.mapAt E.1 24 _ (by kernel_rfl)) (fun _ _ _ _ _ _ us hl => match us, hl with | [_, _, _], _ => rfl)
  have D_line_part := def_of (x := "line_part") (i := 50) (f := 251) (ps := ["points", "first", "n"]) X G (Hd.mapAt E.1 25 _ (by kernel_rfl)) (fun _ _ _ _ _ _ us hl => match us, hl with | [_, _, _], _ => rfl)
  have D_note_part := def_of (x := "note_part") (i := 51) (f := 256) (ps := ["score", "note", "values", "first"]) X G (Hd.mapAt E.1 26 _ (by kernel_rfl)) (fun _ _ _ _ _ _ us hl => match us, hl with | [_, _, _, _], _ => rfl)
  have D_sums := def_of (x := "sums") (i := 52) (f := 261) (ps := ["score", "first", "n"]) X G (Hd.mapAt E.1 27 _ (by kernel_rfl)) (fun _ _ _ _ _ _ us hl => match us, hl with | [_, _, _], _ => rfl)
  have D_samples := def_of (x := "samples") (i := 53) (f := 266) (ps := ["score", "first", "n"]) X G (Hd.mapAt E.1 28 _ (by kernel_rfl)) (fun _ _ _ _ _ _ us hl => match us, hl with | [_, _, _], _ => rfl)
  have D_peak := def_of (x := "peak") (i := 54) (f := 273) (ps := ["score", "first", "n"]) X G (Hd.mapAt E.1 29 _ (by kernel_rfl)) (fun _ _ _ _ _ _ us hl => match us, hl with | [_, _, _], _ => rfl)
  have D_Reader := cla_of (x := "Reader") (q := "Reader.__init__") (i := 59) (C := 303) (f := 300) (flds := ["row", "begin"]) (ps := ["self", "row"]) X G (Hd.mapAt E.2.1 3 _ (by kernel_rfl)) (fun _ _ _ _ _ _ us hl => match us, hl with | [_, _], _ => rfl)
  have D_row_of := def_of (x := "row_of") (i := 60) (f := 314) (ps := ["score"]) X G (Hd.mapAt E.1 30 _ (by kernel_rfl)) (fun _ _ _ _ _ _ us hl => match us, hl with | [_], _ => rfl)
  have D_read := def_of (x := "read") (i := 61) (f := 321) (ps := ["reader", "n"]) X G (Hd.mapAt E.1 31 _ (by kernel_rfl)) (fun _ _ _ _ _ _ us hl => match us, hl with | [_, _], _ => rfl)
  have D_read_count := def_of (x := "read_count") (i := 62) (f := 328) (ps := ["reader", "most"]) X G (Hd.mapAt E.1 32 _ (by kernel_rfl)) (fun _ _ _ _ _ _ us hl => match us, hl with | [_, _], _ => rfl)
  have D_read_voice := def_of (x := "read_voice") (i := 63) (f := 335) (ps := ["reader"]) X G (Hd.mapAt E.1 33 _ (by kernel_rfl)) (fun _ _ _ _ _ _ us hl => match us, hl with | [_], _ => rfl)
  have D_read_line := def_of (x := "read_line") (i := 64) (f := 342) (ps := ["reader"]) X G (Hd.mapAt E.1 34 _ (by kernel_rfl)) (fun _ _ _ _ _ _ us hl => match us, hl with | [_], _ => rfl)
  have D_read_next_number := def_of (x := "read_next_number") (i := 65) (f := 349) (ps := ["reader"]) X G (Hd.mapAt E.1 35 _ (by kernel_rfl)) (fun _ _ _ _ _ _ us hl => match us, hl with | [_], _ => rfl)
  have D_read_note := def_of (x := "read_note") (i := 66) (f := 356) (ps := ["reader"]) X G (Hd.mapAt E.1 36 _ (by kernel_rfl)) (fun _ _ _ _ _ _ us hl => match us, hl with | [_], _ => rfl)
  have D_read_notes := def_of (x := "read_notes") (i := 67) (f := 361) (ps := ["reader", "next_number"]) X G (Hd.mapAt E.1 37 _ (by kernel_rfl)) (fun _ _ _ _ _ _ us hl => match us, hl with | [_, _], _ => rfl)
  have D_score_of := def_of (x := "score_of") (i := 68) (f := 366) (ps := ["row"]) X G (Hd.mapAt E.1 38 _ (by kernel_rfl)) (fun _ _ _ _ _ _ us hl => match us, hl with | [_], _ => rfl)
  have D_Player := cla_of (x := "Player") (q := "Player.__init__") (i := 77) (C := 384) (f := 381) (flds := ["score", "place"]) (ps := ["self"]) X G (Hd.mapAt E.2.1 4 _ (by kernel_rfl)) (fun _ _ _ _ _ _ us hl => match us, hl with | [_], _ => rfl)
  have D_with_lists := def_of (x := "with_lists") (i := 78) (f := 395) (ps := ["number", "lists"]) X G (Hd.mapAt E.1 39 _ (by kernel_rfl)) (fun _ _ _ _ _ _ us hl => match us, hl with | [_, _], _ => rfl)
  have D_part_fits := def_of (x := "part_fits") (i := 79) (f := 402) (ps := ["first", "n"]) X G (Hd.mapAt E.1 40 _ (by kernel_rfl)) (fun _ _ _ _ _ _ us hl => match us, hl with | [_, _], _ => rfl)
  have D_answer_voice := def_of (x := "answer_voice") (i := 80) (f := 409) (ps := ["player", "numbers"]) X G (Hd.mapAt E.1 41 _ (by kernel_rfl)) (fun _ _ _ _ _ _ us hl => match us, hl with | [_, _], _ => rfl)
  have D_answer_line := def_of (x := "answer_line") (i := 81) (f := 416) (ps := ["player", "numbers"]) X G (Hd.mapAt E.1 42 _ (by kernel_rfl)) (fun _ _ _ _ _ _ us hl => match us, hl with | [_, _], _ => rfl)
  have D_answer_note := def_of (x := "answer_note") (i := 82) (f := 423) (ps := ["player", "numbers"]) X G (Hd.mapAt E.1 43 _ (by kernel_rfl)) (fun _ _ _ _ _ _ us hl => match us, hl with | [_, _], _ => rfl)
  have D_answer_drop := def_of (x := "answer_drop") (i := 83) (f := 428) (ps := ["player", "numbers"]) X G (Hd.mapAt E.1 44 _ (by kernel_rfl)) (fun _ _ _ _ _ _ us hl => match us, hl with | [_, _], _ => rfl)
  have D_answer_move := def_of (x := "answer_move") (i := 84) (f := 435) (ps := ["player", "numbers"]) X G (Hd.mapAt E.1 45 _ (by kernel_rfl)) (fun _ _ _ _ _ _ us hl => match us, hl with | [_, _], _ => rfl)
  have D_answer_render := def_of (x := "answer_render") (i := 85) (f := 442) (ps := ["player", "numbers"]) X G (Hd.mapAt E.1 46 _ (by kernel_rfl)) (fun _ _ _ _ _ _ us hl => match us, hl with | [_, _], _ => rfl)
  have D_answer_raw := def_of (x := "answer_raw") (i := 86) (f := 449) (ps := ["player", "numbers"]) X G (Hd.mapAt E.1 47 _ (by kernel_rfl)) (fun _ _ _ _ _ _ us hl => match us, hl with | [_, _], _ => rfl)
  have D_answer_sounds := def_of (x := "answer_sounds") (i := 87) (f := 456) (ps := ["player", "numbers"]) X G (Hd.mapAt E.1 48 _ (by kernel_rfl)) (fun _ _ _ _ _ _ us hl => match us, hl with | [_, _], _ => rfl)
  have D_answer_next := def_of (x := "answer_next") (i := 88) (f := 463) (ps := ["player", "numbers"]) X G (Hd.mapAt E.1 49 _ (by kernel_rfl)) (fun _ _ _ _ _ _ us hl => match us, hl with | [_, _], _ => rfl)
  have D_answer_loud := def_of (x := "answer_loud") (i := 89) (f := 470) (ps := ["player", "numbers"]) X G (Hd.mapAt E.1 50 _ (by kernel_rfl)) (fun _ _ _ _ _ _ us hl => match us, hl with | [_, _], _ => rfl)
  have D_answer_line_at := def_of (x := "answer_line_at") (i := 90) (f := 477) (ps := ["player", "numbers"]) X G (Hd.mapAt E.1 51 _ (by kernel_rfl)) (fun _ _ _ _ _ _ us hl => match us, hl with | [_, _], _ => rfl)
  have D_answer_seek := def_of (x := "answer_seek") (i := 91) (f := 484) (ps := ["player", "numbers"]) X G (Hd.mapAt E.1 52 _ (by kernel_rfl)) (fun _ _ _ _ _ _ us hl => match us, hl with | [_, _], _ => rfl)
  have D_answer_play := def_of (x := "answer_play") (i := 92) (f := 491) (ps := ["player", "numbers"]) X G (Hd.mapAt E.1 53 _ (by kernel_rfl)) (fun _ _ _ _ _ _ us hl => match us, hl with | [_, _], _ => rfl)
  have D_answer_peak := def_of (x := "answer_peak") (i := 93) (f := 498) (ps := ["player", "numbers"]) X G (Hd.mapAt E.1 54 _ (by kernel_rfl)) (fun _ _ _ _ _ _ us hl => match us, hl with | [_, _], _ => rfl)
  have D_answer_notes := def_of (x := "answer_notes") (i := 94) (f := 503) (ps := ["player", "numbers"]) X G (Hd.mapAt E.1 55 _ (by kernel_rfl)) (fun _ _ _ _ _ _ us hl => match us, hl with | [_, _], _ => rfl)
  have D_answer_save := def_of (x := "answer_save") (i := 95) (f := 510) (ps := ["player", "numbers"]) X G (Hd.mapAt E.1 56 _ (by kernel_rfl)) (fun _ _ _ _ _ _ us hl => match us, hl with | [_, _], _ => rfl)
  have D_answer_load := def_of (x := "answer_load") (i := 96) (f := 517) (ps := ["player", "numbers"]) X G (Hd.mapAt E.1 57 _ (by kernel_rfl)) (fun _ _ _ _ _ _ us hl => match us, hl with | [_, _], _ => rfl)
  have D_call_end := def_of (x := "call_end") (i := 100) (f := 527) (ps := ["calls", "begin"]) X G (Hd.mapAt E.1 58 _ (by kernel_rfl)) (fun _ _ _ _ _ _ us hl => match us, hl with | [_, _], _ => rfl)
  have D_answers := def_of (x := "answers") (i := 101) (f := 534) (ps := ["calls"]) X G (Hd.mapAt E.1 59 _ (by kernel_rfl)) (fun _ _ _ _ _ _ us hl => match us, hl with | [_], _ => rfl)
  have D_t_GREATEST_voices := tup_of (x := "GREATEST_voices") (t := 55) (xs := [.int 3, .int 65535, .int 65535, .int 256, .int 65535]) X G (Hd.mapAt E.2.2.2.1 0 _ (by kernel_rfl)) rfl rfl (by decide)
  have D_t_AT_FIRST := tup_of (x := "AT_FIRST") (t := 56) (xs := [.int 0, .int 0, .int 0, .int 256, .int 0]) X G (Hd.mapAt E.2.2.2.1 1 _ (by kernel_rfl)) rfl rfl (by decide)
  have D_t_WAVES := tup_of (x := "WAVES") (t := 134) (xs := [.ref 112, .ref 119, .ref 126, .ref 133]) X G (Hd.mapAt E.2.2.2.1 2 _ (by kernel_rfl)) rfl rfl (by decide)
  have D_t_GREATEST_notes := tup_of (x := "GREATEST_notes") (t := 142) (xs := [.int 7, .int 1099511627775, .int 16777216, .int 65535, .int 256]) X G (Hd.mapAt E.2.2.2.1 3 _ (by kernel_rfl)) rfl rfl (by decide)
  have D_t_GREATEST_OF_LOUD := tup_of (x := "GREATEST_OF_LOUD") (t := 367) (xs := [.int 7, .int 16777216, .int 33554432]) X G (Hd.mapAt E.2.2.2.1 4 _ (by kernel_rfl)) rfl rfl (by decide)
  have D_t_ANSWERERS := tup_of (x := "ANSWERERS") (t := 518) (xs := [.ref 409, .ref 416, .ref 423, .ref 428, .ref 435, .ref 442, .ref 449, .ref 456, .ref 463, .ref 470, .ref 477, .ref 484, .ref 491, .ref 498, .ref 503, .ref 510, .ref 517]) X G (Hd.mapAt E.2.2.2.1 5 _ (by kernel_rfl)) rfl rfl (by decide)
  have D_t_PLAIN_NUMBERS := tup_of (x := "PLAIN_NUMBERS") (t := 519) (xs := [.int 6, .int 1, .int 5, .int 1, .int 2, .int 2, .int 2, .int 1, .int 1, .int 3, .int 2, .int 1, .int 1, .int 2, .int 0, .int 0, .int 0]) X G (Hd.mapAt E.2.2.2.1 6 _ (by kernel_rfl)) rfl rfl (by decide)
  have D_t_CALLS_WITH_ROW := tup_of (x := "CALLS_WITH_ROW") (t := 520) (xs := [.int 1, .int 16]) X G (Hd.mapAt E.2.2.2.1 7 _ (by kernel_rfl)) rfl rfl (by decide)
  exact ⟨⟨_, _, _, _, _, _, _, _, _, _, _, _, _, _, _, _, _, _, _, _, _, _, _, _, _, _, _, _, _, _, _, _, _, _, _, _, _, _, _, _, _, _, _, _, _, _, _, _, _, _, _, _, _, _, _, _, _, _, _, _, _, _, _, _, _, _, _, _, _, _, _, _, _, _, _, _, _, _, _, _, _, _, _, _, _, _, _, _, _, _, _, _, _, _, _, _, _, _, _, _, _, _, _, _, _, _, _, _, _, _, _, _, _, _, _, _, _, _, _, _, _, _, _, _, _, _, _, _, _, _, _, _, _, _, _, _, _, _, _, _, _, _, _, _⟩, ⟨D_none_above, D_points_of, D_point_numbers, D_points_fit, D_value_between, D_line_value, D_Voice, D_voice_fits, D_voice_numbers, D_held, D_loudness, D_saw, D_square, D_triangle, D_arcs, D_wave_value, D_Note, D_note_fits, D_note_numbers, D_note_end, D_sounds_at, D_given_at, D_Score, D_voice_of, D_note_numbered, D_sounding, D_next_change, D_heard_within, D_line_part, D_note_part, D_sums, D_samples, D_peak, D_Reader, D_row_of, D_read, D_read_count, D_read_voice, D_read_line, D_read_next_number, D_read_note, D_read_notes, D_score_of, D_Player, D_with_lists, D_part_fits, D_answer_voice, D_answer_line, D_answer_note, D_answer_drop, D_answer_move, D_answer_render, D_answer_raw, D_answer_sounds, D_answer_next, D_answer_loud, D_answer_line_at, D_answer_seek, D_answer_play, D_answer_peak, D_answer_notes, D_answer_save, D_answer_load, D_call_end, D_answers, int_of X G (Hd.mapAt E.2.2.1 0 _ (by kernel_rfl)), int_of X G (Hd.mapAt E.2.2.1 1 _ (by kernel_rfl)), int_of X G (Hd.mapAt E.2.2.1 2 _ (by kernel_rfl)), int_of X G (Hd.mapAt E.2.2.1 3 _ (by kernel_rfl)), int_of X G (Hd.mapAt E.2.2.1 4 _ (by kernel_rfl)), int_of X G (Hd.mapAt E.2.2.1 5 _ (by kernel_rfl)), int_of X G (Hd.mapAt E.2.2.1 6 _ (by kernel_rfl)), int_of X G (Hd.mapAt E.2.2.1 7 _ (by kernel_rfl)), int_of X G (Hd.mapAt E.2.2.1 8 _ (by kernel_rfl)), int_of X G (Hd.mapAt E.2.2.1 9 _ (by kernel_rfl)), int_of X G (Hd.mapAt E.2.2.1 10 _ (by kernel_rfl)), int_of X G (Hd.mapAt E.2.2.1 11 _ (by kernel_rfl)), int_of X G (Hd.mapAt E.2.2.1 12 _ (by kernel_rfl)), int_of X G (Hd.mapAt E.2.2.1 13 _ (by kernel_rfl)), int_of X G (Hd.mapAt E.2.2.1 14 _ (by kernel_rfl)), int_of X G (Hd.mapAt E.2.2.1 15 _ (by kernel_rfl)), int_of X G (Hd.mapAt E.2.2.1 16 _ (by kernel_rfl)), int_of X G (Hd.mapAt E.2.2.1 17 _ (by kernel_rfl)), int_of X G (Hd.mapAt E.2.2.1 18 _ (by kernel_rfl)), int_of X G (Hd.mapAt E.2.2.1 19 _ (by kernel_rfl)), D_t_GREATEST_voices.1, D_t_GREATEST_voices.2, D_t_AT_FIRST.1, D_t_AT_FIRST.2, D_t_WAVES.1, D_t_WAVES.2, D_t_GREATEST_notes.1, D_t_GREATEST_notes.2, D_t_GREATEST_OF_LOUD.1, D_t_GREATEST_OF_LOUD.2, D_t_ANSWERERS.1, D_t_ANSWERERS.2, D_t_PLAIN_NUMBERS.1, D_t_PLAIN_NUMBERS.2, D_t_CALLS_WITH_ROW.1, D_t_CALLS_WITH_ROW.2, PySem.W.mg_none_of X G (Hd.mapAt E.2.2.2.2.1 0 _ (by kernel_rfl)), PySem.W.mg_none_of X G (Hd.mapAt E.2.2.2.2.1 1 _ (by kernel_rfl)), PySem.W.mg_none_of X G (Hd.mapAt E.2.2.2.2.1 2 _ (by kernel_rfl)), PySem.W.mg_none_of X G (Hd.mapAt E.2.2.2.2.1 3 _ (by kernel_rfl)), PySem.W.mg_none_of X G (Hd.mapAt E.2.2.2.2.1 4 _ (by kernel_rfl)), PySem.W.mg_none_of X G (Hd.mapAt E.2.2.2.2.1 5 _ (by kernel_rfl)), PySem.W.mg_none_of X G (Hd.mapAt E.2.2.2.2.1 6 _ (by kernel_rfl)), PySem.W.mg_none_of X G (Hd.mapAt E.2.2.2.2.1 7 _ (by kernel_rfl)), PySem.W.mg_none_of X G (Hd.mapAt E.2.2.2.2.1 8 _ (by kernel_rfl)), PySem.W.mg_none_of X G (Hd.mapAt E.2.2.2.2.1 9 _ (by kernel_rfl)), PySem.W.mg_of X G E.2.2.2.2.2.1, E.2.2.2.2.2.1, E.2.2.2.2.2.2⟩⟩
end Sb
namespace Hd
open PySem PySem.W PySem.Calls PyProof.Rows
theorem walk_ex {q : Program} {loose : List Str} {XP : (Str → Option Value) → Heap → Prop} {r : OpenSpec} {d : DefRec} {kwd : List (Str × Expr)} {run : Value → List Value → Sem Value} (g : ∀ K : Frag, Facts K → WalkOS q loose XP (fun _ h => K.In h) r d kwd run) :
    WalkOS q loose XP (fun _ h => Good h) r d kwd run := fun w s₀ s₁ mg mb G Y => match Y with | ⟨K, a, b⟩ => g K b w s₀ s₁ mg mb G a
end Hd
open PySem PySem.W PyProof.Rows
set_option maxRecDepth 100000 in
set_option maxHeartbeats 0 in
theorem PySem.Challenge.cw_scorebookdesk_s01_answers_holds : PySem.Challenge.rw_scorebookdesk_s01_answers.Holds := by
  refine holds_os (q := Hd.viewQ) (loose := Hd.allLoose) (Xt := fun s => recOk [] s) (XP := fun _ _ => True) (Yf := fun s => Hd.Good s.heap) (Ya := fun _ => True) (YP := fun _ h => Hd.Good h) (N := 7198) Hd.left (fun w s e => of_eq_true e) (fun w h h' x k => match x with | ⟨K, a, b⟩ => ⟨K, a.keeps k, b⟩) (fun _ _ => trivial) (fun _ _ _ _ _ => trivial) (by rfl) (by rfl) (by rfl) (fun s e => recFacts_of e) os_shapes (by decide +kernel) (by decide +kernel) ⟨rfl, rfl, rfl, rfl, rfl, by decide +kernel⟩ ⟨[.list []], by decide +kernel, by decide +kernel⟩ (Hd.walk_ex fun K0 hK => ?_)
  refine L2.walk_specK (r := PySem.Challenge.rw_scorebookdesk_s01_answers) (k := 9) (CX := L2.CX0) (K := fun _ => K0) (ps := ["calls"]) (sp := Sb.sp_answers) (by decide +kernel) rfl rfl ⟨rfl, by decide, by decide⟩ (fun w h Y => Y) ?F ?S (fun _ _ _ _ z => z)
  case F =>
    intro w mg fa h Y KX G hmg
    obtain ⟨A, T⟩ := Sb.txt_of KX G hK
    have e := hmg.symm.trans T.answers.m
    cases e
    obtain ⟨oc, od, kV, doc, pm, an, cdv, ct, osl, hfd, lk, hcd⟩ := T.answers.fn.ex
    exact ⟨A.d_answers, fun s us hu => by rw [hfd]; exact (match us, hu with | [_], _ => .of_eq rfl), fun base _ _ => Sb.ok_answers T⟩
  case S =>
    intro K H xs a hO hwi hask hx
    cases hx with
    | cons h1 h2 =>
      cases h2
      cases h1 with
      | lst hs ha =>
        have e := L2.ints_dw a.1 _ ha
        subst e
        have q : ((Codec.inLen 0 16000 a.1 && a.1.all (Codec.inInt 0 18446744073709551615)) && true) = true := hwi
        rw [Bool.and_eq_true, Bool.and_eq_true] at q
        exact ⟨_, a.1, rfl, hs, (Codec.inNat_iff.mp q.1.1).2, hask, fun D H' hp => .lst (L2.SqL.of hp) (L2.dw_ints _)⟩
end

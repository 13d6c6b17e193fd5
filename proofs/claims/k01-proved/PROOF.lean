import PyProof.Rows.All
import Wide.All
import OpenK.AllK
import Wide.FinOn
import HandS.HeadHook4
import HandS.ExcInit
import KE.KExcSuper
import HandS.Base
import HandS.Call
import HandS.List
import HandS.Comp
import HandS.Ends
import HandS.More
import HandS.Words
import HandS.WordsList
import HandS.WordsDict
import HandS.WordsExc
import HandS.Dict
import HandS.Iter
import HandS.Text
import HandS.Exc
import HandS.ExcOwn
import HandS.Defaults
import HandS.Head0
import HandS.Head1
import HandS.Head2
import HandS.HeadEnd
import HandS.HeadHook1
import HandS.HeadHook2
import HandS.HeadHook3
import HandS.TupAny
import HandS.AnyAll
import HandS.Lambda
import HandS.FStr
import HandS.StrMore
import HandS.RaiseOp
import HandS.IsInst
import PyProof.Rows.MatchSeqLen
import PyProof.Rows.TupAssign
import HandS.SetKeys
import KE.GoesMore
import HandS.DictComp
import HandS.Codes
import HandS.Deep
import HandS.TupLe
import PyProof.StrOps2
import PyProof.DictUpdate
import HandS.ReplaceLit
import PyProof.P3Eq
import HandS.ExcIs
import HandS.ExcField
import KE.KDflt
import HandS.ReplaceDef
import HandS.ReplaceList
import HandS.TupMul
import PyProof.NeKinds
import HandS.Conv
import HandS.HeadWalk
import PySem.Challenge.RW_keytape_k01_refusals
set_option Elab.async false
set_option linter.all false
set_option maxRecDepth 100000
set_option maxHeartbeats 4000000
/-! what the head must say of an own exception class whose __init__ says super().__init__ ahead; decided -/
namespace KT
open PySem PySem.Spec PyProof.Rows L2
def fnAt (K : PySem.W.Frag) (f : Addr) : Option FuncData := match K.lookup f with
  | some ⟨_, _, .func fd, _⟩ => some fd
  | _ => none
def cellAt (K : PySem.W.Frag) (c : Addr) : Option Value := match K.lookup c with
  | some ⟨_, _, .cell v, _⟩ => v
  | _ => none
def fldsAt (K : PySem.W.Frag) (c : Addr) : Option (Array Value) := match K.lookup c with
  | some ⟨_, _, .fields v, _⟩ => some v
  | _ => none
/-- two parameters, the same -/
def eqArgs (a r : Arguments) : Bool := match a, r with
  | ⟨[], [⟨x, none, p⟩, ⟨y, none, q⟩], none, [], [], none, []⟩, ⟨[], [⟨x', none, p'⟩, ⟨y', none, q'⟩], none, [], [], none, []⟩ => decide (x = x' ∧ p = p' ∧ y = y' ∧ q = q')
  | _, _ => false
theorem eqArgs_ok {a r : Arguments} (h : eqArgs a r = true) : a = r := by
  unfold eqArgs at h
  split at h
  · obtain ⟨rfl, rfl, rfl, rfl⟩ := of_decide_eq_true h
    rfl
  · cases h
def eqBody (b : FuncBody) (r : List Stmt) : Bool := match b, r with
  | .stmts [.Expr (.Call (.Attribute (.Call (.Name a1 q1) [] [] q2) a2 q3) [.JoinedStr [.Constant c1 k1 q4, .FormattedValue (.Name a3 q5) n1 none q6] q7] [] q8) q9, .Assign [.Attribute (.Name a4 q10) a5 q11] (.Name a6 q12) q13],
    [.Expr (.Call (.Attribute (.Call (.Name b1 r1) [] [] r2) b2 r3) [.JoinedStr [.Constant d1 l1 r4, .FormattedValue (.Name b3 r5) m1 none r6] r7] [] r8) r9, .Assign [.Attribute (.Name b4 r10) b5 r11] (.Name b6 r12) r13] =>
    decide (a1 = b1 ∧ a2 = b2 ∧ a3 = b3 ∧ a4 = b4 ∧ a5 = b5 ∧ a6 = b6 ∧ c1 = d1 ∧ k1 = l1 ∧ n1 = m1) && decide (q1 = r1 ∧ q2 = r2 ∧ q3 = r3 ∧ q4 = r4 ∧ q5 = r5 ∧ q6 = r6 ∧ q7 = r7) && decide (q8 = r8 ∧ q9 = r9 ∧ q10 = r10 ∧ q11 = r11 ∧ q12 = r12 ∧ q13 = r13)
  | _, _ => false
theorem eqBody_ok {b : FuncBody} {r : List Stmt} (h : eqBody b r = true) : b = .stmts r := by
  unfold eqBody at h
  split at h
  · simp only [Bool.and_eq_true, decide_eq_true_eq] at h
    obtain ⟨⟨⟨rfl, rfl, rfl, rfl, rfl, rfl, rfl, rfl, rfl⟩, rfl, rfl, rfl, rfl, rfl, rfl, rfl⟩, rfl, rfl, rfl, rfl, rfl, rfl⟩ := h
    rfl
  · cases h
/-- the class -/
def supC (K : PySem.W.Frag) (C : Addr) (fld : Str) : Bool := (match K.lookup C with
  | some ⟨.type "type", _, .cls cd, sl⟩ => (match cd.mro, sl.toList with
    | .ref C' :: bm, [_, _, _, _, some (.builtin n), _] => decide (C' = C) && decide (n = "ValueError.__new__") && !cd.hasDel && cd.hasDict && PySem.HandSPX.refsVE bm && He.eqO (PySem.W.alongIn K "__init__" ((cd.mro.dropWhile (· != .ref C)).drop 1)) (some (some (.builtin "ValueError.__init__")))
    | _, _ => false)
  | _ => false) && (He.eqO (PySem.W.findIn K (.ref C) "__setattr__") (some (some (.builtin "object.__setattr__"))) && (decide (PySem.W.subIn K (.ref C) (.type "BaseException") = some true) && (decide (PySem.W.typeIn K (.ref C) = some (.type "type")) && (PySem.W.keepIn K (.ref C) && (decide (PySem.W.mroIn K C (.ref C) = some true) && (decide (PySem.W.subIn K (.ref C) (.type "ValueError") = some true) && He.eqO (PySem.W.findIn K (.ref C) fld) (some none)))))))
/-- its __init__ -/
def supI (K : PySem.W.Frag) (C : Addr) (qual : Str) (params : Arguments) (body : List Stmt) (scope : Scope) (file : Str) : Bool := He.eqO (PySem.W.findIn K (.ref C) "__init__") (some (some (.ref (He.ma K C "__init__")))) && (decide (PySem.W.typeIn K (.ref (He.ma K C "__init__")) = some (.type "function")) && (match fnAt K (He.ma K C "__init__") with
  | none => false
  | some fd => (match fd.closure, fd.code with
    | [(n, c)], .ref cda => decide (n = "__class__") && (decide (cellAt K c = some (.ref C)) && (decide (fd.name = "__init__") && (decide (fd.qualname = qual) && (eqArgs fd.params params && (eqBody fd.body body && (decide (fd.scope = scope) && (decide (fd.globals = mainGlobals) && (decide (fd.builtins = builtinsNs) && (decide (fd.defaults = .none) && (PySem.W.codeIn K fd.code qual && (match fldsAt K cda with
      | some v => (match (v[2]? : Option Value) with
        | some (.str z _) => decide (z = file)
        | _ => false)
      | none => false)))))))))))
    | _, _ => false)))
def supB (K : PySem.W.Frag) (C : Addr) (qual : Str) (params : Arguments) (body : List Stmt) (scope : Scope) (file fld : Str) : Bool := supC K C fld && (supI K C qual params body scope file && He.eqO (PySem.W.nsIn K cStatics "thirdparty.any") (some none))
/-- words that stand in no table of actions -/
def noWords : List Str := ["put", "find", "play", "till", "Rub"]
def noActs (K : PySem.W.Frag) (d : Addr) : Bool := noWords.all fun z => He.eqO (PySem.W.nsIn K d z) (some none)
/-! ### what the keys of a written dict are, all of them -/
def keyT : Value → Option Str
  | .str z _ => some z
  | _ => none
def intT : Value → Option Int
  | .int i _ => some i
  | _ => none
def keysAre (K : PySem.W.Frag) (d : Addr) (ws : List Str) : Bool := match K.lookup d with
  | some ⟨_, _, .dict es _, _⟩ => decide (es.toList.map (fun e => keyT e.key) = ws.map some)
  | _ => false
def intsAre (K : PySem.W.Frag) (d : Addr) (l : List (Str × Int)) : Bool := match K.lookup d with
  | some ⟨_, _, .dict es _, _⟩ => decide (es.toList.map (fun e => (keyT e.key, intT e.val)) = l.map fun p => (some p.1, some p.2))
  | _ => false
theorem keyT_some {v : Value} {z : Str} (h : keyT v = some z) : ∃ t, v = .str z t := by
  cases v with
  | str y t => exact ⟨t, by rw [show y = z from Option.some.inj h]⟩
  | _ => cases h
theorem intT_some {v : Value} {z : Int} (h : intT v = some z) : ∃ t, v = .int z t := by
  cases v with
  | int y t => exact ⟨t, by rw [show y = z from Option.some.inj h]⟩
  | _ => cases h
theorem keys_none (z : Str) : ∀ (es : List DictEntry) (ws : List Str), es.map (fun e => keyT e.key) = ws.map some → (es.any (·.refKey)) = false ∧ (es.find? (·.key.isStr z)).isSome = ws.contains z
  | [], [], _ => ⟨rfl, rfl⟩
  | [], _ :: _, h => by cases h
  | _ :: _, [], h => by cases h
  | e :: es, y :: ws, h => by
    rw [List.map_cons, List.map_cons] at h
    injection h with h1 h2
    obtain ⟨t, ht⟩ := keyT_some h1
    obtain ⟨i1, i2⟩ := keys_none z es ws h2
    constructor
    · rw [List.any_cons, i1]
      unfold DictEntry.refKey
      rw [ht]; rfl
    · rw [List.find?_cons, ht]
      show (match (y == z) with | true => some e | false => es.find? (·.key.isStr z)).isSome = _
      rw [List.contains_cons]
      have hc : (z == y) = (y == z) := by
        by_cases c : y = z
        · subst c; rfl
        · rw [beq_eq_false_iff_ne.mpr c, beq_eq_false_iff_ne.mpr (fun q => c q.symm)]
      rw [hc]
      cases (y == z) with
      | true => rfl
      | false => rw [i2]; rfl
/-- a word looked up in such a dict -/
theorem keysAre_ok {K : PySem.W.Frag} {d : Addr} {ws : List Str} (h : keysAre K d ws = true) (z : Str) : ∃ r, PySem.W.nsIn K d z = some r ∧ r.isSome = ws.contains z := by
  unfold keysAre at h
  unfold PySem.W.nsIn
  split at h
  · rename_i c dd es n sl ho
    obtain ⟨h1, h2⟩ := keys_none z _ _ (of_decide_eq_true h)
    rw [ho]
    dsimp only
    cases hf : es.toList.find? (·.key.isStr z) with
    | some e => rw [hf] at h2; exact ⟨_, rfl, h2⟩
    | none => rw [hf] at h2; rw [h1]; exact ⟨none, rfl, h2⟩
  · cases h
theorem ints_find (z : Str) : ∀ (es : List DictEntry) (l : List (Str × Int)), es.map (fun e => (keyT e.key, intT e.val)) = l.map (fun p => (some p.1, some p.2)) → (es.any (·.refKey)) = false ∧
    match l.lookup z with
    | some i => ∃ e t, es.find? (·.key.isStr z) = some e ∧ e.val = .int i t
    | none => es.find? (·.key.isStr z) = none
  | [], [], _ => ⟨rfl, rfl⟩
  | [], _ :: _, h => by cases h
  | _ :: _, [], h => by cases h
  | e :: es, (y, j) :: l, h => by
    rw [List.map_cons, List.map_cons] at h
    injection h with h1 h2
    injection h1 with h0 h1
    obtain ⟨t, ht⟩ := keyT_some h0
    obtain ⟨t', ht'⟩ := intT_some h1
    obtain ⟨i1, i2⟩ := ints_find z es l h2
    constructor
    · rw [List.any_cons, i1]
      unfold DictEntry.refKey
      rw [ht]; rfl
    · have hf : (e :: es).find? (·.key.isStr z) = match (y == z) with | true => some e | false => es.find? (·.key.isStr z) := by
        rw [List.find?_cons, ht]; rfl
      rw [hf, List.lookup_cons]
      have hc : (z == y) = (y == z) := by
        by_cases c : y = z
        · subst c; rfl
        · rw [beq_eq_false_iff_ne.mpr c, beq_eq_false_iff_ne.mpr (fun q => c q.symm)]
      rw [hc]
      cases (y == z) with
      | true => exact ⟨e, t', rfl, ht'⟩
      | false => exact i2
theorem intsAre_ok {K : PySem.W.Frag} {d : Addr} {l : List (Str × Int)} (h : intsAre K d l = true) (z : Str) : match l.lookup z with
    | some i => ∃ t, PySem.W.nsIn K d z = some (some (.int i t))
    | none => PySem.W.nsIn K d z = some none := by
  unfold intsAre at h
  unfold PySem.W.nsIn
  split at h
  · rename_i c dd es n sl ho
    obtain ⟨h1, h2⟩ := ints_find z _ _ (of_decide_eq_true h)
    rw [ho]
    dsimp only
    cases hl : l.lookup z with
    | some i =>
      rw [hl] at h2
      obtain ⟨e, t, hf, hv⟩ := h2
      rw [hf]
      exact ⟨t, by show some (some e.val) = _; rw [hv]⟩
    | none =>
      rw [hl] at h2
      rw [h2, h1]; rfl
  · cases h
/-! ### the head's Hook with the statics in the written part -/
def asS (g : Addr → Option Obj) (n : Nat) : List Addr := cStatics :: He.asD g n
def obsS (n : Nat) (fa : List He.Fa) (fn : List He.DefD) (ts : List He.Tab) (tf : List He.Defn) (ex : PySem.W.Frag → Bool) (g : Addr → Option Obj) : He.AlX := (He.obsT fa fn ts (He.frT g (asS g n)), ex (He.frT g (asS g n)) && He.tabsB g tf (He.frT g (asS g n)))
theorem saysS_of {n : Nat} {fa : List He.Fa} {fn : List He.DefD} {ts : List He.Tab} {tf : List He.Defn} {ex : PySem.W.Frag → Bool} {w : World} {h : Heap} (e : obsS n fa fn ts tf ex h.get? = He.valX fn ts w) : He.SaysX fa fn ts tf ex w h (He.frT h.get? (asS h.get? n)) := by
  have e1 : He.obsT fa fn ts (He.frT h.get? (asS h.get? n)) = He.valT fn ts w := congrArg (fun z : He.AlX => z.1) e
  have e2 : (ex (He.frT h.get? (asS h.get? n)) && He.tabsB h.get? tf (He.frT h.get? (asS h.get? n))) = true := congrArg (fun z : He.AlX => z.2) e
  obtain ⟨h1, h2⟩ := He.ba e2
  have key : ∀ p ∈ tf, PySem.W.codeHdIn (He.frT h.get? (asS h.get? n)) (He.cT (He.frT h.get? (asS h.get? n)) p).1 (He.cT (He.frT h.get? (asS h.get? n)) p).2 = true ∧ ∃ o, h.get? (He.cT (He.frT h.get? (asS h.get? n)) p).2 = some o ∧ He.emptyTab o = true := fun p hp => by
    obtain ⟨h3, h4⟩ := He.ba (List.all_eq_true.mp h2 p hp)
    refine ⟨h3, ?_⟩
    cases q : h.get? (He.cT (He.frT h.get? (asS h.get? n)) p).2 with
    | none => rw [q] at h4; cases h4
    | some o => rw [q] at h4; exact ⟨o, rfl, h4⟩
  exact ⟨e1, h1, fun p hp => (key p hp).1, fun p hp => by
    obtain ⟨_, o, q, z⟩ := key p hp
    exact He.frT_none q z, fun p hp => by
    obtain ⟨_, o, q, z⟩ := key p hp
    rw [q, He.emptyTab_eq z]⟩
def hookS (n : Nat) (fa : List He.Fa) (fn : List He.DefD) (ts : List He.Tab) (tf : List He.Defn) (ex : PySem.W.Frag → Bool) : PySem.W.Hook where
  α := He.AlX
  obs := fun s => obsS n fa fn ts tf ex s.heap.get?
  val := fun w => He.valX fn ts w
  says := fun w h => ∃ K : PySem.W.Frag, K.In h ∧ He.SaysX fa fn ts tf ex w h K
  of := fun _ _ e => ⟨_, He.frT_in, saysS_of e⟩
  keeps := fun _ _ _ ⟨K, hK, c⟩ k => ⟨K, PySem.W.Frag.In.keeps hK k, ⟨c.t, c.more, c.hd, c.out, fun p hp => k _ _ (c.empty p hp)⟩⟩
theorem obsS_eq {n : Nat} {fa : List He.Fa} {fn : List He.DefD} {ts : List He.Tab} {tf : List He.Defn} {ex : PySem.W.Frag → Bool} {g : Addr → Option Obj} {s : Shared} (h : ∀ a, g a = s.heap.get? a) : obsS n fa fn ts tf ex g = (hookS n fa fn ts tf ex).obs s := by
  have e : g = s.heap.get? := funext h
  rw [e] <;> rfl
end KT
set_option Elab.async false
set_option linter.all false
set_option maxRecDepth 100000
set_option maxHeartbeats 0
namespace KT
open PySem PySem.Spec PyProof.Rows L2
def top (i : Nat) : Stmt := PySem.Challenge.pw_keytape_k01_refusals.main.body.getD i (.Pass ⟨0, 0, 0, 0⟩)
abbrev s_Page___init__ : Stmt := inClass (top 16) 0
abbrev s_are_signs : Stmt := top 17
abbrev s_first_page : Stmt := top 18
abbrev s_line_at : Stmt := top 19
abbrev s_moved : Stmt := top 20
abbrev s_with_lines : Stmt := top 21
abbrev s_write : Stmt := top 23
abbrev s_break_row : Stmt := top 24
abbrev s_join_row : Stmt := top 25
abbrev s_rub : Stmt := top 26
abbrev s_go_left : Stmt := top 27
abbrev s_go_right : Stmt := top 28
abbrev s_go_to_row : Stmt := top 29
abbrev s_go_up : Stmt := top 30
abbrev s_go_down : Stmt := top 31
abbrev s_go_home : Stmt := top 32
abbrev s_go_end : Stmt := top 33
abbrev s_find_word : Stmt := top 34
abbrev s_take : Stmt := top 35
abbrev s_lay : Stmt := top 36
abbrev s_page_behind : Stmt := top 38
abbrev s_is_word : Stmt := top 44
abbrev s_is_number : Stmt := top 45
abbrev s_is_key : Stmt := top 46
abbrev s_check_key : Stmt := top 47
abbrev s_check_name : Stmt := top 48
abbrev s_check_keys : Stmt := top 49
abbrev s_check_each : Stmt := top 50
abbrev s_Player___init__ : Stmt := inClass (top 54) 0
abbrev s_Player_do : Stmt := inClass (top 54) 1
abbrev s_Player_play : Stmt := inClass (top 54) 2
abbrev s_Player_play_till : Stmt := inClass (top 54) 3
abbrev s_Player_play_once : Stmt := inClass (top 54) 4
abbrev s_Player_add_thing : Stmt := inClass (top 54) 5
abbrev s_Editor___init__ : Stmt := inClass (top 56) 0
abbrev s_Editor_text : Stmt := inClass (top 56) 1
abbrev s_Editor_place : Stmt := inClass (top 56) 2
abbrev s_Editor_clip : Stmt := inClass (top 56) 3
abbrev s_Editor_press : Stmt := inClass (top 56) 4
abbrev s_Editor_hand : Stmt := inClass (top 56) 5
abbrev s_Editor_tape : Stmt := inClass (top 56) 6
abbrev s_Editor_tape_of : Stmt := inClass (top 56) 7
abbrev s_Editor_record : Stmt := inClass (top 56) 8
abbrev s_Editor_stop : Stmt := inClass (top 56) 9
abbrev s_Editor_back : Stmt := inClass (top 56) 10
abbrev s_Editor_forth : Stmt := inClass (top 56) 11
abbrev s_Editor_go_to : Stmt := inClass (top 56) 12
abbrev s__law_mix : Stmt := top 58
abbrev s__law_next : Stmt := top 59
abbrev s__law_alike : Stmt := top 60
abbrev s__law_sign : Stmt := top 61
abbrev s__law_text : Stmt := top 62
abbrev s__law_single : Stmt := top 63
abbrev s__law_key : Stmt := top 64
abbrev s__law_tape : Stmt := top 65
abbrev s__law_odd_key : Stmt := top 66
abbrev s__law_kind : Stmt := top 67
abbrev s__law_bad_text : Stmt := top 68
abbrev s__law_stands : Stmt := top 69
abbrev s__law_are_refused : Stmt := top 70
abbrev s_law : Stmt := top 71
def d_Page___init__ : He.DefD := ⟨("Page", some "__init__"), "__init__", "Page.__init__", defArgs s_Page___init__, defBody s_Page___init__, defScope s_Page___init__, [], []⟩
def d_are_signs : He.DefD := ⟨("are_signs", none), "are_signs", "are_signs", defArgs s_are_signs, defBody s_are_signs, defScope s_are_signs, [], []⟩
def d_first_page : He.DefD := ⟨("first_page", none), "first_page", "first_page", defArgs s_first_page, defBody s_first_page, defScope s_first_page, [], []⟩
def d_line_at : He.DefD := ⟨("line_at", none), "line_at", "line_at", defArgs s_line_at, defBody s_line_at, defScope s_line_at, [], []⟩
def d_moved : He.DefD := ⟨("moved", none), "moved", "moved", defArgs s_moved, defBody s_moved, defScope s_moved, [], []⟩
def d_with_lines : He.DefD := ⟨("with_lines", none), "with_lines", "with_lines", defArgs s_with_lines, defBody s_with_lines, defScope s_with_lines, [], []⟩
def d_write : He.DefD := ⟨("write", none), "write", "write", defArgs s_write, defBody s_write, defScope s_write, [], []⟩
def d_break_row : He.DefD := ⟨("break_row", none), "break_row", "break_row", defArgs s_break_row, defBody s_break_row, defScope s_break_row, [], []⟩
def d_join_row : He.DefD := ⟨("join_row", none), "join_row", "join_row", defArgs s_join_row, defBody s_join_row, defScope s_join_row, [], []⟩
def d_rub : He.DefD := ⟨("rub", none), "rub", "rub", defArgs s_rub, defBody s_rub, defScope s_rub, [], []⟩
def d_go_left : He.DefD := ⟨("go_left", none), "go_left", "go_left", defArgs s_go_left, defBody s_go_left, defScope s_go_left, [], []⟩
def d_go_right : He.DefD := ⟨("go_right", none), "go_right", "go_right", defArgs s_go_right, defBody s_go_right, defScope s_go_right, [], []⟩
def d_go_to_row : He.DefD := ⟨("go_to_row", none), "go_to_row", "go_to_row", defArgs s_go_to_row, defBody s_go_to_row, defScope s_go_to_row, [], []⟩
def d_go_up : He.DefD := ⟨("go_up", none), "go_up", "go_up", defArgs s_go_up, defBody s_go_up, defScope s_go_up, [], []⟩
def d_go_down : He.DefD := ⟨("go_down", none), "go_down", "go_down", defArgs s_go_down, defBody s_go_down, defScope s_go_down, [], []⟩
def d_go_home : He.DefD := ⟨("go_home", none), "go_home", "go_home", defArgs s_go_home, defBody s_go_home, defScope s_go_home, [], []⟩
def d_go_end : He.DefD := ⟨("go_end", none), "go_end", "go_end", defArgs s_go_end, defBody s_go_end, defScope s_go_end, [], []⟩
def d_find_word : He.DefD := ⟨("find_word", none), "find_word", "find_word", defArgs s_find_word, defBody s_find_word, defScope s_find_word, [], []⟩
def d_take : He.DefD := ⟨("take", none), "take", "take", defArgs s_take, defBody s_take, defScope s_take, [], []⟩
def d_lay : He.DefD := ⟨("lay", none), "lay", "lay", defArgs s_lay, defBody s_lay, defScope s_lay, [], []⟩
def d_page_behind : He.DefD := ⟨("page_behind", none), "page_behind", "page_behind", defArgs s_page_behind, defBody s_page_behind, defScope s_page_behind, [], []⟩
def d_is_word : He.DefD := ⟨("is_word", none), "is_word", "is_word", defArgs s_is_word, defBody s_is_word, defScope s_is_word, [], []⟩
def d_is_number : He.DefD := ⟨("is_number", none), "is_number", "is_number", defArgs s_is_number, defBody s_is_number, defScope s_is_number, [], []⟩
def d_is_key : He.DefD := ⟨("is_key", none), "is_key", "is_key", defArgs s_is_key, defBody s_is_key, defScope s_is_key, [], []⟩
def d_check_key : He.DefD := ⟨("check_key", none), "check_key", "check_key", defArgs s_check_key, defBody s_check_key, defScope s_check_key, [], []⟩
def d_check_name : He.DefD := ⟨("check_name", none), "check_name", "check_name", defArgs s_check_name, defBody s_check_name, defScope s_check_name, [], []⟩
def d_check_keys : He.DefD := ⟨("check_keys", none), "check_keys", "check_keys", defArgs s_check_keys, defBody s_check_keys, defScope s_check_keys, [], []⟩
def d_check_each : He.DefD := ⟨("check_each", none), "check_each", "check_each", defArgs s_check_each, defBody s_check_each, defScope s_check_each, [], []⟩
def d_Player___init__ : He.DefD := ⟨("Player", some "__init__"), "__init__", "Player.__init__", defArgs s_Player___init__, defBody s_Player___init__, defScope s_Player___init__, [], []⟩
def d_Player_do : He.DefD := ⟨("Player", some "do"), "do", "Player.do", defArgs s_Player_do, defBody s_Player_do, defScope s_Player_do, [], []⟩
def d_Player_play : He.DefD := ⟨("Player", some "play"), "play", "Player.play", defArgs s_Player_play, defBody s_Player_play, defScope s_Player_play, [], []⟩
def d_Player_play_till : He.DefD := ⟨("Player", some "play_till"), "play_till", "Player.play_till", defArgs s_Player_play_till, defBody s_Player_play_till, defScope s_Player_play_till, [], []⟩
def d_Player_play_once : He.DefD := ⟨("Player", some "play_once"), "play_once", "Player.play_once", defArgs s_Player_play_once, defBody s_Player_play_once, defScope s_Player_play_once, [], []⟩
def d_Player_add_thing : He.DefD := ⟨("Player", some "add_thing"), "add_thing", "Player.add_thing", defArgs s_Player_add_thing, defBody s_Player_add_thing, defScope s_Player_add_thing, [], []⟩
def d_Editor___init__ : He.DefD := ⟨("Editor", some "__init__"), "__init__", "Editor.__init__", defArgs s_Editor___init__, defBody s_Editor___init__, defScope s_Editor___init__, [], []⟩
def d_Editor_text : He.DefD := ⟨("Editor", some "text"), "text", "Editor.text", defArgs s_Editor_text, defBody s_Editor_text, defScope s_Editor_text, [], []⟩
def d_Editor_place : He.DefD := ⟨("Editor", some "place"), "place", "Editor.place", defArgs s_Editor_place, defBody s_Editor_place, defScope s_Editor_place, [], []⟩
def d_Editor_clip : He.DefD := ⟨("Editor", some "clip"), "clip", "Editor.clip", defArgs s_Editor_clip, defBody s_Editor_clip, defScope s_Editor_clip, [], []⟩
def d_Editor_press : He.DefD := ⟨("Editor", some "press"), "press", "Editor.press", defArgs s_Editor_press, defBody s_Editor_press, defScope s_Editor_press, [], []⟩
def d_Editor_hand : He.DefD := ⟨("Editor", some "hand"), "hand", "Editor.hand", defArgs s_Editor_hand, defBody s_Editor_hand, defScope s_Editor_hand, [], []⟩
def d_Editor_tape : He.DefD := ⟨("Editor", some "tape"), "tape", "Editor.tape", defArgs s_Editor_tape, defBody s_Editor_tape, defScope s_Editor_tape, [], []⟩
def d_Editor_tape_of : He.DefD := ⟨("Editor", some "tape_of"), "tape_of", "Editor.tape_of", defArgs s_Editor_tape_of, defBody s_Editor_tape_of, defScope s_Editor_tape_of, [], []⟩
def d_Editor_record : He.DefD := ⟨("Editor", some "record"), "record", "Editor.record", defArgs s_Editor_record, defBody s_Editor_record, defScope s_Editor_record, [], []⟩
def d_Editor_stop : He.DefD := ⟨("Editor", some "stop"), "stop", "Editor.stop", defArgs s_Editor_stop, defBody s_Editor_stop, defScope s_Editor_stop, [], []⟩
def d_Editor_back : He.DefD := ⟨("Editor", some "back"), "back", "Editor.back", defArgs s_Editor_back, defBody s_Editor_back, defScope s_Editor_back, [], []⟩
def d_Editor_forth : He.DefD := ⟨("Editor", some "forth"), "forth", "Editor.forth", defArgs s_Editor_forth, defBody s_Editor_forth, defScope s_Editor_forth, [], []⟩
def d_Editor_go_to : He.DefD := ⟨("Editor", some "go_to"), "go_to", "Editor.go_to", defArgs s_Editor_go_to, defBody s_Editor_go_to, defScope s_Editor_go_to, [], []⟩
def d__law_mix : He.DefD := ⟨("_law_mix", none), "_law_mix", "_law_mix", defArgs s__law_mix, defBody s__law_mix, defScope s__law_mix, [], []⟩
def d__law_next : He.DefD := ⟨("_law_next", none), "_law_next", "_law_next", defArgs s__law_next, defBody s__law_next, defScope s__law_next, [], []⟩
def d__law_alike : He.DefD := ⟨("_law_alike", none), "_law_alike", "_law_alike", defArgs s__law_alike, defBody s__law_alike, defScope s__law_alike, [], []⟩
def d__law_sign : He.DefD := ⟨("_law_sign", none), "_law_sign", "_law_sign", defArgs s__law_sign, defBody s__law_sign, defScope s__law_sign, [], []⟩
def d__law_text : He.DefD := ⟨("_law_text", none), "_law_text", "_law_text", defArgs s__law_text, defBody s__law_text, defScope s__law_text, [], []⟩
def d__law_single : He.DefD := ⟨("_law_single", none), "_law_single", "_law_single", defArgs s__law_single, defBody s__law_single, defScope s__law_single, [], []⟩
def d__law_key : He.DefD := ⟨("_law_key", none), "_law_key", "_law_key", defArgs s__law_key, defBody s__law_key, defScope s__law_key, [], []⟩
def d__law_tape : He.DefD := ⟨("_law_tape", none), "_law_tape", "_law_tape", defArgs s__law_tape, defBody s__law_tape, defScope s__law_tape, [], []⟩
def d__law_odd_key : He.DefD := ⟨("_law_odd_key", none), "_law_odd_key", "_law_odd_key", defArgs s__law_odd_key, defBody s__law_odd_key, defScope s__law_odd_key, [], []⟩
def d__law_kind : He.DefD := ⟨("_law_kind", none), "_law_kind", "_law_kind", defArgs s__law_kind, defBody s__law_kind, defScope s__law_kind, [], []⟩
def d__law_bad_text : He.DefD := ⟨("_law_bad_text", none), "_law_bad_text", "_law_bad_text", defArgs s__law_bad_text, defBody s__law_bad_text, defScope s__law_bad_text, [], []⟩
def d__law_stands : He.DefD := ⟨("_law_stands", none), "_law_stands", "_law_stands", defArgs s__law_stands, defBody s__law_stands, defScope s__law_stands, [], []⟩
def d__law_are_refused : He.DefD := ⟨("_law_are_refused", none), "_law_are_refused", "_law_are_refused", defArgs s__law_are_refused, defBody s__law_are_refused, defScope s__law_are_refused, [], []⟩
def d_law : He.DefD := ⟨("law", none), "law", "law", defArgs s_law, defBody s_law, defScope s_law, [], []⟩
def fn : List He.DefD := [d_Page___init__, d_are_signs, d_first_page, d_line_at, d_moved, d_with_lines, d_write, d_break_row, d_join_row, d_rub, d_go_left, d_go_right, d_go_to_row, d_go_up, d_go_down, d_go_home, d_go_end, d_find_word, d_take, d_lay, d_page_behind, d_is_word, d_is_number, d_is_key, d_check_key, d_check_name, d_check_keys, d_check_each, d_Player___init__, d_Player_do, d_Player_play, d_Player_play_till, d_Player_play_once, d_Player_add_thing, d_Editor___init__, d_Editor_text, d_Editor_place, d_Editor_clip, d_Editor_press, d_Editor_hand, d_Editor_tape, d_Editor_tape_of, d_Editor_record, d_Editor_stop, d_Editor_back, d_Editor_forth, d_Editor_go_to, d__law_mix, d__law_next, d__law_alike, d__law_sign, d__law_text, d__law_single, d__law_key, d__law_tape, d__law_odd_key, d__law_kind, d__law_bad_text, d__law_stands, d__law_are_refused, d_law]
def fa : List He.Fa := [.glo "TapeError", .glo "BadText", .glo "BadKey", .glo "BadKeys", .glo "BadName", .glo "BadNames", .glo "BadNumbers", .glo "Taping", .glo "NotTaping", .glo "TooLong", .glo "BadTape", .glo "Page", .glo "are_signs", .glo "first_page", .glo "line_at", .glo "moved", .glo "with_lines", .glo "write", .glo "break_row", .glo "join_row", .glo "rub", .glo "go_left", .glo "go_right", .glo "go_to_row", .glo "go_up", .glo "go_down", .glo "go_home", .glo "go_end", .glo "find_word", .glo "take", .glo "lay", .glo "page_behind", .glo "is_word", .glo "is_number", .glo "is_key", .glo "check_key", .glo "check_name", .glo "check_keys", .glo "check_each", .glo "Player", .glo "Editor", .glo "_law_mix", .glo "_law_next", .glo "_law_alike", .glo "_law_sign", .glo "_law_text", .glo "_law_single", .glo "_law_key", .glo "_law_tape", .glo "_law_odd_key", .glo "_law_kind", .glo "_law_bad_text", .glo "_law_stands", .glo "_law_are_refused", .glo "law", .glo "ACTIONS", .glo "NAMES", .free "all", .free "bool", .free "enumerate", .free "int", .free "isinstance", .free "len", .free "list", .free "max", .free "min", .free "range", .free "str", .free "super", .free "tuple", .free "ValueError", .int "MOST_ROWS" 12, .int "MOST_SIGNS" 60, .int "MOST_KEYS" 30, .int "MOST_TIMES" 9, .int "LONGEST_WORD" 4, .int "MOST_THINGS" 400, .int "MOST_AROUND" 20, .exc "BadText", .exc "BadKey", .exc "BadName", .exc "Taping", .exc "NotTaping", .exc "TooLong", .cls "Page", .mkr "Page", .noat "Page" "rows", .noat "Page" "row", .noat "Page" "column", .noat "Page" "clipped", .cls "Player", .mkr "Player", .noat "Player" "page", .noat "Player" "tapes", .noat "Player" "typed", .noat "Player" "things", .meth "Player" "do", .meth "Player" "play", .meth "Player" "play_till", .meth "Player" "play_once", .meth "Player" "add_thing", .cls "Editor", .mkr "Editor", .noat "Editor" "page", .noat "Editor" "tapes", .noat "Editor" "recorded", .noat "Editor" "pressed", .noat "Editor" "units", .noat "Editor" "undone", .meth "Editor" "text", .meth "Editor" "place", .meth "Editor" "clip", .meth "Editor" "press", .meth "Editor" "hand", .meth "Editor" "tape", .meth "Editor" "tape_of", .meth "Editor" "record", .meth "Editor" "stop", .meth "Editor" "back", .meth "Editor" "forth", .meth "Editor" "go_to"]
def ts : List He.Tab := [((fun K => He.ga K "ACTIONS"), ["break", "rub", "left", "right", "up", "down", "home", "end", "take", "lay"])]
def acts : List (Str × He.Dv) := [("break", .glo "break_row"), ("rub", .glo "rub"), ("left", .glo "go_left"), ("right", .glo "go_right"), ("up", .glo "go_up"), ("down", .glo "go_down"), ("home", .glo "go_home"), ("end", .glo "go_end"), ("take", .glo "take"), ("lay", .glo "lay")]
def ex0 (K : PySem.W.Frag) : Bool := He.tupB K "NAMES" [.str "a", .str "b", .str "c", .str "d", .str "e", .str "f", .str "g", .str "h"] && He.valsB K (He.ga K "ACTIONS") acts
def kinds10 : List Str := ["BadKeys", "BadTape", "BadText", "BadKey", "BadName", "BadNames", "BadNumbers", "Taping", "NotTaping", "TooLong"]
def excs : List Str := kinds10
def excB (K : PySem.W.Frag) (x : Str) : Bool := He.eqO (PySem.W.findIn K (.ref (He.ga K x)) "__getattribute__") (some (some (.builtin "BaseException.__getattribute__"))) && (He.eqO (PySem.W.findIn K (.ref (He.ga K x)) "__getattr__") (some none) && (decide (PySem.W.subIn K (.ref (He.ga K x)) (.type "BaseException") = some true) && (PySem.W.hasDictIn K (He.ga K x) && (He.eqO (PySem.W.findIn K (.ref (He.ga K x)) "__class__") (some (some (.builtin "object.__class__"))) && (He.eqO (PySem.W.specialIn K (.builtin "object.__class__") "__get__") (some (some (.builtin "getset_descriptor.__get__"))) && (decide (PySem.W.takesIn K (.builtin "object.__class__") = some true) && (decide (PySem.W.mroIn K (He.ga K x) (.type "object") = some true) && (kinds10.all (fun y => decide (PySem.W.kitOne K (.ref (He.ga K x)) (.ref (He.ga K y)) = some (decide (x = y)))) && (decide (PySem.W.kitOne K (.ref (He.ga K x)) (.type "ValueError") = some true) && decide (PySem.W.exmOne K (.ref (He.ga K x)) (.ref (He.ga K "TapeError")) = some true))))))))))
def makers : List He.Defn := [("_law_are_refused", none), ("law", none)]
def ex1 (K : PySem.W.Frag) : Bool := excs.all (excB K) && (makers.all fun p => decide ((He.cT K p).2 ≠ (He.cT K ("are_signs", none)).2)) && decide ((makers.map fun p => (He.cT K p).2).Nodup)
abbrev s_BadKeys___init__ : Stmt := inClass (top 5) 0
abbrev s_BadTape___init__ : Stmt := inClass (top 12) 0
def gens : List He.Defn := []
def ex2 (K : PySem.W.Frag) : Bool := supB K (He.ga K "BadKeys") "BadKeys.__init__" (defArgs s_BadKeys___init__) (defBody s_BadKeys___init__) (defScope s_BadKeys___init__) PySem.Challenge.pw_keytape_k01_refusals.main.file "at" && supB K (He.ga K "BadTape") "BadTape.__init__" (defArgs s_BadTape___init__) (defBody s_BadTape___init__) (defScope s_BadTape___init__) PySem.Challenge.pw_keytape_k01_refusals.main.file "line" && noActs K (He.ga K "ACTIONS") && keysAre K (He.ga K "ACTIONS") ["break", "rub", "left", "right", "up", "down", "home", "end", "take", "lay"]
def ex (K : PySem.W.Frag) : Bool := (ex0 K && ex1 K) && ex2 K
def tf : List He.Defn := ("are_signs", none) :: makers
abbrev R : PySem.W.OpenRow := PySem.W.OpenLaw.row PySem.Challenge.rw_keytape_k01_refusals
abbrev hk : PySem.W.Hook := hookS 4 fa fn ts tf ex
def ob (s : PySem.W.SharedT) : He.AlX := obsS 4 fa fn ts tf ex (HandSHeadRun.getT s)
theorem ob_eq (s : PySem.W.SharedT) : ob s = hk.obs s.abs := obsS_eq (HandSHeadRun.getT_eq s)
def lo0 : List Str := ["_wall", "__name__", "TapeError", "BadText", "BadKey", "BadKeys", "BadName", "BadNames", "BadNumbers", "Taping", "NotTaping", "TooLong", "BadTape", "MOST_ROWS", "MOST_SIGNS", "Page", "are_signs", "first_page", "line_at", "moved", "with_lines", "write", "break_row", "join_row", "rub", "go_left", "go_right", "go_to_row", "go_up", "go_down"]
def lo1 : List Str := ["go_home", "go_end", "find_word", "take", "lay", "ACTIONS", "page_behind", "NAMES", "MOST_KEYS", "MOST_TIMES", "LONGEST_WORD", "is_word", "is_number", "is_key", "check_key", "check_name", "check_keys", "check_each", "MOST_THINGS", "MOST_AROUND", "Player", "Editor", "_law_mix", "_law_next", "_law_alike", "_law_sign", "_law_text", "_law_single", "_law_key", "_law_tape"]
def lo2 : List Str := ["_law_odd_key", "_law_kind", "_law_bad_text", "_law_stands", "_law_are_refused"]
def loose : List Str := lo0 ++ lo1 ++ lo2
structure Tx (w : World) (K : PySem.W.Frag) (mg : Str → Option Value) : Prop where
  ex : ∃ h : Heap, K.In h ∧ h.Ns mainGlobals mg ∧ He.SaysX fa fn ts tf ex w h K
abbrev Ad (K : PySem.W.Frag) (p : Str × Option Str) : Addr := He.fAd K p
def fdOf (K : PySem.W.Frag) (a : Addr) : FuncData := match K.lookup a with
  | some ⟨_, _, .func fd, _⟩ => fd
  | _ => PySem.W.fnOf "" "" ⟨[], [], none, [], [], none, []⟩ [] ⟨.function, [], false, false, []⟩ .none .none .none .none none .none .none
section
variable {w : World} {K : PySem.W.Frag} {mg : Str → Option Value}
abbrev FnT (K : PySem.W.Frag) (d : He.DefD) : Prop := FunD K d.name d.qual d.params d.body d.scope (d.dvs K) (d.kws K) (Ad K d.at_) (fdOf K (Ad K d.at_))
theorem Tx.fn (T : Tx w K mg) (i : Nat) {d : He.DefD} (h : KT.fn[i]? = some d := by rfl) : FnT K d := by
  obtain ⟨_, _, _, c⟩ := T.ex
  obtain ⟨fd, F⟩ := c.t.d.def_ i (d := d) h
  have e : fdOf K (Ad K d.at_) = fd := by
    obtain ⟨oc, od, dV, kV, doc, pm, an, cdv, ct, osl, e, lk, _⟩ := F.ex
    unfold fdOf
    rw [lk]
  unfold FnT
  rw [e]
  exact F
theorem Tx.glo (T : Tx w K mg) (i : Nat) {x : Str} (h : KT.fa[i]? = some (.glo x) := by rfl) : mg x = some (.ref (He.ga K x)) := by
  obtain ⟨_, X, G, c⟩ := T.ex
  exact He.glo_ok X G (c.t.d.fact i h)
theorem Tx.free (T : Tx w K mg) (i : Nat) {x : Str} (h : KT.fa[i]? = some (.free x) := by rfl) : mg x = none := by
  obtain ⟨_, X, G, c⟩ := T.ex
  exact He.free_ok X G (c.t.d.fact i h)
theorem Tx.int (T : Tx w K mg) (i : Nat) {x : Str} {n : Int} (h : KT.fa[i]? = some (.int x n) := by rfl) : ∃ t, mg x = some (.int n t) := by
  obtain ⟨_, X, G, c⟩ := T.ex
  exact He.int_ok X G (c.t.d.fact i h)
theorem Tx.fact (T : Tx w K mg) (i : Nat) {f : He.Fa} (h : KT.fa[i]? = some f := by rfl) : f.ok K = true := by
  obtain ⟨_, _, _, c⟩ := T.ex
  exact c.t.d.fact i h
theorem Tx.more0 (T : Tx w K mg) : ex0 K = true := by
  obtain ⟨_, _, _, c⟩ := T.ex
  have := c.more
  unfold KT.ex at this
  exact (He.ba (He.ba this).1).1
theorem Tx.more1 (T : Tx w K mg) : ex1 K = true := by
  obtain ⟨_, _, _, c⟩ := T.ex
  have := c.more
  unfold KT.ex at this
  exact (He.ba (He.ba this).1).2
theorem Tx.more2 (T : Tx w K mg) : ex2 K = true := by
  obtain ⟨_, _, _, c⟩ := T.ex
  have := c.more
  unfold KT.ex at this
  exact (He.ba this).2
theorem Tx.x0 (T : Tx w K mg) : (supB K (He.ga K "BadKeys") "BadKeys.__init__" (defArgs s_BadKeys___init__) (defBody s_BadKeys___init__) (defScope s_BadKeys___init__) PySem.Challenge.pw_keytape_k01_refusals.main.file "at") = true := by
  have h := T.more2
  unfold ex2 at h
  simp only [Bool.and_eq_true] at h
  exact h.1.1.1
abbrev Tx.supB_BadKeys (T : Tx w K mg) := T.x0
theorem Tx.x1 (T : Tx w K mg) : (supB K (He.ga K "BadTape") "BadTape.__init__" (defArgs s_BadTape___init__) (defBody s_BadTape___init__) (defScope s_BadTape___init__) PySem.Challenge.pw_keytape_k01_refusals.main.file "line") = true := by
  have h := T.more2
  unfold ex2 at h
  simp only [Bool.and_eq_true] at h
  exact h.1.1.2
abbrev Tx.supB_BadTape (T : Tx w K mg) := T.x1
theorem Tx.x2 (T : Tx w K mg) : (noActs K (He.ga K "ACTIONS")) = true := by
  have h := T.more2
  unfold ex2 at h
  simp only [Bool.and_eq_true] at h
  exact h.1.2
abbrev Tx.noActs (T : Tx w K mg) := T.x2
theorem Tx.x3 (T : Tx w K mg) : (keysAre K (He.ga K "ACTIONS") ["break", "rub", "left", "right", "up", "down", "home", "end", "take", "lay"]) = true := by
  have h := T.more2
  unfold ex2 at h
  simp only [Bool.and_eq_true] at h
  exact h.2
abbrev Tx.keysAre (T : Tx w K mg) := T.x3
theorem Tx.f_Page___init__ (T : Tx w K mg) : FnT K d_Page___init__ := T.fn 0
theorem Tx.f_are_signs (T : Tx w K mg) : FnT K d_are_signs := T.fn 1
theorem Tx.f_first_page (T : Tx w K mg) : FnT K d_first_page := T.fn 2
theorem Tx.f_line_at (T : Tx w K mg) : FnT K d_line_at := T.fn 3
theorem Tx.f_moved (T : Tx w K mg) : FnT K d_moved := T.fn 4
theorem Tx.f_with_lines (T : Tx w K mg) : FnT K d_with_lines := T.fn 5
theorem Tx.f_write (T : Tx w K mg) : FnT K d_write := T.fn 6
theorem Tx.f_break_row (T : Tx w K mg) : FnT K d_break_row := T.fn 7
theorem Tx.f_join_row (T : Tx w K mg) : FnT K d_join_row := T.fn 8
theorem Tx.f_rub (T : Tx w K mg) : FnT K d_rub := T.fn 9
theorem Tx.f_go_left (T : Tx w K mg) : FnT K d_go_left := T.fn 10
theorem Tx.f_go_right (T : Tx w K mg) : FnT K d_go_right := T.fn 11
theorem Tx.f_go_to_row (T : Tx w K mg) : FnT K d_go_to_row := T.fn 12
theorem Tx.f_go_up (T : Tx w K mg) : FnT K d_go_up := T.fn 13
theorem Tx.f_go_down (T : Tx w K mg) : FnT K d_go_down := T.fn 14
theorem Tx.f_go_home (T : Tx w K mg) : FnT K d_go_home := T.fn 15
theorem Tx.f_go_end (T : Tx w K mg) : FnT K d_go_end := T.fn 16
theorem Tx.f_find_word (T : Tx w K mg) : FnT K d_find_word := T.fn 17
theorem Tx.f_take (T : Tx w K mg) : FnT K d_take := T.fn 18
theorem Tx.f_lay (T : Tx w K mg) : FnT K d_lay := T.fn 19
theorem Tx.f_page_behind (T : Tx w K mg) : FnT K d_page_behind := T.fn 20
theorem Tx.f_is_word (T : Tx w K mg) : FnT K d_is_word := T.fn 21
theorem Tx.f_is_number (T : Tx w K mg) : FnT K d_is_number := T.fn 22
theorem Tx.f_is_key (T : Tx w K mg) : FnT K d_is_key := T.fn 23
theorem Tx.f_check_key (T : Tx w K mg) : FnT K d_check_key := T.fn 24
theorem Tx.f_check_name (T : Tx w K mg) : FnT K d_check_name := T.fn 25
theorem Tx.f_check_keys (T : Tx w K mg) : FnT K d_check_keys := T.fn 26
theorem Tx.f_check_each (T : Tx w K mg) : FnT K d_check_each := T.fn 27
theorem Tx.f_Player___init__ (T : Tx w K mg) : FnT K d_Player___init__ := T.fn 28
theorem Tx.f_Player_do (T : Tx w K mg) : FnT K d_Player_do := T.fn 29
theorem Tx.f_Player_play (T : Tx w K mg) : FnT K d_Player_play := T.fn 30
theorem Tx.f_Player_play_till (T : Tx w K mg) : FnT K d_Player_play_till := T.fn 31
theorem Tx.f_Player_play_once (T : Tx w K mg) : FnT K d_Player_play_once := T.fn 32
theorem Tx.f_Player_add_thing (T : Tx w K mg) : FnT K d_Player_add_thing := T.fn 33
theorem Tx.f_Editor___init__ (T : Tx w K mg) : FnT K d_Editor___init__ := T.fn 34
theorem Tx.f_Editor_text (T : Tx w K mg) : FnT K d_Editor_text := T.fn 35
theorem Tx.f_Editor_place (T : Tx w K mg) : FnT K d_Editor_place := T.fn 36
theorem Tx.f_Editor_clip (T : Tx w K mg) : FnT K d_Editor_clip := T.fn 37
theorem Tx.f_Editor_press (T : Tx w K mg) : FnT K d_Editor_press := T.fn 38
theorem Tx.f_Editor_hand (T : Tx w K mg) : FnT K d_Editor_hand := T.fn 39
theorem Tx.f_Editor_tape (T : Tx w K mg) : FnT K d_Editor_tape := T.fn 40
theorem Tx.f_Editor_tape_of (T : Tx w K mg) : FnT K d_Editor_tape_of := T.fn 41
theorem Tx.f_Editor_record (T : Tx w K mg) : FnT K d_Editor_record := T.fn 42
theorem Tx.f_Editor_stop (T : Tx w K mg) : FnT K d_Editor_stop := T.fn 43
theorem Tx.f_Editor_back (T : Tx w K mg) : FnT K d_Editor_back := T.fn 44
theorem Tx.f_Editor_forth (T : Tx w K mg) : FnT K d_Editor_forth := T.fn 45
theorem Tx.f_Editor_go_to (T : Tx w K mg) : FnT K d_Editor_go_to := T.fn 46
theorem Tx.f__law_mix (T : Tx w K mg) : FnT K d__law_mix := T.fn 47
theorem Tx.f__law_next (T : Tx w K mg) : FnT K d__law_next := T.fn 48
theorem Tx.f__law_alike (T : Tx w K mg) : FnT K d__law_alike := T.fn 49
theorem Tx.f__law_sign (T : Tx w K mg) : FnT K d__law_sign := T.fn 50
theorem Tx.f__law_text (T : Tx w K mg) : FnT K d__law_text := T.fn 51
theorem Tx.f__law_single (T : Tx w K mg) : FnT K d__law_single := T.fn 52
theorem Tx.f__law_key (T : Tx w K mg) : FnT K d__law_key := T.fn 53
theorem Tx.f__law_tape (T : Tx w K mg) : FnT K d__law_tape := T.fn 54
theorem Tx.f__law_odd_key (T : Tx w K mg) : FnT K d__law_odd_key := T.fn 55
theorem Tx.f__law_kind (T : Tx w K mg) : FnT K d__law_kind := T.fn 56
theorem Tx.f__law_bad_text (T : Tx w K mg) : FnT K d__law_bad_text := T.fn 57
theorem Tx.f__law_stands (T : Tx w K mg) : FnT K d__law_stands := T.fn 58
theorem Tx.f__law_are_refused (T : Tx w K mg) : FnT K d__law_are_refused := T.fn 59
theorem Tx.f_law (T : Tx w K mg) : FnT K d_law := T.fn 60
theorem Tx.g_TapeError (T : Tx w K mg) : mg "TapeError" = some (.ref (He.ga K "TapeError")) := T.glo 0
theorem Tx.g_BadText (T : Tx w K mg) : mg "BadText" = some (.ref (He.ga K "BadText")) := T.glo 1
theorem Tx.g_BadKey (T : Tx w K mg) : mg "BadKey" = some (.ref (He.ga K "BadKey")) := T.glo 2
theorem Tx.g_BadKeys (T : Tx w K mg) : mg "BadKeys" = some (.ref (He.ga K "BadKeys")) := T.glo 3
theorem Tx.g_BadName (T : Tx w K mg) : mg "BadName" = some (.ref (He.ga K "BadName")) := T.glo 4
theorem Tx.g_BadNames (T : Tx w K mg) : mg "BadNames" = some (.ref (He.ga K "BadNames")) := T.glo 5
theorem Tx.g_BadNumbers (T : Tx w K mg) : mg "BadNumbers" = some (.ref (He.ga K "BadNumbers")) := T.glo 6
theorem Tx.g_Taping (T : Tx w K mg) : mg "Taping" = some (.ref (He.ga K "Taping")) := T.glo 7
theorem Tx.g_NotTaping (T : Tx w K mg) : mg "NotTaping" = some (.ref (He.ga K "NotTaping")) := T.glo 8
theorem Tx.g_TooLong (T : Tx w K mg) : mg "TooLong" = some (.ref (He.ga K "TooLong")) := T.glo 9
theorem Tx.g_BadTape (T : Tx w K mg) : mg "BadTape" = some (.ref (He.ga K "BadTape")) := T.glo 10
theorem Tx.g_Page (T : Tx w K mg) : mg "Page" = some (.ref (He.ga K "Page")) := T.glo 11
theorem Tx.g_are_signs (T : Tx w K mg) : mg "are_signs" = some (.ref (He.ga K "are_signs")) := T.glo 12
theorem Tx.g_first_page (T : Tx w K mg) : mg "first_page" = some (.ref (He.ga K "first_page")) := T.glo 13
theorem Tx.g_line_at (T : Tx w K mg) : mg "line_at" = some (.ref (He.ga K "line_at")) := T.glo 14
theorem Tx.g_moved (T : Tx w K mg) : mg "moved" = some (.ref (He.ga K "moved")) := T.glo 15
theorem Tx.g_with_lines (T : Tx w K mg) : mg "with_lines" = some (.ref (He.ga K "with_lines")) := T.glo 16
theorem Tx.g_write (T : Tx w K mg) : mg "write" = some (.ref (He.ga K "write")) := T.glo 17
theorem Tx.g_break_row (T : Tx w K mg) : mg "break_row" = some (.ref (He.ga K "break_row")) := T.glo 18
theorem Tx.g_join_row (T : Tx w K mg) : mg "join_row" = some (.ref (He.ga K "join_row")) := T.glo 19
theorem Tx.g_rub (T : Tx w K mg) : mg "rub" = some (.ref (He.ga K "rub")) := T.glo 20
theorem Tx.g_go_left (T : Tx w K mg) : mg "go_left" = some (.ref (He.ga K "go_left")) := T.glo 21
theorem Tx.g_go_right (T : Tx w K mg) : mg "go_right" = some (.ref (He.ga K "go_right")) := T.glo 22
theorem Tx.g_go_to_row (T : Tx w K mg) : mg "go_to_row" = some (.ref (He.ga K "go_to_row")) := T.glo 23
theorem Tx.g_go_up (T : Tx w K mg) : mg "go_up" = some (.ref (He.ga K "go_up")) := T.glo 24
theorem Tx.g_go_down (T : Tx w K mg) : mg "go_down" = some (.ref (He.ga K "go_down")) := T.glo 25
theorem Tx.g_go_home (T : Tx w K mg) : mg "go_home" = some (.ref (He.ga K "go_home")) := T.glo 26
theorem Tx.g_go_end (T : Tx w K mg) : mg "go_end" = some (.ref (He.ga K "go_end")) := T.glo 27
theorem Tx.g_find_word (T : Tx w K mg) : mg "find_word" = some (.ref (He.ga K "find_word")) := T.glo 28
theorem Tx.g_take (T : Tx w K mg) : mg "take" = some (.ref (He.ga K "take")) := T.glo 29
theorem Tx.g_lay (T : Tx w K mg) : mg "lay" = some (.ref (He.ga K "lay")) := T.glo 30
theorem Tx.g_page_behind (T : Tx w K mg) : mg "page_behind" = some (.ref (He.ga K "page_behind")) := T.glo 31
theorem Tx.g_is_word (T : Tx w K mg) : mg "is_word" = some (.ref (He.ga K "is_word")) := T.glo 32
theorem Tx.g_is_number (T : Tx w K mg) : mg "is_number" = some (.ref (He.ga K "is_number")) := T.glo 33
theorem Tx.g_is_key (T : Tx w K mg) : mg "is_key" = some (.ref (He.ga K "is_key")) := T.glo 34
theorem Tx.g_check_key (T : Tx w K mg) : mg "check_key" = some (.ref (He.ga K "check_key")) := T.glo 35
theorem Tx.g_check_name (T : Tx w K mg) : mg "check_name" = some (.ref (He.ga K "check_name")) := T.glo 36
theorem Tx.g_check_keys (T : Tx w K mg) : mg "check_keys" = some (.ref (He.ga K "check_keys")) := T.glo 37
theorem Tx.g_check_each (T : Tx w K mg) : mg "check_each" = some (.ref (He.ga K "check_each")) := T.glo 38
theorem Tx.g_Player (T : Tx w K mg) : mg "Player" = some (.ref (He.ga K "Player")) := T.glo 39
theorem Tx.g_Editor (T : Tx w K mg) : mg "Editor" = some (.ref (He.ga K "Editor")) := T.glo 40
theorem Tx.g__law_mix (T : Tx w K mg) : mg "_law_mix" = some (.ref (He.ga K "_law_mix")) := T.glo 41
theorem Tx.g__law_next (T : Tx w K mg) : mg "_law_next" = some (.ref (He.ga K "_law_next")) := T.glo 42
theorem Tx.g__law_alike (T : Tx w K mg) : mg "_law_alike" = some (.ref (He.ga K "_law_alike")) := T.glo 43
theorem Tx.g__law_sign (T : Tx w K mg) : mg "_law_sign" = some (.ref (He.ga K "_law_sign")) := T.glo 44
theorem Tx.g__law_text (T : Tx w K mg) : mg "_law_text" = some (.ref (He.ga K "_law_text")) := T.glo 45
theorem Tx.g__law_single (T : Tx w K mg) : mg "_law_single" = some (.ref (He.ga K "_law_single")) := T.glo 46
theorem Tx.g__law_key (T : Tx w K mg) : mg "_law_key" = some (.ref (He.ga K "_law_key")) := T.glo 47
theorem Tx.g__law_tape (T : Tx w K mg) : mg "_law_tape" = some (.ref (He.ga K "_law_tape")) := T.glo 48
theorem Tx.g__law_odd_key (T : Tx w K mg) : mg "_law_odd_key" = some (.ref (He.ga K "_law_odd_key")) := T.glo 49
theorem Tx.g__law_kind (T : Tx w K mg) : mg "_law_kind" = some (.ref (He.ga K "_law_kind")) := T.glo 50
theorem Tx.g__law_bad_text (T : Tx w K mg) : mg "_law_bad_text" = some (.ref (He.ga K "_law_bad_text")) := T.glo 51
theorem Tx.g__law_stands (T : Tx w K mg) : mg "_law_stands" = some (.ref (He.ga K "_law_stands")) := T.glo 52
theorem Tx.g__law_are_refused (T : Tx w K mg) : mg "_law_are_refused" = some (.ref (He.ga K "_law_are_refused")) := T.glo 53
theorem Tx.g_law (T : Tx w K mg) : mg "law" = some (.ref (He.ga K "law")) := T.glo 54
theorem Tx.g_ACTIONS (T : Tx w K mg) : mg "ACTIONS" = some (.ref (He.ga K "ACTIONS")) := T.glo 55
theorem Tx.g_NAMES (T : Tx w K mg) : mg "NAMES" = some (.ref (He.ga K "NAMES")) := T.glo 56
theorem Tx.n_all (T : Tx w K mg) : mg "all" = none := T.free 57
theorem Tx.n_bool (T : Tx w K mg) : mg "bool" = none := T.free 58
theorem Tx.n_enumerate (T : Tx w K mg) : mg "enumerate" = none := T.free 59
theorem Tx.n_int (T : Tx w K mg) : mg "int" = none := T.free 60
theorem Tx.n_isinstance (T : Tx w K mg) : mg "isinstance" = none := T.free 61
theorem Tx.n_len (T : Tx w K mg) : mg "len" = none := T.free 62
theorem Tx.n_list (T : Tx w K mg) : mg "list" = none := T.free 63
theorem Tx.n_max (T : Tx w K mg) : mg "max" = none := T.free 64
theorem Tx.n_min (T : Tx w K mg) : mg "min" = none := T.free 65
theorem Tx.n_range (T : Tx w K mg) : mg "range" = none := T.free 66
theorem Tx.n_str (T : Tx w K mg) : mg "str" = none := T.free 67
theorem Tx.n_super (T : Tx w K mg) : mg "super" = none := T.free 68
theorem Tx.n_tuple (T : Tx w K mg) : mg "tuple" = none := T.free 69
theorem Tx.n_ValueError (T : Tx w K mg) : mg "ValueError" = none := T.free 70
theorem Tx.i_MOST_ROWS (T : Tx w K mg) : ∃ t, mg "MOST_ROWS" = some (.int 12 t) := T.int 71
theorem Tx.i_MOST_SIGNS (T : Tx w K mg) : ∃ t, mg "MOST_SIGNS" = some (.int 60 t) := T.int 72
theorem Tx.i_MOST_KEYS (T : Tx w K mg) : ∃ t, mg "MOST_KEYS" = some (.int 30 t) := T.int 73
theorem Tx.i_MOST_TIMES (T : Tx w K mg) : ∃ t, mg "MOST_TIMES" = some (.int 9 t) := T.int 74
theorem Tx.i_LONGEST_WORD (T : Tx w K mg) : ∃ t, mg "LONGEST_WORD" = some (.int 4 t) := T.int 75
theorem Tx.i_MOST_THINGS (T : Tx w K mg) : ∃ t, mg "MOST_THINGS" = some (.int 400 t) := T.int 76
theorem Tx.i_MOST_AROUND (T : Tx w K mg) : ∃ t, mg "MOST_AROUND" = some (.int 20 t) := T.int 77
theorem Tx.e_BadText (T : Tx w K mg) : PySem.W.excIn K (He.ga K "BadText") He.veBase "ValueError.__new__" = true ∧ PySem.W.keepIn K (.ref (He.ga K "BadText")) = true ∧ PySem.W.subIn K (.ref (He.ga K "BadText")) (.type "BaseException") = some true ∧ PySem.W.typeIn K (.ref (He.ga K "BadText")) = some (.type "type") := He.exc_ok (T.fact 78 (f := .exc "BadText"))
theorem pmk_BadText {P : Program} {base : Heap} {N : List Str} {d : He.DefD} {cdv : Value} {A : Around} {outer : List Env} {s : Shared} {H : Hp} {E : XK} {m : Str} {j : Nat} {p p2 pos : Pos} (T : Tx w K mg) (hg : Gl (cxOf (L2.CX P w) P w K mg base N d.qual d.scope (Ad K d.at_) cdv A outer s H E) "BadText") : PMk (cxOf (L2.CX P w) P w K mg base N d.qual d.scope (Ad K d.at_) cdv A outer s H E) (.Call (.Name "BadText" p) [.Constant (.str m) j p2] [] pos) (fun _ H Q => Q (.ref (He.ga K "BadText")) none H) := pmk_own PySem.F.excBase_ValueError T.e_BadText.1 T.g_BadText T.e_BadText.2.1 (raises_own T.e_BadText.2.2.1 T.e_BadText.2.2.2) hg
theorem Tx.e_BadKey (T : Tx w K mg) : PySem.W.excIn K (He.ga K "BadKey") He.veBase "ValueError.__new__" = true ∧ PySem.W.keepIn K (.ref (He.ga K "BadKey")) = true ∧ PySem.W.subIn K (.ref (He.ga K "BadKey")) (.type "BaseException") = some true ∧ PySem.W.typeIn K (.ref (He.ga K "BadKey")) = some (.type "type") := He.exc_ok (T.fact 79 (f := .exc "BadKey"))
theorem pmk_BadKey {P : Program} {base : Heap} {N : List Str} {d : He.DefD} {cdv : Value} {A : Around} {outer : List Env} {s : Shared} {H : Hp} {E : XK} {m : Str} {j : Nat} {p p2 pos : Pos} (T : Tx w K mg) (hg : Gl (cxOf (L2.CX P w) P w K mg base N d.qual d.scope (Ad K d.at_) cdv A outer s H E) "BadKey") : PMk (cxOf (L2.CX P w) P w K mg base N d.qual d.scope (Ad K d.at_) cdv A outer s H E) (.Call (.Name "BadKey" p) [.Constant (.str m) j p2] [] pos) (fun _ H Q => Q (.ref (He.ga K "BadKey")) none H) := pmk_own PySem.F.excBase_ValueError T.e_BadKey.1 T.g_BadKey T.e_BadKey.2.1 (raises_own T.e_BadKey.2.2.1 T.e_BadKey.2.2.2) hg
theorem Tx.e_BadName (T : Tx w K mg) : PySem.W.excIn K (He.ga K "BadName") He.veBase "ValueError.__new__" = true ∧ PySem.W.keepIn K (.ref (He.ga K "BadName")) = true ∧ PySem.W.subIn K (.ref (He.ga K "BadName")) (.type "BaseException") = some true ∧ PySem.W.typeIn K (.ref (He.ga K "BadName")) = some (.type "type") := He.exc_ok (T.fact 80 (f := .exc "BadName"))
theorem pmk_BadName {P : Program} {base : Heap} {N : List Str} {d : He.DefD} {cdv : Value} {A : Around} {outer : List Env} {s : Shared} {H : Hp} {E : XK} {m : Str} {j : Nat} {p p2 pos : Pos} (T : Tx w K mg) (hg : Gl (cxOf (L2.CX P w) P w K mg base N d.qual d.scope (Ad K d.at_) cdv A outer s H E) "BadName") : PMk (cxOf (L2.CX P w) P w K mg base N d.qual d.scope (Ad K d.at_) cdv A outer s H E) (.Call (.Name "BadName" p) [.Constant (.str m) j p2] [] pos) (fun _ H Q => Q (.ref (He.ga K "BadName")) none H) := pmk_own PySem.F.excBase_ValueError T.e_BadName.1 T.g_BadName T.e_BadName.2.1 (raises_own T.e_BadName.2.2.1 T.e_BadName.2.2.2) hg
theorem Tx.e_Taping (T : Tx w K mg) : PySem.W.excIn K (He.ga K "Taping") He.veBase "ValueError.__new__" = true ∧ PySem.W.keepIn K (.ref (He.ga K "Taping")) = true ∧ PySem.W.subIn K (.ref (He.ga K "Taping")) (.type "BaseException") = some true ∧ PySem.W.typeIn K (.ref (He.ga K "Taping")) = some (.type "type") := He.exc_ok (T.fact 81 (f := .exc "Taping"))
theorem pmk_Taping {P : Program} {base : Heap} {N : List Str} {d : He.DefD} {cdv : Value} {A : Around} {outer : List Env} {s : Shared} {H : Hp} {E : XK} {m : Str} {j : Nat} {p p2 pos : Pos} (T : Tx w K mg) (hg : Gl (cxOf (L2.CX P w) P w K mg base N d.qual d.scope (Ad K d.at_) cdv A outer s H E) "Taping") : PMk (cxOf (L2.CX P w) P w K mg base N d.qual d.scope (Ad K d.at_) cdv A outer s H E) (.Call (.Name "Taping" p) [.Constant (.str m) j p2] [] pos) (fun _ H Q => Q (.ref (He.ga K "Taping")) none H) := pmk_own PySem.F.excBase_ValueError T.e_Taping.1 T.g_Taping T.e_Taping.2.1 (raises_own T.e_Taping.2.2.1 T.e_Taping.2.2.2) hg
theorem Tx.e_NotTaping (T : Tx w K mg) : PySem.W.excIn K (He.ga K "NotTaping") He.veBase "ValueError.__new__" = true ∧ PySem.W.keepIn K (.ref (He.ga K "NotTaping")) = true ∧ PySem.W.subIn K (.ref (He.ga K "NotTaping")) (.type "BaseException") = some true ∧ PySem.W.typeIn K (.ref (He.ga K "NotTaping")) = some (.type "type") := He.exc_ok (T.fact 82 (f := .exc "NotTaping"))
theorem pmk_NotTaping {P : Program} {base : Heap} {N : List Str} {d : He.DefD} {cdv : Value} {A : Around} {outer : List Env} {s : Shared} {H : Hp} {E : XK} {m : Str} {j : Nat} {p p2 pos : Pos} (T : Tx w K mg) (hg : Gl (cxOf (L2.CX P w) P w K mg base N d.qual d.scope (Ad K d.at_) cdv A outer s H E) "NotTaping") : PMk (cxOf (L2.CX P w) P w K mg base N d.qual d.scope (Ad K d.at_) cdv A outer s H E) (.Call (.Name "NotTaping" p) [.Constant (.str m) j p2] [] pos) (fun _ H Q => Q (.ref (He.ga K "NotTaping")) none H) := pmk_own PySem.F.excBase_ValueError T.e_NotTaping.1 T.g_NotTaping T.e_NotTaping.2.1 (raises_own T.e_NotTaping.2.2.1 T.e_NotTaping.2.2.2) hg
theorem Tx.e_TooLong (T : Tx w K mg) : PySem.W.excIn K (He.ga K "TooLong") He.veBase "ValueError.__new__" = true ∧ PySem.W.keepIn K (.ref (He.ga K "TooLong")) = true ∧ PySem.W.subIn K (.ref (He.ga K "TooLong")) (.type "BaseException") = some true ∧ PySem.W.typeIn K (.ref (He.ga K "TooLong")) = some (.type "type") := He.exc_ok (T.fact 83 (f := .exc "TooLong"))
theorem pmk_TooLong {P : Program} {base : Heap} {N : List Str} {d : He.DefD} {cdv : Value} {A : Around} {outer : List Env} {s : Shared} {H : Hp} {E : XK} {m : Str} {j : Nat} {p p2 pos : Pos} (T : Tx w K mg) (hg : Gl (cxOf (L2.CX P w) P w K mg base N d.qual d.scope (Ad K d.at_) cdv A outer s H E) "TooLong") : PMk (cxOf (L2.CX P w) P w K mg base N d.qual d.scope (Ad K d.at_) cdv A outer s H E) (.Call (.Name "TooLong" p) [.Constant (.str m) j p2] [] pos) (fun _ H Q => Q (.ref (He.ga K "TooLong")) none H) := pmk_own PySem.F.excBase_ValueError T.e_TooLong.1 T.g_TooLong T.e_TooLong.2.1 (raises_own T.e_TooLong.2.2.1 T.e_TooLong.2.2.2) hg
theorem Tx.c_Page (T : Tx w K mg) : Cls K (He.ga K "Page") := He.cls_ok (T.fact 84)
theorem Tx.k_Page (T : Tx w K mg) : Mk K (He.ga K "Page") (Ad K ("Page", some "__init__")) := He.mkr_ok (T.fact 85)
theorem Tx.a_Page_rows (T : Tx w K mg) : NoAttr K (He.ga K "Page") "rows" := He.noat_ok (T.fact 86)
theorem Tx.a_Page_row (T : Tx w K mg) : NoAttr K (He.ga K "Page") "row" := He.noat_ok (T.fact 87)
theorem Tx.a_Page_column (T : Tx w K mg) : NoAttr K (He.ga K "Page") "column" := He.noat_ok (T.fact 88)
theorem Tx.a_Page_clipped (T : Tx w K mg) : NoAttr K (He.ga K "Page") "clipped" := He.noat_ok (T.fact 89)
theorem Tx.c_Player (T : Tx w K mg) : Cls K (He.ga K "Player") := He.cls_ok (T.fact 90)
theorem Tx.k_Player (T : Tx w K mg) : Mk K (He.ga K "Player") (Ad K ("Player", some "__init__")) := He.mkr_ok (T.fact 91)
theorem Tx.a_Player_page (T : Tx w K mg) : NoAttr K (He.ga K "Player") "page" := He.noat_ok (T.fact 92)
theorem Tx.a_Player_tapes (T : Tx w K mg) : NoAttr K (He.ga K "Player") "tapes" := He.noat_ok (T.fact 93)
theorem Tx.a_Player_typed (T : Tx w K mg) : NoAttr K (He.ga K "Player") "typed" := He.noat_ok (T.fact 94)
theorem Tx.a_Player_things (T : Tx w K mg) : NoAttr K (He.ga K "Player") "things" := He.noat_ok (T.fact 95)
theorem Tx.m_Player_do (T : Tx w K mg) : Meth K (He.ga K "Player") "do" (Ad K ("Player", some "do")) := He.meth_ok (T.fact 96)
theorem Tx.m_Player_play (T : Tx w K mg) : Meth K (He.ga K "Player") "play" (Ad K ("Player", some "play")) := He.meth_ok (T.fact 97)
theorem Tx.m_Player_play_till (T : Tx w K mg) : Meth K (He.ga K "Player") "play_till" (Ad K ("Player", some "play_till")) := He.meth_ok (T.fact 98)
theorem Tx.m_Player_play_once (T : Tx w K mg) : Meth K (He.ga K "Player") "play_once" (Ad K ("Player", some "play_once")) := He.meth_ok (T.fact 99)
theorem Tx.m_Player_add_thing (T : Tx w K mg) : Meth K (He.ga K "Player") "add_thing" (Ad K ("Player", some "add_thing")) := He.meth_ok (T.fact 100)
theorem Tx.c_Editor (T : Tx w K mg) : Cls K (He.ga K "Editor") := He.cls_ok (T.fact 101)
theorem Tx.k_Editor (T : Tx w K mg) : Mk K (He.ga K "Editor") (Ad K ("Editor", some "__init__")) := He.mkr_ok (T.fact 102)
theorem Tx.a_Editor_page (T : Tx w K mg) : NoAttr K (He.ga K "Editor") "page" := He.noat_ok (T.fact 103)
theorem Tx.a_Editor_tapes (T : Tx w K mg) : NoAttr K (He.ga K "Editor") "tapes" := He.noat_ok (T.fact 104)
theorem Tx.a_Editor_recorded (T : Tx w K mg) : NoAttr K (He.ga K "Editor") "recorded" := He.noat_ok (T.fact 105)
theorem Tx.a_Editor_pressed (T : Tx w K mg) : NoAttr K (He.ga K "Editor") "pressed" := He.noat_ok (T.fact 106)
theorem Tx.a_Editor_units (T : Tx w K mg) : NoAttr K (He.ga K "Editor") "units" := He.noat_ok (T.fact 107)
theorem Tx.a_Editor_undone (T : Tx w K mg) : NoAttr K (He.ga K "Editor") "undone" := He.noat_ok (T.fact 108)
theorem Tx.m_Editor_text (T : Tx w K mg) : Meth K (He.ga K "Editor") "text" (Ad K ("Editor", some "text")) := He.meth_ok (T.fact 109)
theorem Tx.m_Editor_place (T : Tx w K mg) : Meth K (He.ga K "Editor") "place" (Ad K ("Editor", some "place")) := He.meth_ok (T.fact 110)
theorem Tx.m_Editor_clip (T : Tx w K mg) : Meth K (He.ga K "Editor") "clip" (Ad K ("Editor", some "clip")) := He.meth_ok (T.fact 111)
theorem Tx.m_Editor_press (T : Tx w K mg) : Meth K (He.ga K "Editor") "press" (Ad K ("Editor", some "press")) := He.meth_ok (T.fact 112)
theorem Tx.m_Editor_hand (T : Tx w K mg) : Meth K (He.ga K "Editor") "hand" (Ad K ("Editor", some "hand")) := He.meth_ok (T.fact 113)
theorem Tx.m_Editor_tape (T : Tx w K mg) : Meth K (He.ga K "Editor") "tape" (Ad K ("Editor", some "tape")) := He.meth_ok (T.fact 114)
theorem Tx.m_Editor_tape_of (T : Tx w K mg) : Meth K (He.ga K "Editor") "tape_of" (Ad K ("Editor", some "tape_of")) := He.meth_ok (T.fact 115)
theorem Tx.m_Editor_record (T : Tx w K mg) : Meth K (He.ga K "Editor") "record" (Ad K ("Editor", some "record")) := He.meth_ok (T.fact 116)
theorem Tx.m_Editor_stop (T : Tx w K mg) : Meth K (He.ga K "Editor") "stop" (Ad K ("Editor", some "stop")) := He.meth_ok (T.fact 117)
theorem Tx.m_Editor_back (T : Tx w K mg) : Meth K (He.ga K "Editor") "back" (Ad K ("Editor", some "back")) := He.meth_ok (T.fact 118)
theorem Tx.m_Editor_forth (T : Tx w K mg) : Meth K (He.ga K "Editor") "forth" (Ad K ("Editor", some "forth")) := He.meth_ok (T.fact 119)
theorem Tx.m_Editor_go_to (T : Tx w K mg) : Meth K (He.ga K "Editor") "go_to" (Ad K ("Editor", some "go_to")) := He.meth_ok (T.fact 120)
end
end KT
set_option linter.all false
namespace KT
abbrev Ln := List Nat
/-! ### pages -/
structure Pg where
  rows : List Ln
  row : Nat
  col : Nat
  clip : Ln
def Pg.line (g : Pg) : Ln := g.rows.getD g.row []
abbrev okSign (c : Nat) : Prop := 32 ≤ c ∧ c ≤ 126
/-- what a page of the program is like -/
structure Pg.Ok (g : Pg) : Prop where
  many : g.rows.length ≤ 12
  long : ∀ l ∈ g.rows, l.length ≤ 60
  row : g.row < g.rows.length
  col : g.col ≤ g.line.length
  clip : g.clip.length ≤ 60
  sig : ∀ l ∈ g.rows, ∀ c ∈ l, okSign c
  csig : ∀ c ∈ g.clip, okSign c
/-- other lines for so many rows -/
def Pg.others (g : Pg) (f n : Nat) (ls : List Ln) : List Ln := g.rows.take f ++ ls ++ g.rows.drop (f + n)
def Pg.write (s : Ln) (g : Pg) : Option Pg :=
  if 60 < g.line.length + s.length then none else some { rows := g.others g.row 1 [g.line.take g.col ++ s ++ g.line.drop g.col], row := g.row, col := g.col + s.length, clip := g.clip }
def Pg.brk (g : Pg) : Option Pg :=
  if 12 ≤ g.rows.length then none else some { rows := g.others g.row 1 [g.line.take g.col, g.line.drop g.col], row := g.row + 1, col := 0, clip := g.clip }
def Pg.join (g : Pg) : Option Pg :=
  if g.row = 0 then none else
  if 60 < (g.rows.getD (g.row - 1) [] ++ g.line).length then none else
  some { rows := g.others (g.row - 1) 2 [g.rows.getD (g.row - 1) [] ++ g.line], row := g.row - 1, col := (g.rows.getD (g.row - 1) []).length, clip := g.clip }
def Pg.rub (g : Pg) : Option Pg :=
  if g.col = 0 then g.join else some { rows := g.others g.row 1 [g.line.take (g.col - 1) ++ g.line.drop g.col], row := g.row, col := g.col - 1, clip := g.clip }
def Pg.at_ (g : Pg) (r c : Nat) : Pg := { g with row := r, col := c }
def Pg.left (g : Pg) : Option Pg :=
  if 0 < g.col then some (g.at_ g.row (g.col - 1)) else if g.row = 0 then none else some (g.at_ (g.row - 1) (g.rows.getD (g.row - 1) []).length)
def Pg.right (g : Pg) : Option Pg :=
  if g.col < g.line.length then some (g.at_ g.row (g.col + 1)) else if g.row + 1 = g.rows.length then none else some (g.at_ (g.row + 1) 0)
def Pg.toRow (i : Int) (g : Pg) : Option Pg :=
  if i < 0 ∨ (g.rows.length : Int) ≤ i then none else some (g.at_ i.toNat (min g.col (g.rows.getD i.toNat []).length))
def Pg.up (g : Pg) : Option Pg := g.toRow ((g.row : Int) - 1)
def Pg.down (g : Pg) : Option Pg := g.toRow ((g.row : Int) + 1)
def Pg.home (g : Pg) : Option Pg := some (g.at_ g.row 0)
def Pg.end_ (g : Pg) : Option Pg := some (g.at_ g.row g.line.length)
/-- w stands in l at c -/
def stands (w l : Ln) (c : Nat) : Bool := decide (c + w.length ≤ l.length) && decide ((l.drop c).take w.length = w)
/-- the first place from c on, n places looked at -/
def firstAt (w l : Ln) : Nat → Nat → Option Nat
  | _, 0 => none
  | c, n + 1 => if stands w l c then some c else firstAt w l (c + 1) n
def findL (w l : Ln) (c : Nat) : Option Nat := firstAt w l c (l.length + 1 - c)
def seek (w : Ln) : List Ln → Nat → Nat → Option (Nat × Nat)
  | [], _, _ => none
  | l :: r, k, c => match findL w l c with
    | some j => some (k, j)
    | none => seek w r (k + 1) 0
def Pg.find (w : Ln) (g : Pg) : Option Pg := (seek w (g.rows.drop g.row) g.row (g.col + 1)).map fun p => g.at_ p.1 p.2
def isLet (c : Nat) : Bool := decide (97 ≤ c) && decide (c ≤ 122)
def lets (l : Ln) : Nat := (l.takeWhile isLet).length
def Pg.take (g : Pg) : Option Pg :=
  let m := lets (g.line.drop g.col)
  if m = 0 then none else some { rows := g.others g.row 1 [g.line.take g.col ++ g.line.drop (g.col + m)], row := g.row, col := g.col, clip := (g.line.drop g.col).take m }
def Pg.lay (g : Pg) : Option Pg := if g.clip = [] then none else g.write g.clip
/-! ### keys -/
inductive Ky where
  | put (s : Ln) | find (w : Ln)
  | brk | rub | left | right | up | down | home | end_ | take | lay
  | play (n : Nat) (many : Nat) | till (n : Nat)
  deriving DecidableEq
/-- what the program takes for a key -/
def Ky.Ok : Ky → Prop
  | .put s => s.length = 1 ∧ ∀ c ∈ s, okSign c
  | .find s => 1 ≤ s.length ∧ s.length ≤ 4 ∧ ∀ c ∈ s, okSign c
  | .play n m => n < 8 ∧ 1 ≤ m ∧ m ≤ 9
  | .till n => n < 8
  | _ => True
/-- it plays nothing -/
def Ky.single : Ky → Bool
  | .play _ _ => false
  | .till _ => false
  | _ => true
/-- a key that plays no tape -/
def Pg.does (g : Pg) : Ky → Option Pg
  | .put s => g.write s
  | .find w => g.find w
  | .brk => g.brk
  | .rub => g.rub
  | .left => g.left
  | .right => g.right
  | .up => g.up
  | .down => g.down
  | .home => g.home
  | .end_ => g.end_
  | .take => g.take
  | .lay => g.lay
  | _ => none
end KT
namespace KT
/-! ### playing -/
/-- what a player is at -/
structure PSt where
  page : Pg
  typed : List Ky
  things : Nat
inductive Res where
  | long
  | fin (fits : Bool) (st : PSt)
def addT (st : PSt) : Option PSt := if st.things < 400 then some { st with things := st.things + 1 } else none
/-- keys in turn, up to one that doesn't fit -/
def keysR (f : Ky → PSt → Res) : List Ky → PSt → Res
  | [], st => .fin true st
  | k :: ks, st => match f k st with
    | .fin true st' => keysR f ks st'
    | r => r
/-- a tape, once more -/
def once (f : Ky → PSt → Res) (ks : List Ky) (st : PSt) : Res := match addT st with
  | none => .long
  | some st' => keysR f ks st'
def timesR (g : PSt → Res) : Nat → PSt → Res
  | 0, st => .fin true st
  | m + 1, st => match g st with
    | .fin true st' => timesR g m st'
    | r => r
def tillR (g : PSt → Res) : Nat → PSt → Res
  | 0, _ => .long
  | n + 1, st => match g st with
    | .fin true st' => tillR g n st'
    | .fin false st' => .fin true st'
    | .long => .long
/-- a key that plays nothing -/
def singleR (k : Ky) (st : PSt) : Res := match st.page.does k with
  | none => .fin false st
  | some g => .fin true ⟨g, st.typed ++ [k], st.things⟩
/-- what a play or till does, with so many others yet allowed around -/
def playR (tp : Nat → List Ky) (o : Option (Ky → PSt → Res)) (k : Ky) (st : PSt) : Res := match k with
  | .play n m => match o with
    | none => .fin false st
    | some f => timesR (once f (tp n)) m st
  | .till n => match o with
    | none => .fin false st
    | some f => tillR (once f (tp n)) 401 st
  | k => singleR k st
def doK (tp : Nat → List Ky) : Nat → Ky → PSt → Res
  | 0, k, st => match addT st with
    | none => .long
    | some st' => playR tp none k st'
  | d + 1, k, st => match addT st with
    | none => .long
    | some st' => playR tp (some (doK tp d)) k st'
/-- below the play or till at d others -/
def under (tp : Nat → List Ky) : Nat → Option (Ky → PSt → Res)
  | 0 => none
  | d + 1 => some (doK tp d)
theorem doK_eq (tp : Nat → List Ky) (d : Nat) (k : Ky) (st : PSt) : doK tp d k st = match addT st with
    | none => .long
    | some st' => playR tp (under tp d) k st' := by
  cases d <;> rfl
end KT
set_option Elab.async false
set_option linter.all false
set_option maxRecDepth 100000
set_option maxHeartbeats 4000000
namespace KT
open PySem PySem.Spec PyProof.Rows L2 GxR
/-! ### heaps -/
def noTbl : HO → Bool
  | .tbl _ => false
  | _ => true
/-- what may be written over -/
def wrO : HO → Bool
  | .tbl _ => false
  | .ext _ => false
  | _ => true
theorem wr_noTbl {u : HO} (h : wrO u = true) : noTbl u = true := by cases u <;> first | rfl | cases h
/-- the table of are_signs, and the tables of the defs that make lambdas, with the lambdas' names -/
class GT where
  a : Addr
  l : List (Addr × Str)
  ne : ∀ p ∈ l, p.1 ≠ a
variable [GT]
theorem tabS_imp {H H' : Hp} {P : Addr} {q : Str} (t : LamX.TabS H P q) (h1 : ∀ ps, H P = some (.tbl ps) → H' P = some (.tbl ps)) (h2 : ∀ c, H c = some (LamX.CodeO c q) → H' c = some (LamX.CodeO c q)) : LamX.TabS H' P q := by
  obtain ⟨ps, a1, a2, a3⟩ := t
  refine ⟨ps, h1 _ a1, a2, fun pos cv hc => ?_⟩
  obtain ⟨c, e1, e2⟩ := a3 pos cv hc
  exact ⟨c, e1, h2 _ e2⟩
theorem wr_ne {H : Hp} {p c : Addr} {u : HO} {q : Str} (hp : H p = some u) (n : wrO u = true) (h : H c = some (LamX.CodeO c q)) : c ≠ p := fun e => by
  subst e
  rw [hp] at h
  unfold LamX.CodeO at h
  cases h
  cases n
theorem wr_tbl {H : Hp} {p P : Addr} {u : HO} {ps : Array Value} (hp : H p = some u) (n : wrO u = true) (h : H P = some (.tbl ps)) : P ≠ p := fun e => by
  subst e
  rw [hp] at h
  cases h
  cases n
/-- H' is H, but for what stands at the addresses of S; the tables may have grown -/
structure Kq (S : List Addr) (H H' : Hp) : Prop where
  at_ : ∀ b o, H b = some o → noTbl o = true → b ∉ S → H' b = some o
  tab : ∀ p, TabG H p → TabG H' p
  fr : ∀ b, H' b = none → H b = none
  tabS : ∀ p ∈ GT.l, LamX.TabS H p.1 p.2 → LamX.TabS H' p.1 p.2
theorem Kq.refl {S : List Addr} {H : Hp} : Kq S H H := ⟨fun _ _ h _ _ => h, fun _ h => h, fun _ h => h, fun _ _ h => h⟩
theorem Kq.trans {S : List Addr} {H H1 H2 : Hp} (a : Kq S H H1) (b : Kq S H1 H2) : Kq S H H2 :=
  ⟨fun c o h n m => b.at_ c o (a.at_ c o h n m) n m, fun p h => b.tab p (a.tab p h), fun c h => a.fr c (b.fr c h), fun p m h => b.tabS p m (a.tabS p m h)⟩
theorem Kq.mono {S S' : List Addr} {H H1 : Hp} (a : Kq S H H1) (h : ∀ b ∈ S, b ∈ S') : Kq S' H H1 :=
  ⟨fun c o q n m => a.at_ c o q n fun z => m (h c z), a.tab, a.fr, a.tabS⟩
theorem Kq.of {S : List Addr} {H H1 : Hp} (a : Kq [] H H1) : Kq S H H1 := a.mono fun b h => absurd h (by simp)
theorem Kq.get {H H1 : Hp} (a : Kq [] H H1) {b : Addr} {o : HO} (h : H b = some o) (n : noTbl o = true := by rfl) : H1 b = some o := a.at_ b o h n (by simp)
theorem Kq.gets {S : List Addr} {H H1 : Hp} (a : Kq S H H1) {b : Addr} {o : HO} (h : H b = some o) (m : b ∉ S) (n : noTbl o = true := by rfl) : H1 b = some o := a.at_ b o h n m
theorem Kq.alloc {S : List Addr} {H : Hp} {p : Addr} {o : HO} (hp : H p = none) (n : noTbl o = true := by rfl) : Kq S H (upd H p o) := by
  refine ⟨fun b u h _ _ => ?_, fun q h => ?_, fun b h => ?_, fun q _ h => h.ext fun b u e => by rw [upd_ne (ne_of_none e hp)]; exact e⟩
  · rw [upd_ne (ne_of_none h hp)]; exact h
  · obtain ⟨ps, h1, h2⟩ := h
    exact ⟨ps, by rw [upd_ne (ne_of_none h1 hp)]; exact h1, h2⟩
  · by_cases e : b = p
    · subst e; exact hp
    · rw [upd_ne e] at h; exact h
theorem Kq.write {S : List Addr} {H : Hp} {p : Addr} {o u : HO} (hp : H p = some u) (hS : p ∈ S) (n : wrO u = true := by rfl) : Kq S H (upd H p o) := by
  refine ⟨fun b v h _ m => ?_, fun q h => ?_, fun b h => ?_, fun q _ h => tabS_imp h (fun ps e => by rw [upd_ne (wr_tbl hp n e)]; exact e) (fun c e => by rw [upd_ne (wr_ne hp n e)]; exact e)⟩
  · rw [upd_ne (fun e => m (by rw [e]; exact hS))]; exact h
  · obtain ⟨ps, h1, h2⟩ := h
    have : q ≠ p := fun e => by
      subst e
      rw [hp] at h1
      cases h1
      cases n
    exact ⟨ps, by rw [upd_ne this]; exact h1, h2⟩
  · by_cases e : b = p
    · subst e; rw [upd_same] at h; cases h
    · rw [upd_ne e] at h; exact h
theorem Kq.tabbed {S : List Addr} {H H' : Hp} {p : Addr} (t : Tabbed p H H') (hp : TabG H p) (ea : p = GT.a := by rfl) : Kq S H H' := by
  obtain ⟨t1, t2⟩ := t
  refine ⟨fun b u h n _ => ?_, fun q h => ?_, fun b h => ?_, fun q m h => tabS_imp h (fun ps e => by rw [t2 _ (by rw [ea]; exact GT.ne q m)]; exact e) (fun c e => ?_)⟩
  rotate_left 3
  · have : c ≠ p := fun z => by
      subst z
      obtain ⟨ps, h1, _⟩ := hp
      rw [h1] at e
      unfold LamX.CodeO at e
      cases e
    rw [t2 c this]; exact e
  · have : b ≠ p := fun e => by
      subst e
      obtain ⟨ps, h1, _⟩ := hp
      rw [h] at h1
      cases h1
      cases n
    rw [t2 b this]; exact h
  · by_cases e : q = p
    · subst e; exact t1
    · obtain ⟨ps, h1, h2⟩ := h
      exact ⟨ps, by rw [t2 q e]; exact h1, h2⟩
  · by_cases e : b = p
    · subst e
      obtain ⟨ps, h1, _⟩ := t1
      rw [h] at h1; cases h1
    · rw [t2 b e] at h; exact h
theorem Kq.seq {K : PySem.W.Frag} {H H1 : Hp} (a : Kq [] H H1) {l : Addr} {xs : List V} (h : SqL K H l xs) : SqL K H1 l xs := by
  rcases h with (h | ⟨o, h⟩) | h
  · exact .inl (.inl (a.get h))
  · exact .inl (.inr ⟨o, a.get h⟩)
  · exact .inr h
theorem Kq.tup {K : PySem.W.Frag} {H H1 : Hp} (a : Kq [] H H1) {l : Addr} {xs : List V} (h : SqT K H l xs) : SqT K H1 l xs := by
  rcases h with (h | ⟨o, h⟩) | h
  · exact .inl (.inl (a.get h))
  · exact .inl (.inr ⟨o, a.get h⟩)
  · exact .inr h
/-! ### defs -/
/-- the def at f keeps its promise -/
structure Fk (P : Program) (w : World) (K : PySem.W.Frag) (mg : Str → Option Value) (base : Heap) (k : Nat) (f : Addr) (ps : List Str) (sp : Sp) : Prop where
  ok : FnOk P w K mg base (L2.CX P w) k f (fdOf K f) ps sp
  b : Binds K (fdOf K f) ps []
  kp : PySem.W.keepIn K (.ref f) = true
theorem Fk.mono {P : Program} {w : World} {K : PySem.W.Frag} {mg : Str → Option Value} {base : Heap} {j k : Nat} {f : Addr} {ps : List Str} {sp : Sp} (F : Fk P w K mg base j f ps sp) (h : j ≤ k) : Fk P w K mg base k f ps sp := ⟨F.ok.mono h, F.b, F.kp⟩
section
variable {P : Program} {w : World} {K : PySem.W.Frag} {mg : Str → Option Value} {base : Heap}
abbrev CxD (P : Program) (w : World) (K : PySem.W.Frag) (mg : Str → Option Value) (base : Heap) (N : List Str) (d : He.DefD) (cdv : Value) (A : Around) (outer : List Env) (s : Shared) (H : Hp) (E : XK) : Cx :=
  cxOf (L2.CX P w) P w K mg base N d.qual d.scope (Ad K d.at_) cdv A outer s H E
theorem mkF {d : He.DefD} {N ps : List Str} {k : Nat} {sp : Sp} (F : FnT K d) (S : FnScope N ps d.scope) (hd : d.dfl = [])
    (hb : ∀ (kV doc pm : Value) (an : Option Addr) (cdv ct : Value) (us : List Value), us.length = ps.length → bindArgs (PySem.W.fnOf d.name d.qual d.params d.body d.scope .none kV doc pm an cdv ct) ⟨us, []⟩ = pure (ps.zip us))
    (len : ∀ vs H Q E, sp vs H Q E → vs.length = ps.length)
    (hbody : ∀ (cdv : Value) (A : Around) (outer : List Env) (s : Shared) (H : Hp) (vs : List V) (Q : VK) (E : XK),
      PySem.W.codeIn K cdv d.qual = true → cdv = .ref (He.codeOf K d.at_) →
      Room k (CxD P w K mg base N d cdv A outer s H E).A → sp vs H Q E →
      ∃ t, PSs (CxD P w K mg base N d cdv A outer s H E) d.body t ∧ t { nx := fun _ H' => Q .non H', rt := Q } (start N vs) H) : Fk P w K mg base (k + 1) (Ad K d.at_) ps sp := by
  have F' : FunD K d.name d.qual d.params d.body d.scope [] (d.kws K) (Ad K d.at_) (fdOf K (Ad K d.at_)) := by
    have e : d.dvs K = [] := by unfold He.DefD.dvs; rw [hd]; rfl
    have := F
    unfold FnT at this
    rw [e] at this
    exact this
  refine ⟨?_, F'.bindsN hb, F'.kp⟩
  obtain ⟨oc, od, dV, kV, doc, pm, an, cdv, ct, osl, e, lk, hcd, _, _⟩ := F'.ex
  have hcode : cdv = .ref (He.codeOf K d.at_) := by
    obtain ⟨c, hc⟩ := He.codeIn_ref hcd
    rw [hc]
    have : He.codeOf K d.at_ = c := He.codeOf_eq lk (by rw [e]; exact hc)
    rw [this]
  rw [e] at lk ⊢
  refine fn_of lk hcd S len fun A outer s H vs Q E hr hsp => ?_
  exact hbody cdv A outer s H vs Q E hcd hcode hr hsp
end
section
variable {X : Cx} {k : Nat} {f C : Addr} {ps : List Str} {sp : Sp} {E : XK} {x m : Str} {p pos apos : Pos} {e o : Expr} {es : List Expr} {ta : TE} {t : TA}
/-- f(e, ..) -/
def tCF (sp : Sp) (E : XK) (t : TA) : TE := fun σ H Q => t σ H fun vs H1 => sp vs H1 Q E
theorem pe_cF (F : Fk X.prog X.w X.K X.mg X.base k f ps sp) (hr : Room k X.A) (hm : X.mg x = some (.ref f)) (hx : Passes (L2.CX X.prog X.w) X E) (ha : PA X (e :: es) t) (hg : Gl X x := by rfl)
    (hdb : (x == ("__debug__" : Str)) = false := by decide)
    (he : starEach (e :: es) X.env = (false, eval e X.env) :: starEach es X.env := by rfl) (hpl : (backTo pos (starEach es X.env)).any (·.1) = false := by rfl) : PE X (.Call (.Name x p) (e :: es) [] pos) (tCF sp E t) := by
  have h := pe_call (p := p) (pos := pos) F.ok hr hg hm F.kp F.b .nil hx ha hdb he hpl
  refine ⟨fun pins s σ H Q I q => h.run pins s σ H Q I ?_⟩
  have e0 : (fun (vs : List V) (H1 : Hp) => sp (vs ++ []) H1 Q E) = fun vs H1 => sp vs H1 Q E := by
    funext vs H1
    rw [List.append_nil]
  show t σ H (fun vs H1 => sp (vs ++ []) H1 Q E)
  rw [e0]
  exact q
/-- o.m(e, ..) -/
def tMF (C : Addr) (m : Str) (sp : Sp) (E : XK) (ta : TE) (t : TA) : TE := fun σ H Q => ta σ H fun x H1 => ∃ a dx fs, x = .ref a ∧ H1 a = some (.ins C dx fs) ∧ fs.lookup m = none ∧ t σ H1 fun vs H2 => sp (x :: vs) H2 Q E
theorem tMF_eq (C : Addr) (m : Str) (sp : Sp) (E : XK) (ta : TE) (t : TA) : tMF C m sp E ta t = tMeth C m sp [] E ta t := by
  unfold tMF tMeth
  funext σ H Q
  simp only [List.append_nil]
theorem pe_mF (pl : Sem Bool) (he : PE X o ta) (c : Cls X.K C) (hm : Meth X.K C m f) (F : Fk X.prog X.w X.K X.mg X.base k f ps sp) (hr : Room k X.A) (hx : Passes (L2.CX X.prog X.w) X E) (ha : PA X (e :: es) t)
    (hst : starEach (e :: es) X.env = (false, eval e X.env) :: starEach es X.env := by rfl) (hpl : (backTo pos (starEach es X.env)).any (·.1) = false := by rfl)
    (ht : eval (.Call (.Attribute o m apos) (e :: es) [] pos) X.env = (do
      let ov ← eval o X.env
      standAt apos.atName
      let (f, first) ← holding [ov] (getMethod ov m pl)
      callWith pos f first (backTo pos (starEach (e :: es) X.env)) (backToKw pos (keywordEach [] X.env))) := by rfl) :
    PE X (.Call (.Attribute o m apos) (e :: es) [] pos) (tMF C m sp E ta t) := by
  rw [tMF_eq]
  exact pe_meth (pl := pl) he c hm F.ok hr F.b .nil hx ha hst hpl ht
theorem pe_mF0 (pl : Sem Bool) (he : PE X o ta) (c : Cls X.K C) (hm : Meth X.K C m f) (F : Fk X.prog X.w X.K X.mg X.base k f ps sp) (hr : Room k X.A) (hx : Passes (L2.CX X.prog X.w) X E)
    (ht : eval (.Call (.Attribute o m apos) [] [] pos) X.env = (do
      let ov ← eval o X.env
      standAt apos.atName
      let (f, first) ← holding [ov] (getMethod ov m pl)
      callWith pos f first (backTo pos (starEach [] X.env)) (backToKw pos (keywordEach [] X.env))) := by rfl) :
    PE X (.Call (.Attribute o m apos) [] [] pos) (tMF C m sp E ta tNil) := by
  rw [tMF_eq]
  exact pe_meth0 (pl := pl) he c hm F.ok hr F.b .nil hx ht
/-- C(e, ..) by what the making comes to -/
theorem pe_kF {spN : Sp} (M : Mk X.K C f) (F : Fk X.prog X.w X.K X.mg X.base k f ps sp) (hr : Room (k + 1) X.A) (hm : X.mg x = some (.ref C)) (hx : Passes (L2.CX X.prog X.w) X E)
    (imp : ∀ vs H Q, spN vs H Q E → ∀ x dx, H x = none → H dx = none → dx ≠ x → sp (.ref x :: vs) (upd (upd H dx (.own x)) x (.ins C dx [])) (fun v H2 => v = .non ∧ Q (.ref x) H2) E)
    (ha : PA X (e :: es) t) (hg : Gl X x := by rfl) (hdb : (x == ("__debug__" : Str)) = false := by decide) (he : starEach (e :: es) X.env = (false, eval e X.env) :: starEach es X.env := by rfl) (hpl : (backTo pos (starEach es X.env)).any (·.1) = false := by rfl) :
    PE X (.Call (.Name x p) (e :: es) [] pos) (tCF spN E t) := by
  refine ⟨fun pins s σ H Q I h => ?_⟩
  refine wpAny_Call_Name_kw (ld_glob I hg hm ?_ hdb)
  refine PySem.W.callWith_K (h₀ := X.base) I.ok.mod.kin M.kp (thn (ha.run pos pins s σ H _ I h) fun us s1 ⟨vs, H1, I1, r, q⟩ => ⟨I1.kIn, ?_⟩) he hpl
  exact run_make M F.ok hr F.b .nil hx I1 r (by
    rw [List.append_nil]
    exact imp vs H1 Q q)
end
section
variable {P : Program} {w : World} {K : PySem.W.Frag} {mg : Str → Option Value} {base : Heap}
/-- what a call lets out, the def lets out -/
theorem px {N : List Str} {d : He.DefD} {cdv : Value} {A : Around} {outer : List Env} {s : Shared} {H : Hp} {E : XK} : Passes (L2.CX P w) (CxD P w K mg base N d cdv A outer s H E) E :=
  passes_call (takes_of (E := E) rfl rfl rfl rfl) fun _ _ _ _ z => z
end
/-! ### tuples: one way out -/
section
variable {X : Cx}
theorem op_catU : OpR X (binaryOp .Add) (fun x y H Q => ∃ a b xs ys, x = .ref a ∧ y = .ref b ∧ SqT X.K H a xs ∧ SqT X.K H b ys ∧ xs.length + ys.length ≤ sizeLine ∧ ∀ q H', Kq [] H H' → SqT X.K H' q (xs ++ ys) → Q (.ref q) H') := by
  intro pins s σ H x y v u Q I rx ry h
  obtain ⟨a, b, xs, ys, e1, e2, ha, hb, hl, k⟩ := h
  refine op_catA pins s σ H x y v u Q I rx ry ⟨a, b, xs, ys, e1, e2, ha, hb, hl, fun e => ?_, fun _ e => ?_, fun _ _ p np => ?_⟩
  · subst e; exact k b H Kq.refl hb
  · subst e; exact k a H Kq.refl (by rw [List.append_nil]; exact ha)
  · exact k p _ (Kq.alloc np) (SqT.of upd_same)
theorem sl_tupU : SlR X (fun x lo hi H Q => ∃ a xs, x = .ref a ∧ SqT X.K H a xs ∧ ∀ q H', Kq [] H H' → SqT X.K H' q (cutV xs lo hi) → Q (.ref q) H') := by
  intro pins s σ H x v vl vu lo hi sl Q I rx hs pl pu h
  obtain ⟨a, xs, e1, ha, k⟩ := h
  refine sl_tupA pins s σ H x v vl vu lo hi sl Q I rx hs pl pu ⟨a, xs, e1, ha, fun e => k a H Kq.refl ?_, fun _ p np => k p _ (Kq.alloc np) (SqT.of upd_same)⟩
  have : cutV xs lo hi = xs := by
    unfold cutV
    rw [e.1, e.2]
    simp
  rw [this]; exact ha
end
/-! ### texts as lists of codes -/
abbrev S (l : Ln) : Str := ⟨l.toArray⟩
theorem S_tl (x : Str) : S (TL.tl x) = x := TL.mk_tl x
theorem S_len (l : Ln) : (S l).length = l.length := by simp [Str.length]
theorem S_inj {a b : Ln} (h : S a = S b) : a = b := by
  have : (S a).cps.toList = (S b).cps.toList := by rw [h]
  simpa using this
theorem S_app (a b : Ln) : S a ++ S b = S (a ++ b) := TL.ext_tl (by rw [TL.tl_append])
end KT
set_option Elab.async false
set_option linter.all false
set_option maxRecDepth 100000
set_option maxHeartbeats 4000000
/-! an own exception class over own classes over ValueError, whose __init__ says super().__init__(e) ahead -/
namespace KT
open PySem PySem.Spec PyProof.Rows L2
theorem rev_zip_get : ∀ {Ps : List Str} {vs : List Value} {i : Nat} {x : Str} {v : Value}, Ps.Nodup → Ps[i]? = some x → vs[i]? = some v → (Ps.zip vs).reverse.lookup x = some v
  | [], _, _, _, _, _, h, _ => by simp at h
  | _ :: _, [], _, _, _, _, _, h => by simp at h
  | p :: Ps, w :: vs, 0, x, v, nd, h1, h2 => by
    simp at h1 h2; subst h1; subst h2
    rw [List.zip_cons_cons, List.reverse_cons, List.lookup_append]
    have : (Ps.zip vs).reverse.lookup p = none := by
      rw [List.lookup_eq_none_iff]
      intro q hq
      have hm := List.mem_reverse.mp hq
      have : q.1 ∈ Ps := (List.of_mem_zip (a := q.1) (b := q.2) hm).1
      have ne : q.1 ≠ p := fun e => (List.nodup_cons.mp nd).1 (e ▸ this)
      simpa using fun e => ne e.symm
    rw [this]; simp
  | p :: Ps, w :: vs, i + 1, x, v, nd, h1, h2 => by
    rw [List.zip_cons_cons, List.reverse_cons, List.lookup_append, rev_zip_get (List.nodup_cons.mp nd).2 (by simpa using h1) (by simpa using h2)]
    rfl
def cxS (CX : CXT) (P : Program) (w : World) (K : PySem.W.Frag) (mg : Str → Option Value) (base : Heap) (N : List Str) (qual : Str) (scope : Scope) (f : Addr) (cd : Value) (cc : Addr) (A : Around) (outer : List Env) (s : Shared) (H : Hp) (E : XK) : Cx where
  prog := P
  w := w
  K := K
  mg := mg
  base := base
  A := A.deeper (PySem.W.ksEnv qual scope s.heap.objs.size f cd cc)
  N := N
  s_0 := s
  H_0 := H
  env := PySem.W.ksEnv qual scope s.heap.objs.size f cd cc
  outer := outer
  stack := PySem.W.ksEnv qual scope s.heap.objs.size f cd cc :: outer
  ex := []
  calm := true
  fn := fun _ => false
  pn := []
  xe := fun e s' => wpAny (model P w) (A.deeper (PySem.W.ksEnv qual scope s.heap.objs.size f cd cc)) (leaving (PySem.W.ksEnv qual scope s.heap.objs.size f cd cc) e) (fun _ s'' => CX outer H s E e s'') (fun e' s'' => CX outer H s E e' s'') s'
structure SupScope (N ps : List Str) (sc : Scope) : Prop where
  kind : sc.kind = .function
  co : sc.isCoroutine = false
  gen : sc.isGenerator = false
  nd : N.Nodup
  pre : N.take ps.length = ps
  par : ∀ x ∈ ps, sc.names.lookup x = some .local
  nocell : ∀ y ∈ sc.names, y.2 ≠ .cell
  free : ∀ q ∈ sc.names, q.2 = .free → q.1 = "__class__"
section
variable {CX : CXT} {P : Program} {w : World} {K : PySem.W.Frag} {mg : Str → Option Value} {base : Heap} {N ps : List Str} {qual : Str} {scope : Scope} {f cc D : Addr} {cd : Value} {A : Around} {outer : List Env} {s : Shared} {H : Hp} {E : XK} {us : List Value} {vs : List V} {cl : Value} {cld : Option Addr} {csl : Array (Option Value)} {h1 : Heap} {t' : Nat}
theorem inv_startS (S : SupScope N ps scope) (hd : A.handled = none) (e0 : Env0 P w K mg base A outer s H) (hl : vs.length = ps.length) (r : Vals vs us) (hcc : K.lookup cc = some ⟨cl, cld, .cell (some (.ref D)), csl⟩)
    (hns : h1.Ns s.heap.objs.size (fun x => (ps.zip us).reverse.lookup x)) (hk : ∀ b o, s.heap.get? b = some o → h1.get? b = some o) :
    Inv (cxS CX P w K mg base N qual scope f cd cc A outer s H E) [] (start N vs) H { s with heap := h1, toks := t' } := by
  have hpl : ps.length ≤ N.length := by have := congrArg List.length S.pre; rw [List.length_take] at this; omega
  have hb : base.get? cc = some ⟨cl, cld, .cell (some (.ref D)), csl⟩ := e0.mod.kin _ _ hcc
  have cells : ∀ y c, (PySem.W.ksEnv qual scope s.heap.objs.size f cd cc).cells.lookup y = some c → y = "__class__" ∧ c = cc := fun y c h => by
    have h : ([(("__class__" : Str), cc)] : List (Str × Addr)).lookup y = some c := h
    rw [List.lookup_cons] at h
    split at h
    · rename_i e
      exact ⟨by simpa using e, (Option.some.inj h).symm⟩
    · simp at h
  have noA : ∀ b : Addr, b ∉ (cxS CX P w K mg base N qual scope f cd cc A outer s H E).ex := fun b z => absurd (show b ∈ ([] : List Addr) from z) (by simp)
  refine ⟨⟨e0.mod, S.kind, rfl, rfl, Nat.le_refl _, fun y z c h1 h2 => ?_, fun y hy => ?_, (fun y c z _ => absurd (show false = true from z) (by decide)), fun _ => hd, Around.frames_deeper e0.frames, .inr ⟨rfl, rfl⟩, fun b z => absurd z (noA b), e0.bs, e0.bsz, fun b _ _ => noA b, fun b z => absurd z (noA b), e0.funs, e0.frf⟩,
    rfl, e0.bare, Un.kept hk, ⟨_, hns, fun i y v h1 h2 h3 => ?_⟩, fun y c h => ?_, e0.hok.fresh (Nat.le_refl _), fun y c h => ?_, fun p hp => absurd (show p ∈ ([] : List (Addr × Obj)) from hp) (by simp), e0.hok.kept hk, ?_⟩
  · rw [(cells _ _ h1).1, (cells _ _ h2).1]
  · have hy : scope.names.lookup y = some .cell ∨ scope.names.lookup y = some .free := hy
    rcases hy with hy | hy
    · exact absurd rfl (S.nocell _ (PySem.mem_of_lookup hy))
    · have e := S.free _ (PySem.mem_of_lookup hy) rfl
      have e : y = "__class__" := e
      rw [e]
      exact ⟨cc, by show ([(("__class__" : Str), cc)] : List (Str × Addr)).lookup _ = _; simp⟩
  · have hi : i < vs.length := by
      unfold L2.start at h2
      by_cases hi : i < vs.length
      · exact hi
      · rw [List.getElem?_append_right (by simpa using hi)] at h2
        rw [List.getElem?_replicate] at h2
        split at h2 <;> cases h2
    have ha : vs[i]? = some v := by
      unfold L2.start at h2
      rw [List.getElem?_append_left (by simpa using hi), List.getElem?_map] at h2
      cases e : vs[i]? with
      | none => rw [e] at h2; cases h2
      | some a => rw [e] at h2; cases h2; rfl
    obtain ⟨u, hu, rv⟩ := r.get ha
    have hp : ps[i]? = some y := by
      rw [← S.pre, List.getElem?_take_of_lt (by omega)]; exact h1
    have ndP : ps.Nodup := by rw [← S.pre]; exact S.nd.sublist (List.take_sublist _ _)
    exact ⟨u, rv, .inl ⟨S.par y (List.mem_of_getElem? hp), rev_zip_get ndP hp hu⟩⟩
  · obtain ⟨rfl, rfl⟩ := cells _ _ h
    exact ⟨_, _, hk _ _ (e0.bs _ _ hb).1, rfl⟩
  · obtain ⟨rfl, rfl⟩ := cells _ _ h
    exact (e0.bs _ _ hb).2
  · unfold L2.start
    show _ = N.length
    rw [List.length_append, List.length_map, List.length_replicate]
    omega
end
section
variable {CX : CXT} {P : Program} {w : World} {K : PySem.W.Frag} {mg : Str → Option Value} {base : Heap} {k : Nat} {f cc D cda : Addr} {name qual : Str} {params : Arguments} {body rest : List Stmt} {scope : Scope} {dV kV doc pm ct oc cl ccl : Value} {an od cld cdd : Option Addr}
  {osl csl ccs : Array (Option Value)} {N ps : List Str} {sp : Sp} {e : Expr} {p0 p1 p2 p3 p4 : Pos} {ar : Arg} {fvs : Array Value} {file : Str} {tf : Tok} {cdD : ClassData} {pl : Sem Bool}
/-- the bound ValueError.__init__ called -/
theorem oinitW {X : Cx} {pins : List (Addr × Obj)} {σ : L2.St} {H : Hp} {s : Shared} {a u C : Addr} {us : List Value} {A : Around} {Q : Value → Shared → Prop} {E : Value → Shared → Prop} (T : OexC X.K C) (I : Inv X pins σ H s) (ea : H a = some (exo a C none)) (hu : s.heap.get? u = some (PySem.W.kxs_mw "ValueError.__init__" a)) (hl : us.length ≤ sizeLine) (h : ∀ s', Inv X pins σ H s' → Q .none s') :
    wpAny (model X.prog X.w) A (call (.ref u) us) Q E s := by
  obtain ⟨nm, q, N, bs, bm, sn, sub, ab, col, dd, k0, k1, k2, k3, k5, hC, hbm⟩ := T.cls
  obtain ⟨t1, ho⟩ := exo_at I.hok ea
  obtain ⟨hp, g, d, t, os⟩ := s
  refine wpAny_call (codeAny_of_tree ?_)
  show wpAny _ A.in1 (callAny (.ref u) ⟨us, []⟩) _ _ _
  simp only [callAny]
  refine wpAny_bind (wpAny_load hu ?_)
  simp only [PySem.W.kxs_mw, show (Value.type "method-wrapper" == Value.type "method" || Value.type "method-wrapper" == Value.type "builtin_function_or_method" || Value.type "method-wrapper" == Value.type "method-wrapper") = true by decide, if_true]
  refine PySem.W.KFB.if_so (by decide) ?_
  refine wpAny_bind (PySem.W.check_bound_init F.excBase_ValueError.toExcCallFacts (I.kIn _ _ hC) ho rfl ?_)
  refine wpAny_bind (wpAny_pure (wpAny_pure ?_))
  have fin : ∀ (h' : Heap) (t2 : Addr), (∀ b o, b ≠ a → hp.get? b = some o → h'.get? b = some o) → h'.get? a = some ({ cls := .ref C, dict := none, data := .fields #[.ref t2, .none, .none, .none, .bool false, .none] } : Obj) → Q .none ⟨h', g, d, t, os⟩ := fun h' t2 k hx => by
    have J := I.write (t' := t) (x := a) (e := a) (o := exo a C none) (by rw [ea]; exact True.intro) (.inl rfl) k ⟨_, hx⟩ (exo_ok hx)
    have eu : upd H a (exo a C none) = H := by
      funext b
      by_cases hb : b = a
      · rw [hb, upd_same, ea]
      · rw [upd_ne hb]
    rw [eu] at J
    exact h _ J
  refine ⟨plainId_quiet F.excBase_ValueError.init.plain _, codeAny_builtin F.excBase_ValueError.initEntry ?_⟩
  rw [Around.under_plainId F.excBase_ValueError.init.plain _]
  wp_walk
  refine fin _ hp.objs.size (fun b o hb ho => ?_) ?_
  · rw [Heap.get?_update_other _ _ (Ne.symm hb)]
    exact Heap.get?_push_of_some _ ho
  · rw [Heap.get?_update_self _ (Heap.get?_push_of_some _ ho) rfl]
    rfl
/-- THE RULE: such an __init__, by its body: super().__init__(e), then the rest -/
theorem fn_ofS (hbd : body = .Expr (.Call (.Attribute (.Call (.Name "super" p0) [] [] p1) "__init__" p2) [e] [] p3) p4 :: rest)
    (lk : K.lookup f = some ⟨oc, od, .func (PySem.W.fnX name qual params body scope [("__class__", cc)] dV kV doc pm an (.ref cda) ct), osl⟩) (hcd : PySem.W.codeIn K (.ref cda) qual = true) (S : SupScope N ps scope)
    (hcc : K.lookup cc = some ⟨cl, cld, .cell (some (.ref D)), csl⟩) (hcode : K.lookup cda = some ⟨ccl, cdd, .fields fvs, ccs⟩) (hvs : fvs[2]? = some (.str file tf)) (hfile : ((P.main.file : Str) == file) = true)
    (htop : (P.main.scope.names.lookup ("super" : Str)).isSome = false) (hsup : mg "super" = none) (hks : scope.names.lookup ("super" : Str) = some .globalImplicit) (hkc : scope.names.lookup ("__class__" : Str) = some .free)
    (hp : (params.posonlyargs ++ params.args).head? = some ar) (hD : PySem.W.clsIn K D = some cdD) (T : OexC K D) (hka : scope.names.lookup ar.arg = some .local) (hmro : PySem.W.mroIn K D (.ref D) = some true) (hth : PySem.W.nsIn K cStatics "thirdparty.any" = some none)
    (hal : PySem.W.alongIn K "__init__" ((cdD.mro.dropWhile (· != .ref D)).drop 1) = some (some (.builtin "ValueError.__init__"))) (hVE : PySem.W.subIn K (.ref D) (.type "ValueError") = some true)
    (he : ∀ L, starEach [e] (PySem.W.ksEnv qual scope L f (.ref cda) cc) = (false, eval e (PySem.W.ksEnv qual scope L f (.ref cda) cc)) :: starEach [] (PySem.W.ksEnv qual scope L f (.ref cda) cc))
    (hcall : ∀ L, eval (.Call (.Attribute (.Call (.Name "super" p0) [] [] p1) "__init__" p2) [e] [] p3) (PySem.W.ksEnv qual scope L f (.ref cda) cc) = (do
      let ov ← attributeBase (.Call (.Name "super" p0) [] [] p1) "__init__" (PySem.W.ksEnv qual scope L f (.ref cda) cc) (eval (.Call (.Name "super" p0) [] [] p1) (PySem.W.ksEnv qual scope L f (.ref cda) cc))
      standAt p2.atName
      let (g, first) ← holding [ov] (getMethod ov "__init__" pl)
      callWith p3 g first (backTo p3 (starEach [e] (PySem.W.ksEnv qual scope L f (.ref cda) cc))) []))
    (len : ∀ vs H Q E, sp vs H Q E → vs.length = ps.length)
    (hbody : ∀ (A : Around) (outer : List Env) (s : Shared) (H : Hp) (vs : List V) (Q : VK) (E : XK), Room k (A.deeper (PySem.W.ksEnv qual scope s.heap.objs.size f (.ref cda) cc)) → sp vs H Q E →
      ∃ (a : Addr) (ta : TA) (t : TS), PA (cxS CX P w K mg base N qual scope f (.ref cda) cc A outer s H E) [e] ta ∧ PSs (cxS CX P w K mg base N qual scope f (.ref cda) cc A outer s H E) rest t ∧
        (L2.start N vs)[0]? = some (some (.ref a)) ∧ N[0]? = some ar.arg ∧ H a = some (exo a D none) ∧
        ta (L2.start N vs) H fun xs H1 => xs.length ≤ 1000 ∧ H1 a = some (exo a D none) ∧ t { nx := fun _ H' => Q .non H', rt := Q } (L2.start N vs) H1) :
    FnOk P w K mg base CX (k + 1) f (PySem.W.fnX name qual params body scope [("__class__", cc)] dV kV doc pm an (.ref cda) ct) ps sp := by
  refine ⟨len, fun A outer s H args us vs Q E hr e0 hb r hsp => ?_⟩
  have hl := len _ _ _ _ hsp
  have KX : K.In s.heap := e0.mod.kin.keeps fun b o e => (e0.bs b o e).1
  have lim : s.heap.NoLimit := e0.mod.nolimit.keeps fun b o e => (e0.bs b o e).1
  have hloc : ∀ x ∈ ps.zip us, scope.names.lookup x.1 = some .local := fun ⟨n, v⟩ hy => S.par n (List.of_mem_zip hy).1
  subst hbd
  refine PySem.ks_codeAny_call_defAt (fd := PySem.W.fnX name qual params _ scope [("__class__", cc)] dV kV doc pm an (.ref cda) ct) (binds := ps.zip us) hr.depth (KX _ _ lk) rfl lim (PySem.W.codeRec_of KX hcd) rfl hb S.nocell hloc (fun h1 hns hk => ?_) S.co S.gen S.kind
  obtain ⟨a, ta, t, ha, ht, hv0, hn0, hea, hta⟩ := hbody A outer s H vs Q E (hr.deeper _) hsp
  have I : Inv (cxS CX P w K mg base N qual scope f (.ref cda) cc A outer s H E) [] (L2.start N vs) H { s with heap := h1, toks := s.toks + (ps.zip us).length } := inv_startS S hr.hd e0 hl r hcc hns hk
  show PySem.wpAt (model P w) (cxS CX P w K mg base N qual scope f (.ref cda) cc A outer s H E).A (.func _ (cxS CX P w K mg base N qual scope f (.ref cda) cc A outer s H E).env) (execs _ (cxS CX P w K mg base N qual scope f (.ref cda) cc A outer s H E).env) _ (cxS CX P w K mg base N qual scope f (.ref cda) cc A outer s H E).xe _
  have hint : interactive (cxS CX P w K mg base N qual scope f (.ref cda) cc A outer s H E).env = false := by
    first | rfl | (unfold interactive; simp [cxS, S.kind]) | fail "INT"
  refine PySem.ks_wpAt_execs_cons ?_
  refine PySem.ks_wpAt_Expr_any ?_ (hi := hint)
  refine PySem.ks_wpAt_MethodCall (pl := pl) ?_ (he := hcall _)
  obtain ⟨m, hn, hm⟩ := I.loc
  obtain ⟨u, ru, hlook⟩ := hm 0 ar.arg (.ref a) hn0 hv0 (.inl hka)
  have ru : u = .ref a := ru
  subst ru
  have hv : m ar.arg = some (.ref a) := by
    rcases hlook with ⟨_, z⟩ | ⟨z, _⟩
    · exact z
    · have z : scope.names.lookup ar.arg = some .cell ∨ scope.names.lookup ar.arg = some .free := z
      rw [hka] at z
      rcases z with z | z <;> cases z
  obtain ⟨t0, hoe⟩ := exo_at I.hok hea
  obtain ⟨oD, hD1, hD2⟩ : ∃ oD, h1.get? D = some oD ∧ oD.data = .cls cdD := by
    unfold PySem.W.clsIn at hD
    split at hD
    · rename_i c d cd' sl ho
      cases hD
      exact ⟨_, I.kIn _ _ ho, rfl⟩
    · cases hD
  obtain ⟨mb, hmb, hmbe⟩ := I.mod.blt
  refine PySem.ks_wpAt_super_base (env := (cxS CX P w K mg base N qual scope f (.ref cda) cc A outer s H E).env) hks hkc (by decide) rfl (I.kIn _ _ lk) rfl hp rfl (I.kIn _ _ hcode) rfl hvs hfile htop ?_
  refine PySem.W.ks_loadName_global S.kind hks (PySem.Calls.loadGlobal_builtin (mg := mg) (mb := mb) (I.mod.glob.keeps I.bk) hsup (hmb.keeps I.bk) ((hmbe _ (by decide +kernel)).trans (by first | exact PyProof.Rows.Boot.«super» | kernel_rfl | decide +kernel)) ⟨rfl, ?_⟩)
  refine wpAny_loadName_free S.kind hkc rfl ⟨_, I.kIn _ _ hcc, rfl⟩ ?_
  refine wpAny_loadName_local S.kind hka hn hv ?_
  refine PySem.ks_wpAny_isType_cls hD1 hD2 ⟨rfl, ?_⟩
  refine PySem.ks_wpAny_call_super hD1 hD2 hoe rfl (fun c z => by cases z) (PySem.W.looks_mroIn I.kIn hmro) (fun h2 hso k2 => ?_)
  have J1 := I.kept (t' := s.toks + (ps.zip us).length) k2
  have hna : a ≠ D := fun z => by
    subst z
    rw [hoe] at hD1
    have := Option.some.inj hD1
    rw [← this] at hD2
    cases hD2
  have IA : PySem.W.InstAt h2 a ({ cls := .ref D, dict := none, data := .fields #[.ref t0, .none, .none, .none, .bool false, .none] } : Obj) D none := ⟨k2 _ _ hoe, rfl, rfl, trivial⟩
  have hI : PySem.W.Looks (model P w) h2 (isInstance (.ref a) (.type "ValueError")) true := IA.type.andThen (PySem.W.looks_subIn J1.kIn hVE)
  refine PySem.W.kxs_getMethod PySem.W.kxs_ValueError hso (PySem.W.looks_opaque J1.kIn hth) (l₀ := cdD.mro) (fun A Q E s k q => wpAny_bind ((PySem.W.looks_clsIn J1.kIn hD) A _ E s k (wpAny_pure q))) rfl J1.kIn hal hI hna (by decide) ?_
  have hu : (h2.push (PySem.W.kxs_mw "ValueError.__init__" a)).get? h2.objs.size = some (PySem.W.kxs_mw "ValueError.__init__" a) := Heap.get?_push_at rfl rfl
  have J2 := J1.kept (t' := s.toks + (ps.zip us).length + 1) (h' := h2.push (PySem.W.kxs_mw "ValueError.__init__" a)) (fun b o z => Heap.get?_push_of_some _ z)
  have J3 : Inv (cxS CX P w K mg base N qual scope f (.ref cda) cc A outer s H E) [(h2.objs.size, PySem.W.kxs_mw "ValueError.__init__" a)] (L2.start N vs) H ⟨h2.push (PySem.W.kxs_mw "ValueError.__init__" a), s.gens, s.drawn, s.toks + (ps.zip us).length + 1, s.os⟩ := { J2 with
    pin := fun p hp => by
      have hp : p ∈ [(h2.objs.size, PySem.W.kxs_mw "ValueError.__init__" a)] := hp
      rw [List.mem_singleton.mp hp]
      exact ⟨hu, J1.hok.fresh (Nat.le_refl _), (Nat.ne_of_lt J1.lt).symm, J1.nofs (Nat.le_refl _), fun v z => by cases z⟩ }
  refine PySem.W.kxs_callWith (i := "ValueError.__init__") (x := a) ?_ ?_
  · have e1 := he s.heap.objs.size
    show (backTo p3 (starEach [e] (PySem.W.ksEnv qual scope s.heap.objs.size f (.ref cda) cc))).any (·.1) = false
    rw [e1]; rfl
  have e1 := he s.heap.objs.size
  show wpAny _ _ (evalArgs (Value.ref h2.objs.size) true (backTo p3 (starEach [e] (PySem.W.ksEnv qual scope s.heap.objs.size f (.ref cda) cc))) []) _ _ _
  rw [e1]
  refine PySem.Calls.evalArgs_plain (x := eval e (PySem.W.ksEnv qual scope s.heap.objs.size f (.ref cda) cc)) (rest := backTo p3 (starEach [] (PySem.W.ksEnv qual scope s.heap.objs.size f (.ref cda) cc))) ?_
  show wpAny _ _ (spliced (backTo p3 ((false, eval e (PySem.W.ksEnv qual scope s.heap.objs.size f (.ref cda) cc)) :: starEach [] (PySem.W.ksEnv qual scope s.heap.objs.size f (.ref cda) cc)))) _ _ _
  rw [← e1]
  refine thn (ha.run p3 _ _ _ H _ J3 hta) fun ws s4 ⟨xs, H4, J4, r4, hz, hea4, hq4⟩ => ?_
  have hu4 : s4.heap.get? h2.objs.size = some (PySem.W.kxs_mw "ValueError.__init__" a) := (J4.pin (h2.objs.size, PySem.W.kxs_mw "ValueError.__init__" a) (by show _ ∈ [] ++ [_]; simp)).1
  refine ⟨hu4, ?_⟩
  refine oinitW T J4 hea4 hu4 (by show ws.length ≤ _; rw [← Paired.length r4, sizeLine_eq]; omega) fun s5 J5 => ?_
  have J6 : Inv (cxS CX P w K mg base N qual scope f (.ref cda) cc A outer s H E) [] (L2.start N vs) H4 s5 := { J5 with pin := fun p hp => absurd (show p ∈ ([] : List (Addr × Obj)) from hp) (by simp) }
  refine wpAt_of_wpAny (wpAny_mono (ht.run [] s5 (L2.start N vs) H4 _ J6 hq4) (fun fl s' hs => ?_) fun e s' hs => hs)
  have fin : ∀ {σ' : L2.St} {H' : Hp} {v : V} {u : Value}, Inv (cxS CX P w K mg base N qual scope f (.ref cda) cc A outer s H E) [] σ' H' s' → RelV v u → Q v H' → CE outer P w H s Q u s' :=
    fun {σ' H' v u} J rv q => ⟨v, H', J.os, J.bare, J.base, J.hok, rv, q⟩
  cases fl with
  | ret u =>
    obtain ⟨v, σ', H', J, rv, q⟩ := hs
    exact fin J rv q
  | next =>
    obtain ⟨σ', H', J, q⟩ := hs
    exact fin (v := V.non) (u := Value.none) J rfl q
  | brk =>
    obtain ⟨_, _, _, q⟩ := hs
    exact False.elim q
  | cont =>
    obtain ⟨_, _, _, q⟩ := hs
    exact False.elim q
end
end KT
set_option Elab.async false
set_option linter.all false
set_option maxRecDepth 100000
set_option maxHeartbeats 4000000
namespace KT
open PySem PySem.Spec PyProof.Rows L2
/-- what such an __init__ promises: the field stands -/
def sp_sup (C : Addr) (fld : Str) (z : Str) : Sp := fun vs H Q _ => ∃ (a : Addr) (i : Int), vs = [.ref a, .int i] ∧ i.natAbs.log2 < 1920 ∧ (z ++ toString i).length ≤ sizeLine ∧ H a = some (exo a C none) ∧
  ∀ d, H d = none → d ≠ a → Q .non (upd (upd H d (exd d [(fld, .int i)])) a (exo a C (some d)))
section
variable {P : Program} {w : World} {K : PySem.W.Frag} {mg : Str → Option Value} {base : Heap} {C : Addr} {qual : Str} {params : Arguments} {body : List Stmt} {scope : Scope} {file fld : Str}
theorem supC_ok (h : supC K C fld = true) : OexC K C ∧ PySem.W.mroIn K C (.ref C) = some true ∧ PySem.W.subIn K (.ref C) (.type "ValueError") = some true ∧ PySem.W.findIn K (.ref C) fld = some none ∧
    ∃ cd, PySem.W.clsIn K C = some cd ∧ PySem.W.alongIn K "__init__" ((cd.mro.dropWhile (· != .ref C)).drop 1) = some (some (.builtin "ValueError.__init__")) := by
  unfold supC at h
  simp only [Bool.and_eq_true, decide_eq_true_eq] at h
  obtain ⟨h1, h2, h3, h4, h5, h6, h7, h8⟩ := h
  split at h1
  · rename_i dd cd sl ho
    split at h1
    · rename_i C' bm k0 k1 k2 k3 n k5 hm hs
      simp only [Bool.and_eq_true, decide_eq_true_eq, Bool.not_eq_true'] at h1
      obtain ⟨⟨⟨⟨⟨rfl, rfl⟩, hdel⟩, hdict⟩, hbm⟩, hal⟩ := h1
      have hcl : PySem.W.clsIn K C' = some cd := by unfold PySem.W.clsIn; rw [ho]
      refine ⟨⟨?_, He.eqO_ok h2, h3, h4, h5⟩, h6, h7, He.eqO_ok h8, cd, hcl, He.eqO_ok hal⟩
      obtain ⟨nm, bs, mro, ns, qn, hd, sn, sub, ab, col, del⟩ := cd
      dsimp only at hm hdel hdict
      subst hm hdel hdict
      have hsl : sl = #[k0, k1, k2, k3, some (.builtin "ValueError.__new__"), k5] := by
        have := congrArg List.toArray hs
        simpa using this
      subst hsl
      exact ⟨nm, qn, ns, bs, bm, sn, sub, ab, col, dd, k0, k1, k2, k3, k5, ho, hbm⟩
    · cases h1
  · cases h1
theorem fnAt_ok {f : Addr} {fd : FuncData} (h : fnAt K f = some fd) : ∃ oc od sl, K.lookup f = some ⟨oc, od, .func fd, sl⟩ := by
  unfold fnAt at h
  split at h
  · rename_i oc od fd' sl ho
    cases h
    exact ⟨_, _, _, ho⟩
  · cases h
theorem cellAt_ok {f : Addr} {v : Value} (h : cellAt K f = some v) : ∃ oc od sl, K.lookup f = some ⟨oc, od, .cell (some v), sl⟩ := by
  unfold cellAt at h
  split at h
  · rename_i oc od fd' sl ho
    cases h
    exact ⟨_, _, _, ho⟩
  · cases h
theorem fldsAt_ok {f : Addr} {v : Array Value} (h : fldsAt K f = some v) : ∃ oc od sl, K.lookup f = some ⟨oc, od, .fields v, sl⟩ := by
  unfold fldsAt at h
  split at h
  · rename_i oc od fd' sl ho
    cases h
    exact ⟨_, _, _, ho⟩
  · cases h
theorem supI_ok (h : supI K C qual params body scope file = true) : PySem.W.findIn K (.ref C) "__init__" = some (some (.ref (He.ma K C "__init__"))) ∧ PySem.W.typeIn K (.ref (He.ma K C "__init__")) = some (.type "function") ∧
    ∃ (cc cda : Addr) (oc : Value) (od : Option Addr) (osl : Array (Option Value)) (kV doc pm ct : Value) (an : Option Addr) (cl : Value) (cld : Option Addr) (csl : Array (Option Value)) (ccl : Value) (cdd : Option Addr) (ccs : Array (Option Value)) (fvs : Array Value) (tf : Tok),
      K.lookup (He.ma K C "__init__") = some ⟨oc, od, .func (PySem.W.fnX "__init__" qual params body scope [("__class__", cc)] .none kV doc pm an (.ref cda) ct), osl⟩ ∧ PySem.W.codeIn K (.ref cda) qual = true ∧
      K.lookup cc = some ⟨cl, cld, .cell (some (.ref C)), csl⟩ ∧ K.lookup cda = some ⟨ccl, cdd, .fields fvs, ccs⟩ ∧ fvs[2]? = some (.str file tf) := by
  unfold supI at h
  simp only [Bool.and_eq_true, decide_eq_true_eq] at h
  obtain ⟨h1, h2, h3⟩ := h
  refine ⟨He.eqO_ok h1, h2, ?_⟩
  cases hf : fnAt K (He.ma K C "__init__") with
  | none => rw [hf] at h3; cases h3
  | some fd =>
    rw [hf] at h3
    dsimp only at h3
    obtain ⟨oc, od, osl, ho⟩ := fnAt_ok hf
    split at h3
    · rename_i n c cda hclo hcode
      simp only [Bool.and_eq_true, decide_eq_true_eq] at h3
      obtain ⟨e1, e2, e3, e4, e5, e6, e7, e8, e9, e12, e10, e11⟩ := h3
      obtain ⟨cl, cld, csl, hcell⟩ := cellAt_ok e2
      cases hv : fldsAt K cda with
      | none => rw [hv] at e11; cases e11
      | some v =>
        rw [hv] at e11
        dsimp only at e11
        obtain ⟨ccl, cdd, ccs, hcd⟩ := fldsAt_ok hv
        split at e11
        · rename_i z t hz
          have e11 := of_decide_eq_true e11
          subst e11
          have f5 := eqArgs_ok e5
          have f6 := eqBody_ok e6
          clear e5 e6 hf
          obtain ⟨n1, n2, n3, n4, n5, n6, n7, n8, n9, n10, n11, n12, n13, n14, n15⟩ := fd
          dsimp only at hclo hcode e3 e4 f5 f6 e7 e8 e9 e10 e12
          subst hclo hcode e3 e4 f5 f6 e7 e8 e9 e1 e12
          exact ⟨c, cda, oc, od, osl, n9, n10, n11, n14, n12, cl, cld, csl, ccl, cdd, ccs, v, t, ho, e10, hcell, hcd, hz⟩
        · cases e11
    · cases h3
/-- what the program must be for super to be the built-in one -/
def SupP (P : Program) (file : Str) : Prop := ((P.main.file : Str) == file) = true ∧ (P.main.scope.names.lookup ("super" : Str)).isSome = false
variable {N : List Str} {p0 p1 p2 p3 p4 p5 p6 p7 p8 p9 p10 p11 p12 : Pos} {x z : Str} {k0 : Nat} {rest : List Stmt} {pl : Sem Bool}
theorem fn_sup (hB : supB K C qual params body scope file fld = true) (hP : SupP P file) (hsup : mg "super" = none)
    (hbd : body = .Expr (.Call (.Attribute (.Call (.Name "super" p0) [] [] p1) "__init__" p2) [.JoinedStr [.Constant (.str z) k0 p5, .FormattedValue (.Name x p6) (-1) none p7] p8] [] p3) p4 :: [.Assign [.Attribute (.Name "self" p9) fld p10] (.Name x p11) p12])
    (S : SupScope ["self", x] ["self", x] scope) (hks : scope.names.lookup ("super" : Str) = some .globalImplicit) (hkc : scope.names.lookup ("__class__" : Str) = some .free)
    (hp : ∃ ar : Arg, (params.posonlyargs ++ params.args).head? = some ar ∧ ar.arg = "self") (hsw : ∀ env, swapsWith (.Name x p11) (some (.Attribute (.Name "self" p9) fld p10)) p12.line env = pure false) (hxd : (x == ("__debug__" : Str)) = false) (hxc : (x == ("__classdict__" : Str)) = false)
    (hcall : ∀ (L f cda cc : Addr), eval (.Call (.Attribute (.Call (.Name "super" p0) [] [] p1) "__init__" p2) [.JoinedStr [.Constant (.str z) k0 p5, .FormattedValue (.Name x p6) (-1) none p7] p8] [] p3) (PySem.W.ksEnv qual scope L f (.ref cda) cc) = (do
      let ov ← attributeBase (.Call (.Name "super" p0) [] [] p1) "__init__" (PySem.W.ksEnv qual scope L f (.ref cda) cc) (eval (.Call (.Name "super" p0) [] [] p1) (PySem.W.ksEnv qual scope L f (.ref cda) cc))
      standAt p2.atName
      let (g, first) ← holding [ov] (getMethod ov "__init__" pl)
      callWith p3 g first (backTo p3 (starEach [.JoinedStr [.Constant (.str z) k0 p5, .FormattedValue (.Name x p6) (-1) none p7] p8] (PySem.W.ksEnv qual scope L f (.ref cda) cc))) []))
    (hb : ∀ (kV doc pm ct : Value) (an : Option Addr) (cc cda : Addr) (us : List Value), us.length = 2 → bindArgs (PySem.W.fnX "__init__" qual params body scope [("__class__", cc)] .none kV doc pm an (.ref cda) ct) ⟨us, []⟩ = pure ((["self", x] : List Str).zip us)) :
    ∃ fd, FnOk P w K mg base (fun _ _ _ _ _ _ => False) 1 (He.ma K C "__init__") fd ["self", x] (sp_sup C fld z) ∧ Binds K fd ["self", x] [] := by
  unfold supB at hB
  simp only [Bool.and_eq_true] at hB
  obtain ⟨hC, hI, hth⟩ := hB
  obtain ⟨T, hmro, hVE, hno, cd, hcd, hal⟩ := supC_ok hC
  obtain ⟨iC, tI, cc, cda, oc, od, osl, kV, doc, pm, ct, an, cl, cld, csl, ccl, cdd, ccs, fvs, tf, lk, hcode, hcell, hcda, hfv⟩ := supI_ok hI
  obtain ⟨ar, har, hself⟩ := hp
  refine ⟨_, fn_ofS hbd lk hcode S hcell hcda hfv hP.1 hP.2 hsup hks hkc har hcd T (by rw [hself]; exact S.par _ (by simp)) hmro (He.eqO_ok hth) hal hVE (fun L => by rfl) (fun L => hcall L _ _ _) (fun vs H Q E h => by obtain ⟨_, _, rfl, _⟩ := h; rfl) (fun A outer s H vs Q E hr h => ?_), Binds.all fun us hl => hb _ _ _ _ _ _ _ us hl⟩
  obtain ⟨a, i, rfl, hlog, hlen, hea, kQ⟩ := h
  refine ⟨a, _, _, pa_cons (pe_joined (.cons pe_str (.cons (pe_fmt (pe_var (i := 1) rfl (.inl (S.par _ (by simp))) hxd hxc)) .nil))) pa_nil, pss_one (ps_ost (pe_var (i := 0) rfl (.inl (S.par _ (by simp)))) (pe_var (i := 1) rfl (.inl (S.par _ (by simp))) hxd hxc) (hs := hsw _)), rfl, by rw [hself]; rfl, hea, ?_⟩
  have hz : (Str.empty ++ z) = z := by
    have : (Str.empty ++ z).cps = z.cps := by show (#[] : Array Nat) ++ z.cps = z.cps; simp
    exact congrArg Str.mk this
  have hl2 : z.length ≤ sizeLine := Nat.le_trans (by show z.cps.size ≤ (z.cps ++ (toString i : Str).cps).size; rw [Array.size_append]; omega) hlen
  refine ⟨z, rfl, by rw [hz]; exact hl2, _, rfl, .inr ⟨i, rfl, hlog, _, rfl, by rw [hz]; exact hlen, ?_⟩⟩
  refine ⟨by show 1 ≤ 1000; decide, hea, _, rfl, _, rfl, a, C, rfl, T, hno, .inl ⟨hea, fun dx nd ne => kQ dx nd ne⟩⟩
end
theorem del_upd {H1 : Hp} {a d : Addr} {o o' : HO} {u u' : HO} (na : H1 a = none) (ne : d ≠ a) : upd (del (upd (upd (upd H1 a o) d u) a o') a) d u' = upd H1 d u' := by
  funext b
  by_cases hd : b = d
  · subst hd; rw [upd_same, upd_same]
  · rw [upd_ne hd, upd_ne hd]
    by_cases ha : b = a
    · subst ha; rw [del_same, na]
    · rw [del_ne ha, upd_ne ha, upd_ne hd, upd_ne ha]
/-- C(i), read -/
theorem mk_sup {C : Addr} {fld z : Str} {vs : List V} {H1 : Hp} {i : Int} {Q : XK} (e : vs = [.int i]) (hlog : i.natAbs.log2 < 1920) (hlen : (z ++ toString i).length ≤ sizeLine) (q : ∀ d, H1 d = none → Q (.ref C) (some d) (upd H1 d (.xd [(fld, .int i)]))) :
    vs.length ≤ 1000 ∧ ∀ a, H1 a = none → sp_sup C fld z (.ref a :: (vs ++ [])) (upd H1 a (exo a C none))
      (fun v H2 => v = .non ∧ ∃ (d : Addr) (fs : List (Str × V)), H2 a = some (exo a C (some d)) ∧ H2 d = some (exd d fs) ∧ H1 d = none ∧ Q (.ref C) (some d) (upd (del H2 a) d (.xd fs))) (fun _ _ _ => False) := by
  subst e
  refine ⟨by show 1 ≤ 1000; decide, fun a na => ⟨a, i, rfl, hlog, hlen, upd_same, fun d nd ne => ⟨rfl, d, [(fld, .int i)], upd_same, (upd_ne ne).trans upd_same, ?_, ?_⟩⟩⟩
  · rw [upd_ne ne] at nd; exact nd
  · rw [del_upd na ne]
    refine q d ?_
    rw [upd_ne ne] at nd; exact nd
end KT
set_option Elab.async false
set_option linter.all false
set_option maxRecDepth 100000
set_option maxHeartbeats 4000000
namespace KT
open PySem PySem.Spec PyProof.Rows L2 GxR
variable [GT]
section
variable {P : Program} {w : World} {K : PySem.W.Frag} {mg : Str → Option Value} {base : Heap}
abbrev fileS : Str := R.prog.main.file
theorem Tx.sup_BadKeys (T : Tx w K mg) : supB K (He.ga K "BadKeys") "BadKeys.__init__" (defArgs s_BadKeys___init__) (defBody s_BadKeys___init__) (defScope s_BadKeys___init__) fileS "at" = true := T.supB_BadKeys
theorem sup_scope : SupScope ["self", "at"] ["self", "at"] (defScope s_BadKeys___init__) := ⟨rfl, rfl, rfl, by decide +kernel, rfl, by decide +kernel, by decide +kernel, by decide +kernel⟩
theorem fn_BadKeys (T : Tx w K mg) (hP : SupP P fileS) : ∃ fd, FnOk P w K mg base (fun _ _ _ _ _ _ => False) 1 (He.ma K (He.ga K "BadKeys") "__init__") fd ["self", "at"] (sp_sup (He.ga K "BadKeys") "at" "no key for a tape at ") ∧ Binds K fd ["self", "at"] [] :=
  fn_sup T.sup_BadKeys hP T.n_super rfl sup_scope rfl rfl ⟨_, rfl, rfl⟩ (fun _ => rfl) (by decide) (by decide) (fun _ _ _ _ => rfl) (fun _ _ _ _ _ _ _ us hl => match us, hl with | [_, _], _ => rfl)
/-- BadKeys(e) -/
theorem pmk_BadKeys {N : List Str} {d : He.DefD} {cdv : Value} {A : Around} {outer : List Env} {s : Shared} {H : Hp} {E : XK} {p pos : Pos} {e : Expr} {es : List Expr} {ta : TA} (T : Tx w K mg) (hP : SupP P fileS)
    (hg : Gl (CxD P w K mg base N d cdv A outer s H E) "BadKeys") (hr : Room 2 (CxD P w K mg base N d cdv A outer s H E).A) (ha : PA (CxD P w K mg base N d cdv A outer s H E) (e :: es) ta)
    (he : starEach (e :: es) (CxD P w K mg base N d cdv A outer s H E).env = (false, eval e (CxD P w K mg base N d cdv A outer s H E).env) :: starEach es (CxD P w K mg base N d cdv A outer s H E).env := by rfl)
    (hpl : (backTo pos (starEach es (CxD P w K mg base N d cdv A outer s H E).env)).any (·.1) = false := by rfl) :
    PMk (CxD P w K mg base N d cdv A outer s H E) (.Call (.Name "BadKeys" p) (e :: es) [] pos) (tMkO (He.ga K "BadKeys") (sp_sup (He.ga K "BadKeys") "at" "no key for a tape at ") [] ta) := by
  obtain ⟨fd, F, hb⟩ := fn_BadKeys (base := base) T hP
  have hB := T.sup_BadKeys
  unfold supB at hB
  simp only [Bool.and_eq_true] at hB
  obtain ⟨hC, hI, _⟩ := hB
  obtain ⟨O, _⟩ := supC_ok hC
  obtain ⟨iC, tI, _⟩ := supI_ok hI
  exact pmk_oex (X := CxD P w K mg base N d cdv A outer s H E) O iC tI F hr hb .nil (fun _ _ _ _ _ _ _ h => h.elim) hg T.g_BadKeys ha (by decide) he hpl
end
end KT
set_option Elab.async false
set_option linter.all false
set_option maxRecDepth 100000
set_option maxHeartbeats 4000000
namespace KT
open PySem PySem.Spec PyProof.Rows L2 GxR
variable [GT]
/-! ### pages -/
def rowsV (ls : List Ln) : List V := ls.map fun l => V.str (S l)
theorem rowsV_len (ls : List Ln) : (rowsV ls).length = ls.length := by simp [rowsV]
theorem rowsV_app (a b : List Ln) : rowsV a ++ rowsV b = rowsV (a ++ b) := by simp [rowsV]
theorem rows_at {ls : List Ln} {n : Nat} {i : Int} (e : i = (n : Int)) (h : n < ls.length) : atI (rowsV ls) i = some (V.str (S (ls.getD n []))) := by
  refine at_of e ?_
  unfold rowsV
  rw [List.getElem?_map, List.getElem?_eq_getElem h, List.getD_eq_getElem?_getD, List.getElem?_eq_getElem h]
  rfl
def pageF (t : Addr) (g : Pg) : List (Str × V) := [("rows", .ref t), ("row", .int g.row), ("column", .int g.col), ("clipped", .str (S g.clip))]
def PageAt (K : PySem.W.Frag) (H : Hp) (p : Addr) (g : Pg) : Prop := ∃ dx t, H p = some (.ins (He.ga K "Page") dx (pageF t g)) ∧ SqT K H t (rowsV g.rows)
theorem pageF_rows (t : Addr) (g : Pg) : (pageF t g).lookup ("rows" : Str) = some (.ref t) := by kernel_rfl
theorem pageF_row (t : Addr) (g : Pg) : (pageF t g).lookup ("row" : Str) = some (.int g.row) := by kernel_rfl
theorem pageF_column (t : Addr) (g : Pg) : (pageF t g).lookup ("column" : Str) = some (.int g.col) := by kernel_rfl
theorem pageF_clipped (t : Addr) (g : Pg) : (pageF t g).lookup ("clipped" : Str) = some (.str (S g.clip)) := by kernel_rfl
theorem pageF_put (t : Addr) (a b : Int) (c : Str) : putF "clipped" (.str c) (putF "column" (.int b) (putF "row" (.int a) (putF "rows" (.ref t) []))) = ([("rows", V.ref t), ("row", V.int a), ("column", V.int b), ("clipped", V.str c)] : List (Str × V)) := by kernel_rfl
theorem Kq.page {K : PySem.W.Frag} {H H1 : Hp} (a : Kq [] H H1) {p : Addr} {g : Pg} (h : PageAt K H p g) : PageAt K H1 p g := by
  obtain ⟨dx, t, h1, h2⟩ := h
  exact ⟨dx, t, a.get h1, a.tup h2⟩
theorem iteD {c : Prop} [Decidable c] {A B : Prop} (h1 : c → A) (h2 : ¬ c → B) : if decide c = true then A else B := by
  by_cases h : c
  · rw [if_pos (decide_eq_true h)]; exact h1 h
  · rw [if_neg (by simp [h])]; exact h2 h
theorem iteN {c : Prop} [Decidable c] {A B : Prop} (h1 : ¬ c → A) (h2 : c → B) : if (!decide c) = true then A else B := by
  by_cases h : c
  · rw [if_neg (by simp [h])]; exact h2 h
  · rw [if_pos (by simp [h])]; exact h1 h
/-! ### texts cut -/
theorem line16 {n : Nat} (h : n ≤ 1000000) : n ≤ sizeLine := Nat.le_trans h (by rw [sizeLine_eq]; decide)
theorem take_min {α : Type} (l : List α) (n : Nat) : l.take (min n l.length) = l.take n := by
  by_cases h : n ≤ l.length
  · rw [Nat.min_eq_left h]
  · rw [Nat.min_eq_right (by omega), List.take_of_length_le (by omega), List.take_of_length_le (by omega)]
theorem cut_to (l : Ln) {i : Int} {n : Nat} (e : i = (n : Int)) : cutS (S l) none (some i) = S (l.take n) := by
  subst e
  unfold cutS
  rw [HT.sIx_none, HT.sIx_nat, S_len]
  simp only [List.drop_zero, Nat.sub_zero]
  rw [take_min]
theorem cut_from (l : Ln) {i : Int} {n : Nat} (e : i = (n : Int)) : cutS (S l) (some i) none = S (l.drop n) := by
  subst e
  unfold cutS
  rw [HT.sIx_none, HT.sIx_nat, S_len]
  congr 2
  by_cases h : n ≤ l.length
  · rw [Nat.min_eq_left h]
    exact List.take_of_length_le (by simp)
  · rw [Nat.min_eq_right (by omega)]
    rw [List.drop_eq_nil_of_le (by omega : l.length ≤ n)]
    simp
theorem cut_mid (l : Ln) {i j : Int} {a b : Nat} (ea : i = (a : Int)) (eb : j = (b : Int)) : cutS (S l) (some i) (some j) = S ((l.drop a).take (b - a)) := by
  subst ea eb
  unfold cutS
  have el : (S l).cps.toList = l := by simp
  rw [el]
  rw [HT.sIx_nat, HT.sIx_nat, S_len]
  congr 2
  by_cases h : a ≤ l.length
  · rw [Nat.min_eq_left h]
    by_cases hb : b ≤ l.length
    · rw [Nat.min_eq_left hb]
    · rw [Nat.min_eq_right (by omega)]
      rw [List.take_of_length_le (by rw [List.length_drop]; omega), List.take_of_length_le (by rw [List.length_drop]; omega)]
  · rw [Nat.min_eq_right (by omega : l.length ≤ a), List.drop_eq_nil_of_le (by omega : l.length ≤ a)]
    simp
theorem cutV_to {ls : List Ln} {i : Int} {n : Nat} (e : i = (n : Int)) : cutV (rowsV ls) none (some i) = rowsV (ls.take n) := by
  subst e
  unfold cutV rowsV
  rw [HT.sIx_none, HT.sIx_nat, List.length_map]
  simp only [List.drop_zero, Nat.sub_zero]
  have h := take_min ls n
  rw [← List.map_take, h]
theorem cutV_from {ls : List Ln} {i : Int} {n : Nat} (e : i = (n : Int)) : cutV (rowsV ls) (some i) none = rowsV (ls.drop n) := by
  subst e
  unfold cutV rowsV
  rw [HT.sIx_none, HT.sIx_nat, List.length_map, ← List.map_drop, ← List.map_take]
  congr 1
  by_cases h : n ≤ ls.length
  · rw [Nat.min_eq_left h]
    exact List.take_of_length_le (by simp)
  · rw [Nat.min_eq_right (by omega), List.drop_eq_nil_of_le (by omega : ls.length ≤ n)]
    simp
section
variable {P : Program} {w : World} {K : PySem.W.Frag} {mg : Str → Option Value} {base : Heap}
theorem rd_rows (T : Tx w K mg) {H : Hp} {p : Addr} {g : Pg} (hP : PageAt K H p g) {Q : V → Prop} (h : ∀ t, SqT K H t (rowsV g.rows) → Q (.ref t)) :
    ∃ a C dx fs v, V.ref p = .ref a ∧ H a = some (.ins C dx fs) ∧ Cls K C ∧ NoAttr K C "rows" ∧ fs.lookup ("rows" : Str) = some v ∧ Q v := by
  obtain ⟨dx, t, h1, h2⟩ := hP
  exact ⟨p, _, dx, _, _, rfl, h1, T.c_Page, T.a_Page_rows, pageF_rows _ _, h t h2⟩
theorem rd_row (T : Tx w K mg) {H : Hp} {p : Addr} {g : Pg} (hP : PageAt K H p g) {Q : V → Prop} (h : Q (.int g.row)) :
    ∃ a C dx fs v, V.ref p = .ref a ∧ H a = some (.ins C dx fs) ∧ Cls K C ∧ NoAttr K C "row" ∧ fs.lookup ("row" : Str) = some v ∧ Q v := by
  obtain ⟨dx, t, h1, h2⟩ := hP
  exact ⟨p, _, dx, _, _, rfl, h1, T.c_Page, T.a_Page_row, pageF_row _ _, h⟩
theorem rd_col (T : Tx w K mg) {H : Hp} {p : Addr} {g : Pg} (hP : PageAt K H p g) {Q : V → Prop} (h : Q (.int g.col)) :
    ∃ a C dx fs v, V.ref p = .ref a ∧ H a = some (.ins C dx fs) ∧ Cls K C ∧ NoAttr K C "column" ∧ fs.lookup ("column" : Str) = some v ∧ Q v := by
  obtain ⟨dx, t, h1, h2⟩ := hP
  exact ⟨p, _, dx, _, _, rfl, h1, T.c_Page, T.a_Page_column, pageF_column _ _, h⟩
theorem rd_clip (T : Tx w K mg) {H : Hp} {p : Addr} {g : Pg} (hP : PageAt K H p g) {Q : V → Prop} (h : Q (.str (S g.clip))) :
    ∃ a C dx fs v, V.ref p = .ref a ∧ H a = some (.ins C dx fs) ∧ Cls K C ∧ NoAttr K C "clipped" ∧ fs.lookup ("clipped" : Str) = some v ∧ Q v := by
  obtain ⟨dx, t, h1, h2⟩ := hP
  exact ⟨p, _, dx, _, _, rfl, h1, T.c_Page, T.a_Page_clipped, pageF_clipped _ _, h⟩
/-- Page.__init__ -/
def sp_Page___init__ (K : PySem.W.Frag) : Sp := fun vs H Q _ => ∃ (x dx t : Addr) (a b : Int) (c : Str), vs = [.ref x, .ref t, .int a, .int b, .str c] ∧ H x = some (.ins (He.ga K "Page") dx []) ∧
  Q .non (upd (upd (upd (upd H x (.ins (He.ga K "Page") dx (putF "rows" (.ref t) []))) x (.ins (He.ga K "Page") dx (putF "row" (.int a) (putF "rows" (.ref t) [])))) x
    (.ins (He.ga K "Page") dx (putF "column" (.int b) (putF "row" (.int a) (putF "rows" (.ref t) []))))) x (.ins (He.ga K "Page") dx (putF "clipped" (.str c) (putF "column" (.int b) (putF "row" (.int a) (putF "rows" (.ref t) []))))))
theorem sc_Page___init__ : FnScope ["self", "rows", "row", "column", "clipped"] ["self", "rows", "row", "column", "clipped"] (defScope s_Page___init__) := ⟨rfl, rfl, rfl, by decide +kernel, rfl, by decide +kernel, by decide +kernel⟩
theorem ok_Page___init__ (T : Tx w K mg) : Fk P w K mg base 1 (Ad K d_Page___init__.at_) ["self", "rows", "row", "column", "clipped"] (sp_Page___init__ K) := by
  refine mkF T.f_Page___init__ sc_Page___init__ rfl (fun _ _ _ _ _ _ us hl => match us, hl with | [_, _, _, _, _], _ => rfl) (fun vs H Q E h => by obtain ⟨_, _, _, _, _, _, rfl, _⟩ := h; rfl) (fun cdv A outer s H vs Q E hcd hcode hr h => ?_)
  refine ⟨_, (pss_cons (ps_fld (pv 0) (pv 1) rfl)
      (pss_cons (ps_fld (pv 0) (pv 2) rfl)
      (pss_cons (ps_fld (pv 0) (pv 3) rfl)
      (pss_one (ps_fld (pv 0) (pv 4) rfl))))), ?_⟩
  obtain ⟨x, dx, t, a, b, c, rfl, hx, k⟩ := h
  refine ⟨_, rfl, _, rfl, x, _, dx, _, rfl, hx, T.c_Page, T.a_Page_rows, (by show 0 < 1000; decide), ?_⟩
  refine ⟨_, rfl, _, rfl, x, _, dx, _, rfl, upd_same, T.c_Page, T.a_Page_row, (by show 1 < 1000; decide), ?_⟩
  refine ⟨_, rfl, _, rfl, x, _, dx, _, rfl, upd_same, T.c_Page, T.a_Page_column, (by show 2 < 1000; decide), ?_⟩
  refine ⟨_, rfl, _, rfl, x, _, dx, _, rfl, upd_same, T.c_Page, T.a_Page_clipped, (by show 3 < 1000; decide), ?_⟩
  exact k
/-- Page(rows, row, column, clipped) -/
def sp_Page (K : PySem.W.Frag) : Sp := fun vs H Q _ => ∃ (t : Addr) (i j : Int) (c : Str) (g : Pg), vs = [.ref t, .int i, .int j, .str c] ∧ i = g.row ∧ j = g.col ∧ c = S g.clip ∧ SqT K H t (rowsV g.rows) ∧
  ∀ q H', Kq [] H H' → PageAt K H' q g → Q (.ref q) H'
/-- a new instance -/
theorem Kq.made {S : List Addr} {H : Hp} {x dx C : Addr} {fs : List (Str × V)} (hx : H x = none) (hd : H dx = none) (ne : dx ≠ x) : Kq S H (upd (upd H dx (.own x)) x (.ins C dx fs)) :=
  (Kq.alloc hd).trans (Kq.alloc (by rw [upd_ne (Ne.symm ne)]; exact hx))
theorem new_Page {E : XK} : ∀ vs H Q, sp_Page K vs H Q E → ∀ x dx, H x = none → H dx = none → dx ≠ x →
    sp_Page___init__ K (.ref x :: vs) (upd (upd H dx (.own x)) x (.ins (He.ga K "Page") dx [])) (fun v H2 => v = .non ∧ Q (.ref x) H2) E := by
  rintro vs H Q ⟨t, i, j, c, g, rfl, rfl, rfl, rfl, ht, k⟩ x dx nx ndx ne
  refine ⟨x, dx, t, _, _, _, rfl, upd_same, rfl, ?_⟩
  rw [upd_upd, upd_upd, upd_upd, upd_upd, pageF_put]
  have kk : Kq [] H (upd (upd H dx (.own x)) x (.ins (He.ga K "Page") dx (pageF t g))) := Kq.made nx ndx ne
  exact k x _ kk ⟨dx, t, upd_same, kk.tup ht⟩
def sp_line_at (K : PySem.W.Frag) : Sp := fun vs H Q _ => ∃ p g, vs = [.ref p] ∧ PageAt K H p g ∧ g.row < g.rows.length ∧ Q (.str (S g.line)) H
theorem sc_line_at : FnScope ["page"] ["page"] (defScope s_line_at) := ⟨rfl, rfl, rfl, by decide +kernel, rfl, by decide +kernel, by decide +kernel⟩
theorem ok_line_at (T : Tx w K mg) : Fk P w K mg base 1 (Ad K d_line_at.at_) ["page"] (sp_line_at K) := by
  refine mkF T.f_line_at sc_line_at rfl (fun _ _ _ _ _ _ us hl => match us, hl with | [_], _ => rfl) (fun vs H Q E h => by obtain ⟨_, _, rfl, _⟩ := h; rfl) (fun cdv A outer s H vs Q E hcd hcode hr h => ?_)
  refine ⟨_, (pss_one (ps_ret (pe_ix ix_tup (pe_fld (pv 0) rfl) (pe_fld (pv 0) rfl) (fun _ _ => rfl)))), ?_⟩
  obtain ⟨p, g, rfl, hP, hr', k⟩ := h
  refine ⟨_, rfl, rd_rows T hP fun t ht => ⟨_, rfl, rd_row T hP ?_⟩⟩
  exact ⟨t, _, _, _, rfl, rfl, ht, rows_at rfl hr', k⟩
def sp_moved (K : PySem.W.Frag) : Sp := fun vs H Q _ => ∃ p g i j, ∃ r c : Nat, vs = [.ref p, .int i, .int j] ∧ i = (r : Int) ∧ j = (c : Int) ∧ PageAt K H p g ∧ ∀ q H', Kq [] H H' → PageAt K H' q (g.at_ r c) → Q (.ref q) H'
theorem sc_moved : FnScope ["page", "row", "column"] ["page", "row", "column"] (defScope s_moved) := ⟨rfl, rfl, rfl, by decide +kernel, rfl, by decide +kernel, by decide +kernel⟩
theorem ok_moved (T : Tx w K mg) : Fk P w K mg base 3 (Ad K d_moved.at_) ["page", "row", "column"] (sp_moved K) := by
  have F_Page___init__ := ok_Page___init__ (P := P) (base := base) T
  refine mkF T.f_moved sc_moved rfl (fun _ _ _ _ _ _ us hl => match us, hl with | [_, _, _], _ => rfl) (fun vs H Q E h => by obtain ⟨_, _, _, _, _, _, rfl, _⟩ := h; rfl) (fun cdv A outer s H vs Q E hcd hcode hr h => ?_)
  refine ⟨_, (pss_one (ps_ret (pe_kF (spN := sp_Page K) T.k_Page F_Page___init__ (hr.mono (by decide)) T.g_Page px new_Page (pa_cons (pe_fld (pv 0) rfl) (pa_cons (pv 1) (pa_cons (pv 2) (pa_cons (pe_fld (pv 0) rfl) pa_nil))))))), ?_⟩
  obtain ⟨p, g, i, j, r, c, rfl, rfl, rfl, hP, k⟩ := h
  refine ⟨_, rfl, rd_rows T hP fun t ht => ⟨_, rfl, _, rfl, _, rfl, rd_clip T hP ?_⟩⟩
  exact ⟨t, _, _, _, g.at_ r c, rfl, rfl, rfl, rfl, ht, k⟩
def sp_with_lines (K : PySem.W.Frag) : Sp := fun vs H Q _ => ∃ p g i m l ls, ∃ f n : Nat, vs = [.ref p, .int i, .int m, .ref l] ∧ i = (f : Int) ∧ m = (n : Int) ∧ PageAt K H p g ∧ SqT K H l (rowsV ls) ∧ f < g.rows.length ∧ 1 ≤ n ∧ g.rows.length ≤ 12 ∧ ls.length ≤ 2 ∧ ls ≠ [] ∧
  ∀ q H', Kq [] H H' → SqT K H' q (rowsV (g.others f n ls)) → Q (.ref q) H'
theorem rowsV_ne {ls : List Ln} (h : ls ≠ []) : rowsV ls ≠ [] := by
  intro e
  apply h
  have := congrArg List.length e
  rw [rowsV_len] at this
  exact List.length_eq_zero_iff.mp this
theorem rowsV_nil {ls : List Ln} (h : rowsV ls = []) : ls = [] := by
  have := congrArg List.length h
  rw [rowsV_len] at this
  exact List.length_eq_zero_iff.mp this
theorem sc_with_lines : FnScope ["page", "first", "many", "lines"] ["page", "first", "many", "lines"] (defScope s_with_lines) := ⟨rfl, rfl, rfl, by decide +kernel, rfl, by decide +kernel, by decide +kernel⟩
theorem ok_with_lines (T : Tx w K mg) : Fk P w K mg base 1 (Ad K d_with_lines.at_) ["page", "first", "many", "lines"] (sp_with_lines K) := by
  refine mkF T.f_with_lines sc_with_lines rfl (fun _ _ _ _ _ _ us hl => match us, hl with | [_, _, _, _], _ => rfl) (fun vs H Q E h => by obtain ⟨_, _, _, _, _, _, _, _, rfl, _⟩ := h; rfl) (fun cdv A outer s H vs Q E hcd hcode hr h => ?_)
  refine ⟨_, (pss_one (ps_ret (pe_op op_catU (pe_op op_catU (pe_slice sl_tupU (pe_fld (pv 0) rfl) po_none (po_some (pv 1))) (pv 3)) (pe_slice sl_tupU (pe_fld (pv 0) rfl) (po_some (pe_op op_add (pv 1) (pv 2))) po_none)))), ?_⟩
  obtain ⟨p, g, i, m, l, ls, f, n, rfl, rfl, rfl, hP, hl, hf, hn, h12, h2, hne, k⟩ := h
  refine ⟨_, rfl, rd_rows T hP fun t ht => ⟨_, rfl, _, rfl, t, _, rfl, ht, fun p1 H1 k1 a1 => ?_⟩⟩
  rw [cutV_to rfl] at a1
  refine ⟨_, rfl, p1, l, _, _, rfl, rfl, a1, k1.tup hl, ?_, fun p2 H2 k2 a2 => ?_⟩
  · rw [rowsV_len, rowsV_len, List.length_take]; exact line16 (by omega)
  rw [rowsV_app] at a2
  have k12 := k1.trans k2
  refine ⟨_, rfl, rd_rows T (k12.page hP) fun t ht => ⟨_, rfl, _, rfl, _, _, rfl, rfl, _, rfl, t, _, rfl, ht, fun p3 H3 k3 a3 => ?_⟩⟩
  rw [cutV_from (n := f + n) (by omega)] at a3
  refine ⟨p2, p3, _, _, rfl, rfl, k3.tup a2, a3, ?_, fun q H4 k4 a4 => ?_⟩
  · rw [rowsV_len, rowsV_len, List.length_append, List.length_take, List.length_drop]; exact line16 (by omega)
  rw [rowsV_app] at a4
  exact k q H4 ((k12.trans k3).trans k4) a4
end
end KT
set_option Elab.async false
set_option linter.all false
set_option maxRecDepth 100000
set_option maxHeartbeats 4000000
namespace KT
open PySem PySem.Spec PyProof.Rows L2 GxR
variable [GT]
theorem Pg.Ok.line60 {g : Pg} (ok : g.Ok) : g.line.length ≤ 60 := by
  unfold Pg.line
  rw [List.getD_eq_getElem?_getD, List.getElem?_eq_getElem ok.row]
  exact ok.long _ (List.getElem_mem _)
theorem Pg.Ok.row60 {g : Pg} (ok : g.Ok) {i : Nat} (h : i < g.rows.length) : (g.rows.getD i []).length ≤ 60 := by
  rw [List.getD_eq_getElem?_getD, List.getElem?_eq_getElem h]
  exact ok.long _ (List.getElem_mem _)
theorem S16 {l : Ln} (h : l.length ≤ 1000) : (S l).length ≤ sizeLine := line16 (by rw [S_len]; omega)
/-- an action of no further argument -/
def spAct (K : PySem.W.Frag) (f : Pg → Option Pg) : Sp := fun vs H Q _ => ∃ p g, vs = [.ref p] ∧ PageAt K H p g ∧ g.Ok ∧ (∀ H', Kq [] H H' → f g = none → Q .non H') ∧ ∀ q H' g', Kq [] H H' → f g = some g' → PageAt K H' q g' → Q (.ref q) H'
/-- .. of a text -/
def spActS (K : PySem.W.Frag) (f : Ln → Pg → Option Pg) : Sp := fun vs H Q _ => ∃ p g s, vs = [.ref p, .str (S s)] ∧ PageAt K H p g ∧ g.Ok ∧ s.length ≤ 60 ∧ (∀ H', Kq [] H H' → f s g = none → Q .non H') ∧ ∀ q H' g', Kq [] H H' → f s g = some g' → PageAt K H' q g' → Q (.ref q) H'
section
variable {P : Program} {w : World} {K : PySem.W.Frag} {mg : Str → Option Value} {base : Heap}
theorem sc_write : FnScope ["page", "signs", "line", "written", "rows"] ["page", "signs"] (defScope s_write) := ⟨rfl, rfl, rfl, by decide +kernel, rfl, by decide +kernel, by decide +kernel⟩
theorem ok_write (T : Tx w K mg) : Fk P w K mg base 3 (Ad K d_write.at_) ["page", "signs"] (spActS K Pg.write) := by
  obtain ⟨t_MOST_SIGNS, h_MOST_SIGNS⟩ := T.i_MOST_SIGNS
  have F_Page___init__ := ok_Page___init__ (P := P) (base := base) T
  have F_line_at := ok_line_at (P := P) (base := base) T
  have F_with_lines := ok_with_lines (P := P) (base := base) T
  refine mkF T.f_write sc_write rfl (fun _ _ _ _ _ _ us hl => match us, hl with | [_, _], _ => rfl) (fun vs H Q E h => by obtain ⟨_, _, _, rfl, _⟩ := h; rfl) (fun cdv A outer s H vs Q E hcd hcode hr h => ?_)
  refine ⟨_, (pss_cons (ps_asg (pe_cF F_line_at (hr.mono (by decide)) T.g_line_at px (pa_cons (pv 0) pa_nil)) (pg_name (i := 2) sc_write.nd rfl (.inl rfl)))
      (pss_cons (ps_if (pt_cmpR op_gt (pe_op op_add (pe_callB call_len_str (by rfl) T.n_len (by decide +kernel) (pa_cons (pv 2) pa_nil)) (pe_callB call_len_str (by rfl) T.n_len (by decide +kernel) (pa_cons (pv 1) pa_nil))) (pe_glob (v := .int 60) (by rfl) h_MOST_SIGNS ⟨_, rfl⟩) (nomark _)) (pss_one (ps_ret pe_non)) pss_nil)
      (pss_cons (ps_asg (pe_op op_add_str (pe_op op_add_str (pe_slice sl_str (pv 2) po_none (po_some (pe_fld (pv 0) rfl))) (pv 1)) (pe_slice sl_str (pv 2) (po_some (pe_fld (pv 0) rfl)) po_none)) (pg_name (i := 3) sc_write.nd rfl (.inl rfl)))
      (pss_cons (ps_asg (pe_cF F_with_lines (hr.mono (by decide)) T.g_with_lines px (pa_cons (pv 0) (pa_cons (pe_fld (pv 0) rfl) (pa_cons pe_int (pa_cons (pe_tup (pa_cons (pv 3) pa_nil)) pa_nil))))) (pg_name (i := 4) sc_write.nd rfl (.inl rfl)))
      (pss_one (ps_ret (pe_kF (spN := sp_Page K) T.k_Page F_Page___init__ (hr.mono (by decide)) T.g_Page px new_Page (pa_cons (pv 4) (pa_cons (pe_fld (pv 0) rfl) (pa_cons (pe_op op_add (pe_fld (pv 0) rfl) (pe_callB call_len_str (by rfl) T.n_len (by decide +kernel) (pa_cons (pv 1) pa_nil))) (pa_cons (pe_fld (pv 0) rfl) pa_nil))))))))))), ?_⟩
  obtain ⟨p, g, ss, rfl, hP, ok, hs, kn, ks⟩ := h
  have h60 := ok.line60
  refine ⟨_, rfl, p, g, rfl, hP, ok.row, ?_⟩
  refine ⟨_, rfl, _, rfl, S16 (by omega), _, rfl, _, rfl, S16 (by omega), _, _, rfl, rfl, _, _, rfl, rfl, _, rfl, ?_⟩
  refine iteD (fun h1 => ?_) (fun h1 => ?_)
  · rw [S_len, S_len] at h1
    exact kn H Kq.refl (by unfold Pg.write; rw [if_pos (by omega)])
  rw [S_len, S_len] at h1
  refine ⟨_, rfl, _, rfl, rd_col T hP ⟨_, rfl, _, rfl, S16 (by omega), ?_⟩⟩
  rw [cut_to g.line (n := g.col) rfl]
  refine ⟨_, rfl, _, _, rfl, rfl, line16 (by rw [S_len, S_len, List.length_take]; omega), ?_⟩
  rw [S_app]
  refine ⟨_, rfl, _, rfl, rd_col T hP ⟨_, rfl, _, rfl, S16 (by omega), ?_⟩⟩
  rw [cut_from g.line (n := g.col) rfl]
  refine ⟨_, _, rfl, rfl, line16 (by rw [S_len, S_len, List.length_append, List.length_take, List.length_drop]; omega), ?_⟩
  rw [S_app]
  refine ⟨_, rfl, _, rfl, rd_row T hP ⟨_, rfl, line16 (by show 1 ≤ 1000000; decide), fun tp ntp => ?_⟩⟩
  refine ⟨p, g, _, _, tp, [_], g.row, 1, rfl, rfl, rfl, (Kq.alloc ntp).page hP, SqT.of upd_same, ok.row, by decide, ok.many, (by show 1 ≤ 2; decide), by simp, fun q H2 k2 a2 => ?_⟩
  have k12 := (Kq.alloc (S := []) (o := .tup [V.str (S (g.line.take g.col ++ ss ++ g.line.drop g.col))]) ntp).trans k2
  have hP2 := k12.page hP
  refine ⟨_, rfl, _, rfl, rd_row T hP2 ⟨_, rfl, rd_col T hP2 ⟨_, rfl, _, rfl, S16 (by omega), _, _, rfl, rfl, _, rfl, rd_clip T hP2 ?_⟩⟩⟩
  refine ⟨q, _, _, _, { rows := g.others g.row 1 [g.line.take g.col ++ ss ++ g.line.drop g.col], row := g.row, col := g.col + ss.length, clip := g.clip }, rfl, rfl, by rw [S_len]; simp, rfl, a2, fun q3 H3 k3 a3 => ?_⟩
  exact ks q3 H3 _ (k12.trans k3) (by unfold Pg.write; rw [if_neg (by omega)]) a3
theorem sc_break_row : FnScope ["page", "line", "rows"] ["page"] (defScope s_break_row) := ⟨rfl, rfl, rfl, by decide +kernel, rfl, by decide +kernel, by decide +kernel⟩
theorem ok_break_row (T : Tx w K mg) : Fk P w K mg base 3 (Ad K d_break_row.at_) ["page"] (spAct K Pg.brk) := by
  obtain ⟨t_MOST_ROWS, h_MOST_ROWS⟩ := T.i_MOST_ROWS
  have F_Page___init__ := ok_Page___init__ (P := P) (base := base) T
  have F_line_at := ok_line_at (P := P) (base := base) T
  have F_with_lines := ok_with_lines (P := P) (base := base) T
  refine mkF T.f_break_row sc_break_row rfl (fun _ _ _ _ _ _ us hl => match us, hl with | [_], _ => rfl) (fun vs H Q E h => by obtain ⟨_, _, rfl, _⟩ := h; rfl) (fun cdv A outer s H vs Q E hcd hcode hr h => ?_)
  refine ⟨_, (pss_cons (ps_if (pt_cmpR op_ge (pe_callB call_len_seq (by rfl) T.n_len (by decide +kernel) (pa_cons (pe_fld (pv 0) rfl) pa_nil)) (pe_glob (v := .int 12) (by rfl) h_MOST_ROWS ⟨_, rfl⟩) (nomark _)) (pss_one (ps_ret pe_non)) pss_nil)
      (pss_cons (ps_asg (pe_cF F_line_at (hr.mono (by decide)) T.g_line_at px (pa_cons (pv 0) pa_nil)) (pg_name (i := 1) sc_break_row.nd rfl (.inl rfl)))
      (pss_cons (ps_asg (pe_cF F_with_lines (hr.mono (by decide)) T.g_with_lines px (pa_cons (pv 0) (pa_cons (pe_fld (pv 0) rfl) (pa_cons pe_int (pa_cons (pe_tup (pa_cons (pe_slice sl_str (pv 1) po_none (po_some (pe_fld (pv 0) rfl))) (pa_cons (pe_slice sl_str (pv 1) (po_some (pe_fld (pv 0) rfl)) po_none) pa_nil))) pa_nil))))) (pg_name (i := 2) sc_break_row.nd rfl (.inl rfl)))
      (pss_one (ps_ret (pe_kF (spN := sp_Page K) T.k_Page F_Page___init__ (hr.mono (by decide)) T.g_Page px new_Page (pa_cons (pv 2) (pa_cons (pe_op op_add (pe_fld (pv 0) rfl) pe_int) (pa_cons pe_int (pa_cons (pe_fld (pv 0) rfl) pa_nil)))))))))), ?_⟩
  obtain ⟨p, g, rfl, hP, ok, kn, ks⟩ := h
  have h60 := ok.line60
  refine ⟨_, rfl, rd_rows T hP fun t ht => ⟨t, _, rfl, .inr ht, _, _, rfl, rfl, _, rfl, ?_⟩⟩
  rw [rowsV_len]
  refine iteD (fun h1 => ?_) (fun h1 => ?_)
  · exact kn H Kq.refl (by unfold Pg.brk; rw [if_pos (by omega)])
  refine ⟨_, rfl, p, g, rfl, hP, ok.row, ?_⟩
  refine ⟨_, rfl, _, rfl, rd_row T hP ⟨_, rfl, _, rfl, rd_col T hP ⟨_, rfl, _, rfl, S16 (by omega), _, rfl, _, rfl, rd_col T hP ⟨_, rfl, _, rfl, S16 (by omega), line16 (by show 2 ≤ 1000000; decide), fun tp ntp => ?_⟩⟩⟩⟩
  rw [cut_to g.line (n := g.col) rfl, cut_from g.line (n := g.col) rfl]
  refine ⟨p, g, _, _, tp, [_, _], g.row, 1, rfl, rfl, rfl, (Kq.alloc ntp).page hP, SqT.of upd_same, ok.row, by decide, ok.many, (by show 2 ≤ 2; decide), by simp, fun q H2 k2 a2 => ?_⟩
  have k12 := (Kq.alloc (S := []) (o := .tup [V.str (S (g.line.take g.col)), V.str (S (g.line.drop g.col))]) ntp).trans k2
  have hP2 := k12.page hP
  refine ⟨_, rfl, _, rfl, rd_row T hP2 ⟨_, _, rfl, rfl, _, rfl, rd_clip T hP2 ?_⟩⟩
  refine ⟨q, _, _, _, { rows := g.others g.row 1 [g.line.take g.col, g.line.drop g.col], row := g.row + 1, col := 0, clip := g.clip }, rfl, by simp, by simp, rfl, a2, fun q3 H3 k3 a3 => ?_⟩
  exact ks q3 H3 _ (k12.trans k3) (by unfold Pg.brk; rw [if_neg (by omega)]) a3
theorem sc_join_row : FnScope ["page", "above", "joined", "rows"] ["page"] (defScope s_join_row) := ⟨rfl, rfl, rfl, by decide +kernel, rfl, by decide +kernel, by decide +kernel⟩
theorem ok_join_row (T : Tx w K mg) : Fk P w K mg base 3 (Ad K d_join_row.at_) ["page"] (spAct K Pg.join) := by
  obtain ⟨t_MOST_SIGNS, h_MOST_SIGNS⟩ := T.i_MOST_SIGNS
  have F_Page___init__ := ok_Page___init__ (P := P) (base := base) T
  have F_line_at := ok_line_at (P := P) (base := base) T
  have F_with_lines := ok_with_lines (P := P) (base := base) T
  refine mkF T.f_join_row sc_join_row rfl (fun _ _ _ _ _ _ us hl => match us, hl with | [_], _ => rfl) (fun vs H Q E h => by obtain ⟨_, _, rfl, _⟩ := h; rfl) (fun cdv A outer s H vs Q E hcd hcode hr h => ?_)
  refine ⟨_, (pss_cons (ps_if (pt_cmpR op_eq (pe_fld (pv 0) rfl) pe_int (nomark _)) (pss_one (ps_ret pe_non)) pss_nil)
      (pss_cons (ps_asg (pe_ix ix_tup (pe_fld (pv 0) rfl) (pe_op op_sub (pe_fld (pv 0) rfl) pe_int) (fun _ _ => rfl)) (pg_name (i := 1) sc_join_row.nd rfl (.inl rfl)))
      (pss_cons (ps_asg (pe_op op_add_str (pv 1) (pe_cF F_line_at (hr.mono (by decide)) T.g_line_at px (pa_cons (pv 0) pa_nil))) (pg_name (i := 2) sc_join_row.nd rfl (.inl rfl)))
      (pss_cons (ps_if (pt_cmpR op_gt (pe_callB call_len_str (by rfl) T.n_len (by decide +kernel) (pa_cons (pv 2) pa_nil)) (pe_glob (v := .int 60) (by rfl) h_MOST_SIGNS ⟨_, rfl⟩) (nomark _)) (pss_one (ps_ret pe_non)) pss_nil)
      (pss_cons (ps_asg (pe_cF F_with_lines (hr.mono (by decide)) T.g_with_lines px (pa_cons (pv 0) (pa_cons (pe_op op_sub (pe_fld (pv 0) rfl) pe_int) (pa_cons pe_int (pa_cons (pe_tup (pa_cons (pv 2) pa_nil)) pa_nil))))) (pg_name (i := 3) sc_join_row.nd rfl (.inl rfl)))
      (pss_one (ps_ret (pe_kF (spN := sp_Page K) T.k_Page F_Page___init__ (hr.mono (by decide)) T.g_Page px new_Page (pa_cons (pv 3) (pa_cons (pe_op op_sub (pe_fld (pv 0) rfl) pe_int) (pa_cons (pe_callB call_len_str (by rfl) T.n_len (by decide +kernel) (pa_cons (pv 1) pa_nil)) (pa_cons (pe_fld (pv 0) rfl) pa_nil)))))))))))), ?_⟩
  obtain ⟨p, g, rfl, hP, ok, kn, ks⟩ := h
  have h60 := ok.line60
  refine ⟨_, rfl, rd_row T hP ⟨rfl, _, rfl, ?_⟩⟩
  refine iteD (fun h1 => ?_) (fun h1 => ?_)
  · have h1 : g.row = 0 := by simpa using h1
    exact kn H Kq.refl (by unfold Pg.join; rw [if_pos h1])
  have h1 : ¬ g.row = 0 := by simpa using h1
  have hrow := ok.row
  have habove : (g.rows.getD (g.row - 1) []).length ≤ 60 := ok.row60 (by omega)
  refine ⟨_, rfl, rd_rows T hP fun t ht => ⟨_, rfl, rd_row T hP ⟨_, _, rfl, rfl, t, _, _, _, rfl, rfl, ht, rows_at (n := g.row - 1) (by omega) (by omega), ?_⟩⟩⟩
  refine ⟨_, rfl, _, rfl, p, g, rfl, hP, ok.row, _, _, rfl, rfl, line16 (by rw [S_len, S_len]; omega), ?_⟩
  rw [S_app]
  refine ⟨_, rfl, _, rfl, S16 (by rw [List.length_append]; omega), _, _, rfl, rfl, _, rfl, ?_⟩
  rw [S_len]
  refine iteD (fun h2 => ?_) (fun h2 => ?_)
  · exact kn H Kq.refl (by unfold Pg.join; rw [if_neg h1, if_pos (by omega)])
  refine ⟨_, rfl, _, rfl, rd_row T hP ⟨_, _, rfl, rfl, _, rfl, line16 (by show 1 ≤ 1000000; decide), fun tp ntp => ?_⟩⟩
  refine ⟨p, g, _, _, tp, [_], g.row - 1, 2, rfl, by omega, rfl, (Kq.alloc ntp).page hP, SqT.of upd_same, by omega, by decide, ok.many, (by show 1 ≤ 2; decide), by simp, fun q H2 k2 a2 => ?_⟩
  have k12 := (Kq.alloc (S := []) (o := .tup [V.str (S (g.rows.getD (g.row - 1) [] ++ g.line))]) ntp).trans k2
  have hP2 := k12.page hP
  refine ⟨_, rfl, _, rfl, rd_row T hP2 ⟨_, _, rfl, rfl, _, rfl, _, rfl, S16 (by omega), _, rfl, rd_clip T hP2 ?_⟩⟩
  refine ⟨q, _, _, _, { rows := g.others (g.row - 1) 2 [g.rows.getD (g.row - 1) [] ++ g.line], row := g.row - 1, col := (g.rows.getD (g.row - 1) []).length, clip := g.clip }, rfl, (by show (g.row : Int) - 1 = ((g.row - 1 : Nat) : Int); omega), by rw [S_len], rfl, a2, fun q3 H3 k3 a3 => ?_⟩
  exact ks q3 H3 _ (k12.trans k3) (by unfold Pg.join; rw [if_neg h1, if_neg (by omega)]) a3
theorem sc_rub : FnScope ["page", "line", "rubbed", "rows"] ["page"] (defScope s_rub) := ⟨rfl, rfl, rfl, by decide +kernel, rfl, by decide +kernel, by decide +kernel⟩
theorem ok_rub (T : Tx w K mg) : Fk P w K mg base 4 (Ad K d_rub.at_) ["page"] (spAct K Pg.rub) := by
  have F_Page___init__ := ok_Page___init__ (P := P) (base := base) T
  have F_join_row := ok_join_row (P := P) (base := base) T
  have F_line_at := ok_line_at (P := P) (base := base) T
  have F_with_lines := ok_with_lines (P := P) (base := base) T
  refine mkF T.f_rub sc_rub rfl (fun _ _ _ _ _ _ us hl => match us, hl with | [_], _ => rfl) (fun vs H Q E h => by obtain ⟨_, _, rfl, _⟩ := h; rfl) (fun cdv A outer s H vs Q E hcd hcode hr h => ?_)
  refine ⟨_, (pss_cons (ps_if (pt_cmpR op_eq (pe_fld (pv 0) rfl) pe_int (nomark _)) (pss_one (ps_ret (pe_cF F_join_row (hr.mono (by decide)) T.g_join_row px (pa_cons (pv 0) pa_nil)))) pss_nil)
      (pss_cons (ps_asg (pe_cF F_line_at (hr.mono (by decide)) T.g_line_at px (pa_cons (pv 0) pa_nil)) (pg_name (i := 1) sc_rub.nd rfl (.inl rfl)))
      (pss_cons (ps_asg (pe_op op_add_str (pe_slice sl_str (pv 1) po_none (po_some (pe_op op_sub (pe_fld (pv 0) rfl) pe_int))) (pe_slice sl_str (pv 1) (po_some (pe_fld (pv 0) rfl)) po_none)) (pg_name (i := 2) sc_rub.nd rfl (.inl rfl)))
      (pss_cons (ps_asg (pe_cF F_with_lines (hr.mono (by decide)) T.g_with_lines px (pa_cons (pv 0) (pa_cons (pe_fld (pv 0) rfl) (pa_cons pe_int (pa_cons (pe_tup (pa_cons (pv 2) pa_nil)) pa_nil))))) (pg_name (i := 3) sc_rub.nd rfl (.inl rfl)))
      (pss_one (ps_ret (pe_kF (spN := sp_Page K) T.k_Page F_Page___init__ (hr.mono (by decide)) T.g_Page px new_Page (pa_cons (pv 3) (pa_cons (pe_fld (pv 0) rfl) (pa_cons (pe_op op_sub (pe_fld (pv 0) rfl) pe_int) (pa_cons (pe_fld (pv 0) rfl) pa_nil))))))))))), ?_⟩
  obtain ⟨p, g, rfl, hP, ok, kn, ks⟩ := h
  have h60 := ok.line60
  refine ⟨_, rfl, rd_col T hP ⟨rfl, _, rfl, ?_⟩⟩
  refine iteD (fun h1 => ?_) (fun h1 => ?_)
  · have h1 : g.col = 0 := by simpa using h1
    have e : g.rub = g.join := by unfold Pg.rub; rw [if_pos h1]
    exact ⟨_, rfl, p, g, rfl, hP, ok, fun H' k' z => kn H' k' (e.trans z), fun q H' g' k' z => ks q H' g' k' (e.trans z)⟩
  have h1 : ¬ g.col = 0 := by simpa using h1
  have hc := ok.col
  refine ⟨_, rfl, p, g, rfl, hP, ok.row, ?_⟩
  refine ⟨_, rfl, _, rfl, rd_col T hP ⟨_, _, rfl, rfl, _, rfl, _, rfl, S16 (by omega), _, rfl, _, rfl, rd_col T hP ⟨_, rfl, _, rfl, S16 (by omega), ?_⟩⟩⟩
  rw [cut_to g.line (n := g.col - 1) (by omega), cut_from g.line (n := g.col) rfl]
  refine ⟨_, _, rfl, rfl, line16 (by rw [S_len, S_len, List.length_take, List.length_drop]; omega), ?_⟩
  rw [S_app]
  refine ⟨_, rfl, _, rfl, rd_row T hP ⟨_, rfl, line16 (by show 1 ≤ 1000000; decide), fun tp ntp => ?_⟩⟩
  refine ⟨p, g, _, _, tp, [_], g.row, 1, rfl, rfl, rfl, (Kq.alloc ntp).page hP, SqT.of upd_same, ok.row, by decide, ok.many, (by show 1 ≤ 2; decide), by simp, fun q H2 k2 a2 => ?_⟩
  have k12 := (Kq.alloc (S := []) (o := .tup [V.str (S (g.line.take (g.col - 1) ++ g.line.drop g.col))]) ntp).trans k2
  have hP2 := k12.page hP
  refine ⟨_, rfl, _, rfl, rd_row T hP2 ⟨_, rfl, rd_col T hP2 ⟨_, _, rfl, rfl, _, rfl, rd_clip T hP2 ?_⟩⟩⟩
  refine ⟨q, _, _, _, { rows := g.others g.row 1 [g.line.take (g.col - 1) ++ g.line.drop g.col], row := g.row, col := g.col - 1, clip := g.clip }, rfl, rfl, (by show (g.col : Int) - 1 = ((g.col - 1 : Nat) : Int); omega), rfl, a2, fun q3 H3 k3 a3 => ?_⟩
  exact ks q3 H3 _ (k12.trans k3) (by unfold Pg.rub; rw [if_neg h1]) a3
theorem sc_go_left : FnScope ["page"] ["page"] (defScope s_go_left) := ⟨rfl, rfl, rfl, by decide +kernel, rfl, by decide +kernel, by decide +kernel⟩
theorem ok_go_left (T : Tx w K mg) : Fk P w K mg base 4 (Ad K d_go_left.at_) ["page"] (spAct K Pg.left) := by
  have F_moved := ok_moved (P := P) (base := base) T
  refine mkF T.f_go_left sc_go_left rfl (fun _ _ _ _ _ _ us hl => match us, hl with | [_], _ => rfl) (fun vs H Q E h => by obtain ⟨_, _, rfl, _⟩ := h; rfl) (fun cdv A outer s H vs Q E hcd hcode hr h => ?_)
  refine ⟨_, (pss_cons (ps_if (pt_cmpR op_gt (pe_fld (pv 0) rfl) pe_int (nomark _)) (pss_one (ps_ret (pe_cF F_moved (hr.mono (by decide)) T.g_moved px (pa_cons (pv 0) (pa_cons (pe_fld (pv 0) rfl) (pa_cons (pe_op op_sub (pe_fld (pv 0) rfl) pe_int) pa_nil)))))) pss_nil)
      (pss_cons (ps_if (pt_cmpR op_eq (pe_fld (pv 0) rfl) pe_int (nomark _)) (pss_one (ps_ret pe_non)) pss_nil)
      (pss_one (ps_ret (pe_cF F_moved (hr.mono (by decide)) T.g_moved px (pa_cons (pv 0) (pa_cons (pe_op op_sub (pe_fld (pv 0) rfl) pe_int) (pa_cons (pe_callB call_len_str (by rfl) T.n_len (by decide +kernel) (pa_cons (pe_ix ix_tup (pe_fld (pv 0) rfl) (pe_op op_sub (pe_fld (pv 0) rfl) pe_int) (fun _ _ => rfl)) pa_nil)) pa_nil)))))))), ?_⟩
  obtain ⟨p, g, rfl, hP, ok, kn, ks⟩ := h
  have hrow := ok.row
  refine ⟨_, rfl, rd_col T hP ⟨_, _, rfl, rfl, _, rfl, ?_⟩⟩
  refine iteD (fun h1 => ?_) (fun h1 => ?_)
  · refine ⟨_, rfl, _, rfl, rd_row T hP ⟨_, rfl, rd_col T hP ⟨_, _, rfl, rfl, p, g, _, _, g.row, g.col - 1, rfl, rfl, by omega, hP, fun q H' k' a' => ?_⟩⟩⟩
    exact ks q H' _ k' (by unfold Pg.left; rw [if_pos (by omega)]) a'
  refine ⟨_, rfl, rd_row T hP ⟨rfl, _, rfl, ?_⟩⟩
  refine iteD (fun h2 => ?_) (fun h2 => ?_)
  · have h2 : g.row = 0 := by simpa using h2
    exact kn H Kq.refl (by unfold Pg.left; rw [if_neg (by omega), if_pos h2])
  have h2 : ¬ g.row = 0 := by simpa using h2
  refine ⟨_, rfl, _, rfl, rd_row T hP ⟨_, _, rfl, rfl, _, rfl, rd_rows T hP fun t ht => ⟨_, rfl, rd_row T hP ⟨_, _, rfl, rfl, t, _, _, _, rfl, rfl, ht, rows_at (n := g.row - 1) (by omega) (by omega), _, rfl, S16 (Nat.le_trans (ok.row60 (by omega)) (by decide)), ?_⟩⟩⟩⟩
  refine ⟨p, g, _, _, g.row - 1, (g.rows.getD (g.row - 1) []).length, rfl, by omega, by rw [S_len], hP, fun q H' k' a' => ?_⟩
  exact ks q H' _ k' (by unfold Pg.left; rw [if_neg (by omega), if_neg h2]) a'
theorem sc_go_right : FnScope ["page"] ["page"] (defScope s_go_right) := ⟨rfl, rfl, rfl, by decide +kernel, rfl, by decide +kernel, by decide +kernel⟩
theorem ok_go_right (T : Tx w K mg) : Fk P w K mg base 4 (Ad K d_go_right.at_) ["page"] (spAct K Pg.right) := by
  have F_line_at := ok_line_at (P := P) (base := base) T
  have F_moved := ok_moved (P := P) (base := base) T
  refine mkF T.f_go_right sc_go_right rfl (fun _ _ _ _ _ _ us hl => match us, hl with | [_], _ => rfl) (fun vs H Q E h => by obtain ⟨_, _, rfl, _⟩ := h; rfl) (fun cdv A outer s H vs Q E hcd hcode hr h => ?_)
  refine ⟨_, (pss_cons (ps_if (pt_cmpR op_lt (pe_fld (pv 0) rfl) (pe_callB call_len_str (by rfl) T.n_len (by decide +kernel) (pa_cons (pe_cF F_line_at (hr.mono (by decide)) T.g_line_at px (pa_cons (pv 0) pa_nil)) pa_nil)) (nomark _)) (pss_one (ps_ret (pe_cF F_moved (hr.mono (by decide)) T.g_moved px (pa_cons (pv 0) (pa_cons (pe_fld (pv 0) rfl) (pa_cons (pe_op op_add (pe_fld (pv 0) rfl) pe_int) pa_nil)))))) pss_nil)
      (pss_cons (ps_if (pt_cmpR op_eq (pe_op op_add (pe_fld (pv 0) rfl) pe_int) (pe_callB call_len_seq (by rfl) T.n_len (by decide +kernel) (pa_cons (pe_fld (pv 0) rfl) pa_nil)) (nomark _)) (pss_one (ps_ret pe_non)) pss_nil)
      (pss_one (ps_ret (pe_cF F_moved (hr.mono (by decide)) T.g_moved px (pa_cons (pv 0) (pa_cons (pe_op op_add (pe_fld (pv 0) rfl) pe_int) (pa_cons pe_int pa_nil)))))))), ?_⟩
  obtain ⟨p, g, rfl, hP, ok, kn, ks⟩ := h
  have hrow := ok.row
  have h60 := ok.line60
  refine ⟨_, rfl, rd_col T hP ⟨_, rfl, p, g, rfl, hP, hrow, _, rfl, S16 (by omega), _, _, rfl, rfl, _, rfl, ?_⟩⟩
  rw [S_len]
  refine iteD (fun h1 => ?_) (fun h1 => ?_)
  · refine ⟨_, rfl, _, rfl, rd_row T hP ⟨_, rfl, rd_col T hP ⟨_, _, rfl, rfl, p, g, _, _, g.row, g.col + 1, rfl, rfl, by omega, hP, fun q H' k' a' => ?_⟩⟩⟩
    exact ks q H' _ k' (by unfold Pg.right; rw [if_pos (by omega)]) a'
  refine ⟨_, rfl, rd_row T hP ⟨_, _, rfl, rfl, _, rfl, rd_rows T hP fun t ht => ⟨t, _, rfl, .inr ht, rfl, _, rfl, ?_⟩⟩⟩
  rw [rowsV_len]
  refine iteD (fun h2 => ?_) (fun h2 => ?_)
  · have h2 : (g.row : Int) + 1 = (g.rows.length : Int) := by simpa using h2
    exact kn H Kq.refl (by unfold Pg.right; rw [if_neg (by omega), if_pos (by omega)])
  have h2 : ¬ (g.row : Int) + 1 = (g.rows.length : Int) := by simpa using h2
  refine ⟨_, rfl, _, rfl, rd_row T hP ⟨_, _, rfl, rfl, p, g, _, _, g.row + 1, 0, rfl, by omega, rfl, hP, fun q H' k' a' => ?_⟩⟩
  exact ks q H' _ k' (by unfold Pg.right; rw [if_neg (by omega), if_neg (by omega)]) a'
def spToRow (K : PySem.W.Frag) : Sp := fun vs H Q _ => ∃ p g i, vs = [.ref p, .int i] ∧ PageAt K H p g ∧ g.Ok ∧ (∀ H', Kq [] H H' → Pg.toRow i g = none → Q .non H') ∧ ∀ q H' g', Kq [] H H' → Pg.toRow i g = some g' → PageAt K H' q g' → Q (.ref q) H'
theorem sc_go_to_row : FnScope ["page", "row"] ["page", "row"] (defScope s_go_to_row) := ⟨rfl, rfl, rfl, by decide +kernel, rfl, by decide +kernel, by decide +kernel⟩
theorem ok_go_to_row (T : Tx w K mg) : Fk P w K mg base 4 (Ad K d_go_to_row.at_) ["page", "row"] (spToRow K) := by
  have F_moved := ok_moved (P := P) (base := base) T
  refine mkF T.f_go_to_row sc_go_to_row rfl (fun _ _ _ _ _ _ us hl => match us, hl with | [_, _], _ => rfl) (fun vs H Q E h => by obtain ⟨_, _, _, rfl, _⟩ := h; rfl) (fun cdv A outer s H vs Q E hcd hcode hr h => ?_)
  refine ⟨_, (pss_cons (ps_if ((pw_or (pt_cmpR op_lt (pv 1) pe_int (nomark _)) (pw_or1 (pt_cmpR op_ge (pv 1) (pe_callB call_len_seq (by rfl) T.n_len (by decide +kernel) (pa_cons (pe_fld (pv 0) rfl) pa_nil)) (nomark _))))).pt (pss_one (ps_ret pe_non)) pss_nil)
      (pss_one (ps_ret (pe_cF F_moved (hr.mono (by decide)) T.g_moved px (pa_cons (pv 0) (pa_cons (pv 1) (pa_cons (pe_callB (call_min2 rfl) (by rfl) T.n_min (by decide +kernel) (pa_cons (pe_fld (pv 0) rfl) (pa_cons (pe_callB call_len_str (by rfl) T.n_len (by decide +kernel) (pa_cons (pe_ix ix_tup (pe_fld (pv 0) rfl) (pv 1) (fun _ _ => rfl)) pa_nil)) pa_nil))) pa_nil))))))), ?_⟩
  obtain ⟨p, g, i, rfl, hP, ok, kn, ks⟩ := h
  refine ⟨_, rfl, _, _, rfl, rfl, _, rfl, ?_⟩
  refine iteD (fun h1 => iteT ?_) (fun h1 => ?_)
  · exact kn H Kq.refl (by unfold Pg.toRow; rw [if_pos (Or.inl h1)])
  refine ⟨_, rfl, _, rfl, rd_rows T hP fun t ht => ⟨t, _, rfl, .inr ht, _, _, rfl, rfl, _, rfl, ?_⟩⟩
  rw [rowsV_len]
  refine iteD (fun h2 => ?_) (fun h2 => ?_)
  · exact kn H Kq.refl (by unfold Pg.toRow; rw [if_pos (Or.inr h2)])
  obtain ⟨n, rfl⟩ : ∃ n : Nat, i = (n : Int) := ⟨i.toNat, by omega⟩
  refine ⟨_, rfl, _, rfl, _, rfl, rd_col T hP ⟨_, rfl, rd_rows T hP fun t ht => ⟨_, rfl, t, _, _, _, rfl, rfl, ht, rows_at (n := n) rfl (by omega), _, rfl, S16 (Nat.le_trans (ok.row60 (by omega)) (by decide)), _, _, rfl, ?_⟩⟩⟩
  rw [S_len]
  refine ⟨p, g, _, _, n, min g.col (g.rows.getD n []).length, rfl, rfl, ?_, hP, fun q H' k' a' => ?_⟩
  · split <;> omega
  exact ks q H' _ k' (by unfold Pg.toRow; rw [if_neg (by omega)]; rfl) a'
theorem sc_go_up : FnScope ["page"] ["page"] (defScope s_go_up) := ⟨rfl, rfl, rfl, by decide +kernel, rfl, by decide +kernel, by decide +kernel⟩
theorem ok_go_up (T : Tx w K mg) : Fk P w K mg base 5 (Ad K d_go_up.at_) ["page"] (spAct K Pg.up) := by
  have F_go_to_row := ok_go_to_row (P := P) (base := base) T
  refine mkF T.f_go_up sc_go_up rfl (fun _ _ _ _ _ _ us hl => match us, hl with | [_], _ => rfl) (fun vs H Q E h => by obtain ⟨_, _, rfl, _⟩ := h; rfl) (fun cdv A outer s H vs Q E hcd hcode hr h => ?_)
  refine ⟨_, (pss_one (ps_ret (pe_cF F_go_to_row (hr.mono (by decide)) T.g_go_to_row px (pa_cons (pv 0) (pa_cons (pe_op op_sub (pe_fld (pv 0) rfl) pe_int) pa_nil))))), ?_⟩
  obtain ⟨p, g, rfl, hP, ok, kn, ks⟩ := h
  exact ⟨_, rfl, _, rfl, rd_row T hP ⟨_, _, rfl, rfl, p, g, _, rfl, hP, ok, fun H' k' z => kn H' k' z, fun q H' g' k' z => ks q H' g' k' z⟩⟩
theorem sc_go_down : FnScope ["page"] ["page"] (defScope s_go_down) := ⟨rfl, rfl, rfl, by decide +kernel, rfl, by decide +kernel, by decide +kernel⟩
theorem ok_go_down (T : Tx w K mg) : Fk P w K mg base 5 (Ad K d_go_down.at_) ["page"] (spAct K Pg.down) := by
  have F_go_to_row := ok_go_to_row (P := P) (base := base) T
  refine mkF T.f_go_down sc_go_down rfl (fun _ _ _ _ _ _ us hl => match us, hl with | [_], _ => rfl) (fun vs H Q E h => by obtain ⟨_, _, rfl, _⟩ := h; rfl) (fun cdv A outer s H vs Q E hcd hcode hr h => ?_)
  refine ⟨_, (pss_one (ps_ret (pe_cF F_go_to_row (hr.mono (by decide)) T.g_go_to_row px (pa_cons (pv 0) (pa_cons (pe_op op_add (pe_fld (pv 0) rfl) pe_int) pa_nil))))), ?_⟩
  obtain ⟨p, g, rfl, hP, ok, kn, ks⟩ := h
  exact ⟨_, rfl, _, rfl, rd_row T hP ⟨_, _, rfl, rfl, p, g, _, rfl, hP, ok, fun H' k' z => kn H' k' z, fun q H' g' k' z => ks q H' g' k' z⟩⟩
theorem sc_go_home : FnScope ["page"] ["page"] (defScope s_go_home) := ⟨rfl, rfl, rfl, by decide +kernel, rfl, by decide +kernel, by decide +kernel⟩
theorem ok_go_home (T : Tx w K mg) : Fk P w K mg base 4 (Ad K d_go_home.at_) ["page"] (spAct K Pg.home) := by
  have F_moved := ok_moved (P := P) (base := base) T
  refine mkF T.f_go_home sc_go_home rfl (fun _ _ _ _ _ _ us hl => match us, hl with | [_], _ => rfl) (fun vs H Q E h => by obtain ⟨_, _, rfl, _⟩ := h; rfl) (fun cdv A outer s H vs Q E hcd hcode hr h => ?_)
  refine ⟨_, (pss_one (ps_ret (pe_cF F_moved (hr.mono (by decide)) T.g_moved px (pa_cons (pv 0) (pa_cons (pe_fld (pv 0) rfl) (pa_cons pe_int pa_nil)))))), ?_⟩
  obtain ⟨p, g, rfl, hP, ok, kn, ks⟩ := h
  exact ⟨_, rfl, _, rfl, rd_row T hP ⟨p, g, _, _, g.row, 0, rfl, rfl, rfl, hP, fun q H' k' a' => ks q H' _ k' rfl a'⟩⟩
theorem sc_go_end : FnScope ["page"] ["page"] (defScope s_go_end) := ⟨rfl, rfl, rfl, by decide +kernel, rfl, by decide +kernel, by decide +kernel⟩
theorem ok_go_end (T : Tx w K mg) : Fk P w K mg base 4 (Ad K d_go_end.at_) ["page"] (spAct K Pg.end_) := by
  have F_line_at := ok_line_at (P := P) (base := base) T
  have F_moved := ok_moved (P := P) (base := base) T
  refine mkF T.f_go_end sc_go_end rfl (fun _ _ _ _ _ _ us hl => match us, hl with | [_], _ => rfl) (fun vs H Q E h => by obtain ⟨_, _, rfl, _⟩ := h; rfl) (fun cdv A outer s H vs Q E hcd hcode hr h => ?_)
  refine ⟨_, (pss_one (ps_ret (pe_cF F_moved (hr.mono (by decide)) T.g_moved px (pa_cons (pv 0) (pa_cons (pe_fld (pv 0) rfl) (pa_cons (pe_callB call_len_str (by rfl) T.n_len (by decide +kernel) (pa_cons (pe_cF F_line_at (hr.mono (by decide)) T.g_line_at px (pa_cons (pv 0) pa_nil)) pa_nil)) pa_nil)))))), ?_⟩
  obtain ⟨p, g, rfl, hP, ok, kn, ks⟩ := h
  have h60 := ok.line60
  exact ⟨_, rfl, _, rfl, rd_row T hP ⟨_, rfl, p, g, rfl, hP, ok.row, _, rfl, S16 (by omega), p, g, _, _, g.row, g.line.length, rfl, rfl, by rw [S_len], hP, fun q H' k' a' => ks q H' _ k' rfl a'⟩⟩
theorem sc_lay : FnScope ["page"] ["page"] (defScope s_lay) := ⟨rfl, rfl, rfl, by decide +kernel, rfl, by decide +kernel, by decide +kernel⟩
theorem ok_lay (T : Tx w K mg) : Fk P w K mg base 4 (Ad K d_lay.at_) ["page"] (spAct K Pg.lay) := by
  have F_write := ok_write (P := P) (base := base) T
  refine mkF T.f_lay sc_lay rfl (fun _ _ _ _ _ _ us hl => match us, hl with | [_], _ => rfl) (fun vs H Q E h => by obtain ⟨_, _, rfl, _⟩ := h; rfl) (fun cdv A outer s H vs Q E hcd hcode hr h => ?_)
  refine ⟨_, (pss_cons (ps_if (pt_cmpR op_eq (pe_fld (pv 0) rfl) pe_str (nomark _)) (pss_one (ps_ret pe_non)) pss_nil)
      (pss_one (ps_ret (pe_cF F_write (hr.mono (by decide)) T.g_write px (pa_cons (pv 0) (pa_cons (pe_fld (pv 0) rfl) pa_nil)))))), ?_⟩
  obtain ⟨p, g, rfl, hP, ok, kn, ks⟩ := h
  refine ⟨_, rfl, rd_clip T hP ⟨rfl, _, rfl, ?_⟩⟩
  refine iteD (fun h1 => ?_) (fun h1 => ?_)
  · have h1 : g.clip = [] := S_inj (V.str.inj h1)
    exact kn H Kq.refl (by unfold Pg.lay; rw [if_pos h1])
  have h1 : ¬ g.clip = [] := fun e => h1 (by rw [e]; rfl)
  have e : g.lay = g.write g.clip := by unfold Pg.lay; rw [if_neg h1]
  exact ⟨_, rfl, _, rfl, rd_clip T hP ⟨p, g, g.clip, rfl, hP, ok, ok.clip, fun H' k' z => kn H' k' (e.trans z), fun q H' g' k' z => ks q H' g' k' (e.trans z)⟩⟩
end
end KT
set_option Elab.async false
set_option linter.all false
set_option maxRecDepth 100000
set_option maxHeartbeats 4000000
namespace KT
open PySem PySem.Spec PyProof.Rows L2 GxR
variable [GT]
/-! ### the next place of a word -/
theorem stands_at (w l : Ln) (c : Nat) : StrLaws.At (S l) (S w) (S l).length c ↔ stands w l c = true := by
  unfold StrLaws.At stands
  rw [StrLaws.subAt_eq, S_len, S_len]
  have e1 : (S l).cps.toList = l := by simp
  have e2 : (S w).cps.toList = w := by simp
  rw [e1, e2]
  simp
theorem firstAt_none {w l : Ln} : ∀ {n c : Nat}, firstAt w l c n = none ↔ ∀ i, c ≤ i → i < c + n → stands w l i = false
  | 0, c => by simp [firstAt]; intro i h1 h2; omega
  | n + 1, c => by
    unfold firstAt
    by_cases h : stands w l c = true
    · rw [if_pos h]
      constructor
      · intro e; cases e
      · intro e; rw [e c (Nat.le_refl _) (by omega)] at h; cases h
    · rw [if_neg h, firstAt_none]
      constructor
      · intro e i h1 h2
        by_cases hi : i = c
        · subst hi; simpa using h
        · exact e i (by omega) (by omega)
      · intro e i h1 h2; exact e i (by omega) (by omega)
theorem firstAt_some {w l : Ln} {j : Nat} : ∀ {n c : Nat}, firstAt w l c n = some j ↔ c ≤ j ∧ j < c + n ∧ stands w l j = true ∧ ∀ i, c ≤ i → i < j → stands w l i = false
  | 0, c => by simp [firstAt]; intro h1 h2; omega
  | n + 1, c => by
    unfold firstAt
    by_cases h : stands w l c = true
    · rw [if_pos h]
      constructor
      · intro e; cases e; exact ⟨Nat.le_refl _, by omega, h, fun i h1 h2 => by omega⟩
      · rintro ⟨h1, h2, h3, h4⟩
        by_cases hj : c = j
        · rw [hj]
        · rw [h4 c (Nat.le_refl _) (by omega)] at h; cases h
    · rw [if_neg h, firstAt_some]
      constructor
      · rintro ⟨h1, h2, h3, h4⟩
        refine ⟨by omega, by omega, h3, fun i h5 h6 => ?_⟩
        by_cases hi : i = c
        · subst hi; simpa using h
        · exact h4 i (by omega) h6
      · rintro ⟨h1, h2, h3, h4⟩
        have : c ≠ j := fun e => by subst e; exact h h3
        exact ⟨by omega, by omega, h3, fun i h5 h6 => h4 i (by omega) h6⟩
theorem seek_cons (w l : Ln) (r : List Ln) (k c : Nat) : seek w (l :: r) k c = match findL w l c with | some j => some (k, j) | none => seek w r (k + 1) 0 := rfl
theorem find3_eq (l w : Ln) (c : Nat) : Txt.find3 (S l) (S w) (c : Int) = match findL w l c with | some j => (j : Int) | none => -1 := by
  unfold Txt.find3
  have ec : fromIndex (S l).length (c : Int) = c := by
    unfold fromIndex
    rw [if_neg (by omega)]
    omega
  rw [ec, StrLaws.occ_eq]
  rcases StrLaws.occ_first (S l) (S w) (S l).length 1 (Nat.le_refl _) (List.range' c ((S l).length + 1 - c)) c (fun i hi => by rw [List.mem_range'] at hi; obtain ⟨k, _, rfl⟩ := hi; omega) with ⟨h0, hn⟩ | ⟨pre, a, post, e, h0, ha, hn⟩
  · rw [h0]
    have : findL w l c = none := by
      unfold findL
      rw [firstAt_none]
      intro i h1 h2
      have := hn i (by rw [List.mem_range']; exact ⟨i - c, by rw [S_len]; omega, by omega⟩)
      rw [stands_at] at this
      simpa using this
    rw [this]
  · have hp : ∀ i, c ≤ i → i < a → i ∈ pre := by
      have hL : ((S l).length + 1 - c) = pre.length + (post.length + 1) := by
        have := congrArg List.length e
        simpa using this
      have hlen : c + pre.length = a := by
        have h1 : (List.range' c ((S l).length + 1 - c))[pre.length]? = some a := by rw [e]; simp
        rw [List.getElem?_range' (by omega)] at h1
        simpa using h1
      intro i h1 h2
      have h3 : (List.range' c ((S l).length + 1 - c))[i - c]? = pre[i - c]? := by rw [e, List.getElem?_append_left (by omega)]
      rw [List.getElem?_range' (by omega)] at h3
      have : pre[i - c]? = some i := by rw [← h3]; congr 1; omega
      exact List.mem_of_getElem? this
    have hmem : a ∈ List.range' c ((S l).length + 1 - c) := by rw [e]; simp
    rw [List.mem_range'] at hmem
    obtain ⟨k, hk, ea⟩ := hmem
    have : findL w l c = some a := by
      unfold findL
      rw [firstAt_some]
      refine ⟨by omega, by rw [S_len] at hk; omega, (stands_at w l a).mp ha, fun i h1 h2 => ?_⟩
      have := hn i (hp i h1 h2)
      rw [stands_at] at this
      simpa using this
    rw [this]
    generalize (forIn (List.range' c ((S l).length + 1 - c)) ((#[] : Array Nat), c) (StrLaws.occBody (S l) (S w) (S l).length 1)).run.fst = arr at h0
    have h1 : arr.toList[0]? = some a := by simpa using h0
    cases hL : arr.toList with
    | nil => rw [hL] at h1; cases h1
    | cons b r => rw [hL] at h1; cases h1; rfl
theorem one_lt (a b : Nat) : ([a] < [b]) ↔ a < b := by
  constructor
  · intro h
    cases h with
    | rel h => exact h
    | cons h => cases h
  · intro h
    exact List.Lex.rel h
theorem sign_lo (c : Nat) : ((⟨#[c]⟩ : Str).cps.toList < (Str.ofString "a").cps.toList) ↔ c < 97 := by
  rw [show (Str.ofString "a").cps.toList = [97] by decide +kernel]
  exact one_lt c 97
theorem sign_hi (c : Nat) : ((Str.ofString "z").cps.toList < (⟨#[c]⟩ : Str).cps.toList) ↔ 122 < c := by
  rw [show (Str.ofString "z").cps.toList = [122] by decide +kernel]
  exact one_lt 122 c
theorem takeWhile_len {α : Type} (q : α → Bool) (d : α) : ∀ (l : List α) (n : Nat), n ≤ l.length → (∀ i, i < n → q (l.getD i d) = true) → (n = l.length ∨ q (l.getD n d) = false) → (l.takeWhile q).length = n
  | [], n, h, _, _ => by simp at h; subst h; rfl
  | a :: r, 0, _, _, h2 => by
    rcases h2 with h2 | h2
    · simp at h2
    · have : q a = false := by simpa using h2
      rw [List.takeWhile_cons, this]; rfl
  | a :: r, n + 1, h, h1, h2 => by
    have ha : q a = true := by simpa using h1 0 (by omega)
    rw [List.takeWhile_cons, ha]
    show (r.takeWhile q).length + 1 = n + 1
    rw [takeWhile_len q d r n (by simpa using h) (fun i hi => by simpa using h1 (i + 1) (by omega)) (by simpa using h2)]
theorem lets_eq {l : Ln} {c e : Nat} (h : ∀ i, c ≤ i → i < e → isLet (l.getD i 0) = true) (h1 : c ≤ e) (h2 : e ≤ l.length) (h3 : e = l.length ∨ isLet (l.getD e 0) = false) : lets (l.drop c) = e - c := by
  unfold lets
  have g : ∀ i, (l.drop c).getD i 0 = l.getD (c + i) 0 := fun i => by rw [List.getD_eq_getElem?_getD, List.getElem?_drop, List.getD_eq_getElem?_getD]
  refine takeWhile_len isLet 0 (l.drop c) (e - c) (by rw [List.length_drop]; omega) (fun i hi => ?_) ?_
  · rw [g]; exact h _ (by omega) (by omega)
  · rw [g, List.length_drop, show c + (e - c) = e by omega]
    rcases h3 with h3 | h3
    · left; omega
    · right; exact h3
section
variable {P : Program} {w : World} {K : PySem.W.Frag} {mg : Str → Option Value} {base : Heap}
theorem sc_find_word : FnScope ["page", "word", "start", "row", "column"] ["page", "word"] (defScope s_find_word) := ⟨rfl, rfl, rfl, by decide +kernel, rfl, by decide +kernel, by decide +kernel⟩
theorem ok_find_word (T : Tx w K mg) : Fk P w K mg base 4 (Ad K d_find_word.at_) ["page", "word"] (spActS K Pg.find) := by
  have F_moved := ok_moved (P := P) (base := base) T
  refine mkF T.f_find_word sc_find_word rfl (fun _ _ _ _ _ _ us hl => match us, hl with | [_, _], _ => rfl) (fun vs H Q E h => by obtain ⟨_, _, _, rfl, _⟩ := h; rfl) (fun cdv A outer s H vs Q E hcd hcode hr h => ?_)
  have po : PassesOwn (model P w) (CxD P w K mg base ["page", "word", "start", "row", "column"] d_find_word cdv A outer s H E).A (CxD P w K mg base ["page", "word", "start", "row", "column"] d_find_word cdv A outer s H E).env (CxD P w K mg base ["page", "word", "start", "row", "column"] d_find_word cdv A outer s H E).xe := passes_of rfl
  refine ⟨_, (pss_cons (ps_asg (pe_op op_add (pe_fld (pv 0) rfl) pe_int) (pg_name (i := 2) sc_find_word.nd rfl (.inl rfl)))
      (pss_cons (ps_for po rfl (pi_range2 (by rfl) T.n_range (pa_cons (pe_fld (pv 0) rfl) (pa_cons (pe_callB call_len_seq (by rfl) T.n_len (by decide +kernel) (pa_cons (pe_fld (pv 0) rfl) pa_nil)) pa_nil))) (pg_name (i := 3) sc_find_word.nd rfl (.inl rfl)) (pss_cons (ps_asg (pe_bm PySem.F.plainAttrs_str PySem.F.slot_str_find PySem.F.type_str_find mt_find3 (pe_ix ix_tup (pe_fld (pv 0) rfl) (pv 3) (fun _ _ => rfl)) (pa_cons (pv 1) (pa_cons (pv 2) pa_nil))) (pg_name (i := 4) sc_find_word.nd rfl (.inl rfl)))
      (pss_cons (ps_if (pt_cmpR op_ge (pv 4) pe_int (nomark _)) (pss_one (ps_ret (pe_cF F_moved (hr.mono (by decide)) T.g_moved px (pa_cons (pv 0) (pa_cons (pv 3) (pa_cons (pv 4) pa_nil)))))) pss_nil)
      (pss_one (ps_asg pe_int (pg_name (i := 2) sc_find_word.nd rfl (.inl rfl)))))))
      (pss_one (ps_ret pe_non)))), ?_⟩
  obtain ⟨p, g, ws, rfl, hP, ok, hs, kn, ks⟩ := h
  have hrow := ok.row
  have hm := ok.many
  refine ⟨_, rfl, rd_col T hP ⟨_, _, rfl, rfl, ?_⟩⟩
  refine ⟨_, rfl, rd_row T hP ⟨_, rfl, rd_rows T hP fun t ht => ⟨t, _, rfl, .inr ht, (g.row : Int), _, rfl, ⟨by omega, by omega, by omega, by rw [rowsV_len]; omega⟩, ?_⟩⟩⟩
  rw [rowsV_len]
  refine for_range (lo := (g.row : Int)) (n := ((g.rows.length : Int) - (g.row : Int)).toNat) (fun i σ H' => H' = H ∧ ∃ (st : Nat) (v3 v4 : Option V), σ = [some (.ref p), some (.str (S ws)), some (.int (st : Int)), v3, v4] ∧
    seek ws (g.rows.drop g.row) g.row (g.col + 1) = seek ws (g.rows.drop (g.row + i)) (g.row + i) st) ⟨rfl, g.col + 1, none, none, rfl, rfl⟩ ?_ ?_
  · rintro i σ H' hi ⟨rfl, st, v3, v4, rfl, hs4⟩
    have hi2 : g.row + i < g.rows.length := by omega
    refine ⟨_, rfl, rd_rows T hP fun t ht => ⟨_, rfl, t, _, _, _, rfl, rfl, ht, rows_at (n := g.row + i) (by omega) hi2, rfl, _, rfl, _, rfl, _, _, _, rfl, rfl, ?_⟩⟩
    rw [find3_eq]
    rw [List.drop_eq_getElem_cons hi2] at hs4
    have el : g.rows[g.row + i] = g.rows.getD (g.row + i) [] := by rw [List.getD_eq_getElem?_getD, List.getElem?_eq_getElem hi2]; rfl
    rw [el] at hs4
    rw [seek_cons] at hs4
    cases hf : findL ws (g.rows.getD (g.row + i) []) st with
    | some j =>
      rw [hf] at hs4
      refine ⟨_, rfl, _, _, rfl, rfl, _, rfl, ?_⟩
      refine iteD (fun h1 => ?_) (fun h1 => absurd (by show (0 : Int) ≤ (j : Int); omega) h1)
      refine ⟨_, rfl, _, rfl, _, rfl, p, g, _, _, g.row + i, j, rfl, by omega, rfl, hP, fun q H2 k2 a2 => ?_⟩
      exact ks q H2 _ k2 (by unfold Pg.find; rw [hs4]; rfl) a2
    | none =>
      rw [hf] at hs4
      refine ⟨_, rfl, _, _, rfl, rfl, _, rfl, ?_⟩
      refine iteD (fun h1 => absurd (show (0 : Int) ≤ -1 from h1) (by decide)) (fun h1 => ?_)
      exact ⟨rfl, 0, _, _, rfl, hs4⟩
  · rintro σ H' ⟨rfl, st, v3, v4, rfl, hs4⟩
    refine kn H' Kq.refl ?_
    unfold Pg.find
    rw [hs4, List.drop_eq_nil_of_le (by omega)]
    rfl
theorem sc_take : FnScope ["page", "line", "end", "rows"] ["page"] (defScope s_take) := ⟨rfl, rfl, rfl, by decide +kernel, rfl, by decide +kernel, by decide +kernel⟩
theorem ok_take (T : Tx w K mg) : Fk P w K mg base 3 (Ad K d_take.at_) ["page"] (spAct K Pg.take) := by
  have F_Page___init__ := ok_Page___init__ (P := P) (base := base) T
  have F_line_at := ok_line_at (P := P) (base := base) T
  have F_with_lines := ok_with_lines (P := P) (base := base) T
  refine mkF T.f_take sc_take rfl (fun _ _ _ _ _ _ us hl => match us, hl with | [_], _ => rfl) (fun vs H Q E h => by obtain ⟨_, _, rfl, _⟩ := h; rfl) (fun cdv A outer s H vs Q E hcd hcode hr h => ?_)
  have po : PassesOwn (model P w) (CxD P w K mg base ["page", "line", "end", "rows"] d_take cdv A outer s H E).A (CxD P w K mg base ["page", "line", "end", "rows"] d_take cdv A outer s H E).env (CxD P w K mg base ["page", "line", "end", "rows"] d_take cdv A outer s H E).xe := passes_of rfl
  refine ⟨_, (pss_cons (ps_asg (pe_cF F_line_at (hr.mono (by decide)) T.g_line_at px (pa_cons (pv 0) pa_nil)) (pg_name (i := 1) sc_take.nd rfl (.inl rfl)))
      (pss_cons (ps_asg (pe_fld (pv 0) rfl) (pg_name (i := 2) sc_take.nd rfl (.inl rfl)))
      (pss_cons (ps_while po ((pw_and (pt_cmpR op_lt (pv 2) (pe_callB call_len_str (by rfl) T.n_len (by decide +kernel) (pa_cons (pv 1) pa_nil)) (nomark _)) (pw_and1 (pt_chain op_le_str op_le_str pe_str (pe_ix ix_str (pv 1) (pv 2) (fun _ _ => rfl)) pe_str)))).pt (pss_one (ps_aug (i := 2) sc_take.nd rfl (.inl rfl) pe_int ip_add)))
      (pss_cons (ps_if (pt_cmpR op_eq (pv 2) (pe_fld (pv 0) rfl) (nomark _)) (pss_one (ps_ret pe_non)) pss_nil)
      (pss_cons (ps_asg (pe_cF F_with_lines (hr.mono (by decide)) T.g_with_lines px (pa_cons (pv 0) (pa_cons (pe_fld (pv 0) rfl) (pa_cons pe_int (pa_cons (pe_tup (pa_cons (pe_op op_add_str (pe_slice sl_str (pv 1) po_none (po_some (pe_fld (pv 0) rfl))) (pe_slice sl_str (pv 1) (po_some (pv 2)) po_none)) pa_nil)) pa_nil))))) (pg_name (i := 3) sc_take.nd rfl (.inl rfl)))
      (pss_one (ps_ret (pe_kF (spN := sp_Page K) T.k_Page F_Page___init__ (hr.mono (by decide)) T.g_Page px new_Page (pa_cons (pv 3) (pa_cons (pe_fld (pv 0) rfl) (pa_cons (pe_fld (pv 0) rfl) (pa_cons (pe_slice sl_str (pv 1) (po_some (pe_fld (pv 0) rfl)) (po_some (pv 2))) pa_nil)))))))))))), ?_⟩
  obtain ⟨p, g, rfl, hP, ok, kn, ks⟩ := h
  have h60 := ok.line60
  have hcol := ok.col
  refine ⟨_, rfl, p, g, rfl, hP, ok.row, ?_⟩
  refine ⟨_, rfl, rd_col T hP ?_⟩
  refine ⟨fun m σ H' => H' = H ∧ ∃ e : Nat, σ = [some (.ref p), some (.str (S g.line)), some (.int (e : Int)), none] ∧ g.col ≤ e ∧ e ≤ g.line.length ∧ (∀ i, g.col ≤ i → i < e → isLet (g.line.getD i 0) = true) ∧ m = g.line.length - e,
    ⟨_, rfl, g.col, rfl, Nat.le_refl _, hcol, fun i h1 h2 => by omega, rfl⟩, ?_⟩
  rintro m σ H' ⟨rfl, e, rfl, he1, he2, hlet, rfl⟩
  refine ⟨_, rfl, _, rfl, _, rfl, S16 (by omega), _, _, rfl, rfl, _, rfl, ?_⟩
  rw [S_len]
  -- what follows the loop
  have fin : e = g.line.length ∨ isLet (g.line.getD e 0) = false → lets (g.line.drop g.col) = e - g.col := fun hend => lets_eq hlet he1 he2 hend
  have after : lets (g.line.drop g.col) = e - g.col → tSeq (tIfS (tTest (tOp rEq (tVar 2) (tFld K (tVar 0) "column"))) (tRet (tC .non)) tNext)
      (tSeq (tAsg (tCF (sp_with_lines K) E (tCons (tVar 0) (tCons (tFld K (tVar 0) "row") (tCons (tC (.int 1)) (tCons (tTup (tCons (tOp (fun x y H Q => ∃ i j, x = .str i ∧ y = .str j ∧ i.length + j.length ≤ sizeLine ∧ Q (.str (i ++ j)) H)
        (tSl rSlS (tVar 1) tNoPart (tPart (tFld K (tVar 0) "column"))) (tSl rSlS (tVar 1) (tPart (tVar 2)) tNoPart)) tNil)) tNil))))) (gName 3))
      (tRet (tCF (sp_Page K) E (tCons (tVar 3) (tCons (tFld K (tVar 0) "row") (tCons (tFld K (tVar 0) "column") (tCons (tSl rSlS (tVar 1) (tPart (tFld K (tVar 0) "column")) (tPart (tVar 2))) tNil)))))))
      { nx := fun _ H' => Q .non H', rt := Q } [some (.ref p), some (.str (S g.line)), some (.int (e : Int)), none] H' := by
    intro hl
    refine ⟨_, rfl, _, rfl, rd_col T hP ⟨rfl, _, rfl, ?_⟩⟩
    refine iteD (fun h1 => ?_) (fun h1 => ?_)
    · have h1 : (e : Int) = (g.col : Int) := V.int.inj h1
      exact kn H' Kq.refl (by unfold Pg.take; simp only [hl]; rw [if_pos (by omega)])
    have h1 : ¬ (e : Int) = (g.col : Int) := fun z => h1 (by rw [z])
    refine ⟨_, rfl, _, rfl, rd_row T hP ⟨_, rfl, _, rfl, rd_col T hP ⟨_, rfl, _, rfl, S16 (by omega), _, rfl, _, rfl, _, rfl, _, rfl, S16 (by omega), ?_⟩⟩⟩
    rw [cut_to g.line (n := g.col) rfl, cut_from g.line (n := e) rfl]
    refine ⟨_, _, rfl, rfl, line16 (by rw [S_len, S_len, List.length_take, List.length_drop]; omega), ?_⟩
    rw [S_app]
    refine ⟨line16 (by show 1 ≤ 1000000; decide), fun tp ntp => ?_⟩
    refine ⟨p, g, _, _, tp, [_], g.row, 1, rfl, rfl, rfl, (Kq.alloc ntp).page hP, SqT.of upd_same, ok.row, by decide, ok.many, (by show 1 ≤ 2; decide), by simp, fun q H2 k2 a2 => ?_⟩
    have k12 := (Kq.alloc (S := []) (o := .tup [V.str (S (g.line.take g.col ++ g.line.drop e))]) ntp).trans k2
    have hP2 := k12.page hP
    refine ⟨_, rfl, _, rfl, rd_row T hP2 ⟨_, rfl, rd_col T hP2 ⟨_, rfl, _, rfl, rd_col T hP2 ⟨_, rfl, _, rfl, _, rfl, _, rfl, S16 (by omega), ?_⟩⟩⟩⟩
    rw [cut_mid g.line (a := g.col) (b := e) rfl rfl]
    refine ⟨q, _, _, _, { rows := g.others g.row 1 [g.line.take g.col ++ g.line.drop e], row := g.row, col := g.col, clip := (g.line.drop g.col).take (e - g.col) }, rfl, rfl, rfl, rfl, a2, fun q3 H3 k3 a3 => ?_⟩
    refine ks q3 H3 _ (k12.trans k3) ?_ a3
    unfold Pg.take
    simp only [hl]
    rw [if_neg (by omega), show g.col + (e - g.col) = e by omega]
  refine iteD (fun h1 => ?_) (fun h1 => ?_)
  · have h1 : e < g.line.length := by omega
    have eg : g.line[e]? = some (g.line.getD e 0) := by rw [List.getElem?_eq_getElem h1, List.getD_eq_getElem?_getD, List.getElem?_eq_getElem h1]; rfl
    refine ⟨_, rfl, _, rfl, _, _, g.line.getD e 0, rfl, rfl, S16 (by omega), (by rw [show (S g.line).cps.toList = g.line by simp]; exact atI_nat eg), _, _, rfl, rfl, _, rfl, ?_⟩
    refine iteN (fun h2 => ?_) (fun h2 => ?_)
    · rw [sign_lo] at h2
      refine ⟨_, _, rfl, rfl, _, rfl, ?_⟩
      refine iteN (fun h3 => ?_) (fun h3 => ?_)
      · rw [sign_hi] at h3
        refine ⟨fun σ' H2 => H2 = H' ∧ σ' = [some (.ref p), some (.str (S g.line)), some (.int ((e + 1 : Nat) : Int)), none], fun σ' H2 ⟨e1, e2⟩ => ⟨g.line.length - (e + 1), by omega, e1, e + 1, e2, by omega, h1, fun i hi1 hi2 => ?_, rfl⟩, ?_⟩
        · by_cases hi : i = e
          · subst hi
            show (decide (97 ≤ g.line.getD i 0) && decide (g.line.getD i 0 ≤ 122)) = true
            simp only [Bool.and_eq_true, decide_eq_true_eq]
            omega
          · exact hlet i hi1 (by omega)
        · exact ⟨_, rfl, _, _, rfl, rfl, rfl, rfl⟩
      · rw [sign_hi] at h3
        exact after (fin (Or.inr (by show (decide (97 ≤ g.line.getD e 0) && decide (g.line.getD e 0 ≤ 122)) = false; simp only [Bool.and_eq_false_iff, decide_eq_false_iff_not]; omega)))
    · rw [sign_lo] at h2
      refine ⟨_, rfl, ?_⟩
      exact after (fin (Or.inr (by show (decide (97 ≤ g.line.getD e 0) && decide (g.line.getD e 0 ≤ 122)) = false; simp only [Bool.and_eq_false_iff, decide_eq_false_iff_not]; omega)))
  · exact after (fin (Or.inl (by omega)))
end
end KT
set_option Elab.async false
set_option linter.all false
set_option maxRecDepth 100000
set_option maxHeartbeats 4000000
namespace KT
open PySem PySem.Spec PyProof.Rows L2 GxR
variable [GT]
/-! ### keys in the heap -/
def nameS (n : Nat) : Str := S [97 + n]
def keyV : Ky → List V
  | .put s => [.str "put", .str (S s)]
  | .find s => [.str "find", .str (S s)]
  | .brk => [.str "break"]
  | .rub => [.str "rub"]
  | .left => [.str "left"]
  | .right => [.str "right"]
  | .up => [.str "up"]
  | .down => [.str "down"]
  | .home => [.str "home"]
  | .end_ => [.str "end"]
  | .take => [.str "take"]
  | .lay => [.str "lay"]
  | .play n m => [.str "play", .str (nameS n), .int m]
  | .till n => [.str "till", .str (nameS n)]
def KeyAt (K : PySem.W.Frag) (H : Hp) (a : Addr) (k : Ky) : Prop := SqT K H a (keyV k)
theorem Kq.key {K : PySem.W.Frag} {H H1 : Hp} (a : Kq [] H H1) {p : Addr} {k : Ky} (h : KeyAt K H p k) : KeyAt K H1 p k := a.tup h
section
variable {X : Cx} {k i : Nat} {f : Addr} {ps : List Str} {sp : Sp} {E : XK} {x : Str} {p pos : Pos} {e : Expr} {es : List Expr} {t : TA}
/-- f(e, ..), f a name of the def that holds one of several defs -/
def tCallV (P : Program) (w : World) (K : PySem.W.Frag) (mg : Str → Option Value) (base : Heap) (k i : Nat) (E : XK) (t : TA) : TE := fun σ H Q => ∃ f ps sp, σ[i]? = some (some (.ref f)) ∧ Fk P w K mg base k f ps sp ∧ t σ H fun vs H1 => sp vs H1 Q E
theorem pe_callV (hr : Room k X.A) (hx : Passes (L2.CX X.prog X.w) X E) (ha : PA X (e :: es) t) (hN : X.N[i]? = some x := by rfl) (hv : Vis X.env.scope x := by exact Or.inl rfl)
    (hdb : (x == ("__debug__" : Str)) = false := by decide) (hcd : (x == ("__classdict__" : Str)) = false := by decide)
    (he : starEach (e :: es) X.env = (false, eval e X.env) :: starEach es X.env := by rfl) (hpl : (backTo pos (starEach es X.env)).any (·.1) = false := by rfl) : PE X (.Call (.Name x p) (e :: es) [] pos) (tCallV X.prog X.w X.K X.mg X.base k i E t) := by
  refine ⟨fun pins s σ H Q I h => ?_⟩
  obtain ⟨f, ps, sp, hs, F, ht⟩ := h
  refine wpAny_Call_Name_kw (thn ((pe_var (pos := p) hN hv hdb hcd).run pins s σ H (fun v H1 => v = .ref f ∧ H1 = H) I ⟨.ref f, hs, rfl, rfl⟩) fun u s1 ⟨v, H1, I1, r1, q1⟩ => ?_)
  obtain ⟨rfl, rfl⟩ := q1
  cases r1
  refine PySem.W.callWith_K (h₀ := X.base) I.ok.mod.kin F.kp (thn (ha.run pos pins s1 σ _ _ I1 ht) fun us s2 ⟨vs, H2, I2, r, q⟩ => ⟨I2.kIn, ?_⟩) he hpl
  have q' : sp (vs ++ []) H2 Q E := by rw [List.append_nil]; exact q
  exact run_fn F.ok hr F.b .nil hx I2 r q'
end
section
variable {P : Program} {w : World} {K : PySem.W.Frag} {mg : Str → Option Value} {base : Heap}
theorem Tx.tab (T : Tx w K mg) : ∃ es n, KDict K w (He.ga K "ACTIONS") es n := by
  obtain ⟨_, _, _, c⟩ := T.ex
  exact c.t.tab 0
theorem Tx.vals (T : Tx w K mg) {q : Str × He.Dv} (h : q ∈ acts) : ∃ u, PySem.W.nsIn K (He.ga K "ACTIONS") q.1 = some (some u) ∧ RelV (q.2.v K) u := by
  obtain ⟨_, _, _, c⟩ := T.ex
  have := T.more0
  unfold ex0 at this
  exact He.valsB_ok (He.ba this).2 h
theorem Tx.act (T : Tx w K mg) {x f : Str} (h : (x, He.Dv.glo f) ∈ acts) : KDct K w (He.ga K "ACTIONS") x (.ref (He.ga K f)) := by
  obtain ⟨es, n, D⟩ := T.tab
  obtain ⟨u, h1, h2⟩ := T.vals h
  exact ⟨es, n, u, D.at_, D.lit, h1, h2⟩
def sp_page_behind (K : PySem.W.Frag) : Sp := fun vs H Q _ => ∃ p a g ky, vs = [.ref p, .ref a] ∧ PageAt K H p g ∧ g.Ok ∧ KeyAt K H a ky ∧ ky.Ok ∧ ky.single = true ∧ (∀ H', Kq [] H H' → g.does ky = none → Q .non H') ∧ ∀ q H' g', Kq [] H H' → g.does ky = some g' → PageAt K H' q g' → Q (.ref q) H'
theorem sc_page_behind : FnScope ["page", "key", "action"] ["page", "key"] (defScope s_page_behind) := ⟨rfl, rfl, rfl, by decide +kernel, rfl, by decide +kernel, by decide +kernel⟩
theorem ok_page_behind (T : Tx w K mg) : Fk P w K mg base 6 (Ad K d_page_behind.at_) ["page", "key"] (sp_page_behind K) := by
  have F_break_row := ok_break_row (P := P) (base := base) T
  have F_find_word := ok_find_word (P := P) (base := base) T
  have F_go_down := ok_go_down (P := P) (base := base) T
  have F_go_end := ok_go_end (P := P) (base := base) T
  have F_go_home := ok_go_home (P := P) (base := base) T
  have F_go_left := ok_go_left (P := P) (base := base) T
  have F_go_right := ok_go_right (P := P) (base := base) T
  have F_go_up := ok_go_up (P := P) (base := base) T
  have F_lay := ok_lay (P := P) (base := base) T
  have F_rub := ok_rub (P := P) (base := base) T
  have F_take := ok_take (P := P) (base := base) T
  have F_write := ok_write (P := P) (base := base) T
  refine mkF T.f_page_behind sc_page_behind rfl (fun _ _ _ _ _ _ us hl => match us, hl with | [_, _], _ => rfl) (fun vs H Q E h => by obtain ⟨_, _, _, _, rfl, _⟩ := h; rfl) (fun cdv A outer s H vs Q E hcd hcode hr h => ?_)
  refine ⟨_, (pss_cons (ps_if (pt_cmpR op_eq (pe_ix ix_tup (pv 1) pe_int (fun _ _ => rfl)) pe_str (nomark _)) (pss_one (ps_ret (pe_cF F_write (hr.mono (by decide)) T.g_write px (pa_cons (pv 0) (pa_cons (pe_ix ix_tup (pv 1) pe_int (fun _ _ => rfl)) pa_nil))))) pss_nil)
      (pss_cons (ps_if (pt_cmpR op_eq (pe_ix ix_tup (pv 1) pe_int (fun _ _ => rfl)) pe_str (nomark _)) (pss_one (ps_ret (pe_cF F_find_word (hr.mono (by decide)) T.g_find_word px (pa_cons (pv 0) (pa_cons (pe_ix ix_tup (pv 1) pe_int (fun _ _ => rfl)) pa_nil))))) pss_nil)
      (pss_cons (ps_asg (pe_ix ix_kdict (pe_glob (v := .ref (He.ga K "ACTIONS")) rfl T.g_ACTIONS rfl) (pe_ix ix_tup (pv 1) pe_int (fun _ _ => rfl)) (fun _ _ => rfl)) (pg_name (i := 2) sc_page_behind.nd rfl (.inl rfl)))
      (pss_one (ps_ret (pe_callV (i := 2) hr px (pa_cons (pv 0) pa_nil))))))), ?_⟩
  obtain ⟨p, a, g, ky, rfl, hP, ok, hk, kok, hsg, kn, ks⟩ := h
  cases ky with
  | put s =>
    refine ⟨_, rfl, a, _, _, _, rfl, rfl, hk, rfl, rfl, _, rfl, iteD (fun _ => ?_) (fun h => absurd rfl h)⟩
    have h1 : s.length = 1 := kok.1
    exact ⟨_, rfl, _, rfl, a, _, _, _, rfl, rfl, hk, rfl, p, g, s, rfl, hP, ok, by omega, kn, ks⟩
  | find s =>
    refine ⟨_, rfl, a, _, _, _, rfl, rfl, hk, rfl, rfl, _, rfl, iteD (fun h => absurd h (by decide +kernel)) (fun _ => ?_)⟩
    refine ⟨_, rfl, a, _, _, _, rfl, rfl, hk, rfl, rfl, _, rfl, iteD (fun _ => ?_) (fun h => absurd rfl h)⟩
    have h1 : s.length ≤ 4 := kok.2.1
    exact ⟨_, rfl, _, rfl, a, _, _, _, rfl, rfl, hk, rfl, p, g, s, rfl, hP, ok, by omega, kn, ks⟩
  | play n m => exact absurd hsg (by simp [Ky.single])
  | till n => exact absurd hsg (by simp [Ky.single])
  | brk =>
    refine ⟨_, rfl, a, _, _, _, rfl, rfl, hk, rfl, rfl, _, rfl, iteD (fun h => absurd h (by decide +kernel)) (fun _ => ?_)⟩
    refine ⟨_, rfl, a, _, _, _, rfl, rfl, hk, rfl, rfl, _, rfl, iteD (fun h => absurd h (by decide +kernel)) (fun _ => ?_)⟩
    refine ⟨_, rfl, a, _, _, _, rfl, rfl, hk, rfl, _, _, _, rfl, rfl, T.act (f := "break_row") (List.mem_of_getElem? (i := 0) rfl), ?_⟩
    exact ⟨_, _, _, rfl, F_break_row.mono (by decide), _, rfl, p, g, rfl, hP, ok, kn, ks⟩
  | rub =>
    refine ⟨_, rfl, a, _, _, _, rfl, rfl, hk, rfl, rfl, _, rfl, iteD (fun h => absurd h (by decide +kernel)) (fun _ => ?_)⟩
    refine ⟨_, rfl, a, _, _, _, rfl, rfl, hk, rfl, rfl, _, rfl, iteD (fun h => absurd h (by decide +kernel)) (fun _ => ?_)⟩
    refine ⟨_, rfl, a, _, _, _, rfl, rfl, hk, rfl, _, _, _, rfl, rfl, T.act (f := "rub") (List.mem_of_getElem? (i := 1) rfl), ?_⟩
    exact ⟨_, _, _, rfl, F_rub.mono (by decide), _, rfl, p, g, rfl, hP, ok, kn, ks⟩
  | left =>
    refine ⟨_, rfl, a, _, _, _, rfl, rfl, hk, rfl, rfl, _, rfl, iteD (fun h => absurd h (by decide +kernel)) (fun _ => ?_)⟩
    refine ⟨_, rfl, a, _, _, _, rfl, rfl, hk, rfl, rfl, _, rfl, iteD (fun h => absurd h (by decide +kernel)) (fun _ => ?_)⟩
    refine ⟨_, rfl, a, _, _, _, rfl, rfl, hk, rfl, _, _, _, rfl, rfl, T.act (f := "go_left") (List.mem_of_getElem? (i := 2) rfl), ?_⟩
    exact ⟨_, _, _, rfl, F_go_left.mono (by decide), _, rfl, p, g, rfl, hP, ok, kn, ks⟩
  | right =>
    refine ⟨_, rfl, a, _, _, _, rfl, rfl, hk, rfl, rfl, _, rfl, iteD (fun h => absurd h (by decide +kernel)) (fun _ => ?_)⟩
    refine ⟨_, rfl, a, _, _, _, rfl, rfl, hk, rfl, rfl, _, rfl, iteD (fun h => absurd h (by decide +kernel)) (fun _ => ?_)⟩
    refine ⟨_, rfl, a, _, _, _, rfl, rfl, hk, rfl, _, _, _, rfl, rfl, T.act (f := "go_right") (List.mem_of_getElem? (i := 3) rfl), ?_⟩
    exact ⟨_, _, _, rfl, F_go_right.mono (by decide), _, rfl, p, g, rfl, hP, ok, kn, ks⟩
  | up =>
    refine ⟨_, rfl, a, _, _, _, rfl, rfl, hk, rfl, rfl, _, rfl, iteD (fun h => absurd h (by decide +kernel)) (fun _ => ?_)⟩
    refine ⟨_, rfl, a, _, _, _, rfl, rfl, hk, rfl, rfl, _, rfl, iteD (fun h => absurd h (by decide +kernel)) (fun _ => ?_)⟩
    refine ⟨_, rfl, a, _, _, _, rfl, rfl, hk, rfl, _, _, _, rfl, rfl, T.act (f := "go_up") (List.mem_of_getElem? (i := 4) rfl), ?_⟩
    exact ⟨_, _, _, rfl, F_go_up.mono (by decide), _, rfl, p, g, rfl, hP, ok, kn, ks⟩
  | down =>
    refine ⟨_, rfl, a, _, _, _, rfl, rfl, hk, rfl, rfl, _, rfl, iteD (fun h => absurd h (by decide +kernel)) (fun _ => ?_)⟩
    refine ⟨_, rfl, a, _, _, _, rfl, rfl, hk, rfl, rfl, _, rfl, iteD (fun h => absurd h (by decide +kernel)) (fun _ => ?_)⟩
    refine ⟨_, rfl, a, _, _, _, rfl, rfl, hk, rfl, _, _, _, rfl, rfl, T.act (f := "go_down") (List.mem_of_getElem? (i := 5) rfl), ?_⟩
    exact ⟨_, _, _, rfl, F_go_down.mono (by decide), _, rfl, p, g, rfl, hP, ok, kn, ks⟩
  | home =>
    refine ⟨_, rfl, a, _, _, _, rfl, rfl, hk, rfl, rfl, _, rfl, iteD (fun h => absurd h (by decide +kernel)) (fun _ => ?_)⟩
    refine ⟨_, rfl, a, _, _, _, rfl, rfl, hk, rfl, rfl, _, rfl, iteD (fun h => absurd h (by decide +kernel)) (fun _ => ?_)⟩
    refine ⟨_, rfl, a, _, _, _, rfl, rfl, hk, rfl, _, _, _, rfl, rfl, T.act (f := "go_home") (List.mem_of_getElem? (i := 6) rfl), ?_⟩
    exact ⟨_, _, _, rfl, F_go_home.mono (by decide), _, rfl, p, g, rfl, hP, ok, kn, ks⟩
  | end_ =>
    refine ⟨_, rfl, a, _, _, _, rfl, rfl, hk, rfl, rfl, _, rfl, iteD (fun h => absurd h (by decide +kernel)) (fun _ => ?_)⟩
    refine ⟨_, rfl, a, _, _, _, rfl, rfl, hk, rfl, rfl, _, rfl, iteD (fun h => absurd h (by decide +kernel)) (fun _ => ?_)⟩
    refine ⟨_, rfl, a, _, _, _, rfl, rfl, hk, rfl, _, _, _, rfl, rfl, T.act (f := "go_end") (List.mem_of_getElem? (i := 7) rfl), ?_⟩
    exact ⟨_, _, _, rfl, F_go_end.mono (by decide), _, rfl, p, g, rfl, hP, ok, kn, ks⟩
  | take =>
    refine ⟨_, rfl, a, _, _, _, rfl, rfl, hk, rfl, rfl, _, rfl, iteD (fun h => absurd h (by decide +kernel)) (fun _ => ?_)⟩
    refine ⟨_, rfl, a, _, _, _, rfl, rfl, hk, rfl, rfl, _, rfl, iteD (fun h => absurd h (by decide +kernel)) (fun _ => ?_)⟩
    refine ⟨_, rfl, a, _, _, _, rfl, rfl, hk, rfl, _, _, _, rfl, rfl, T.act (f := "take") (List.mem_of_getElem? (i := 8) rfl), ?_⟩
    exact ⟨_, _, _, rfl, F_take.mono (by decide), _, rfl, p, g, rfl, hP, ok, kn, ks⟩
  | lay =>
    refine ⟨_, rfl, a, _, _, _, rfl, rfl, hk, rfl, rfl, _, rfl, iteD (fun h => absurd h (by decide +kernel)) (fun _ => ?_)⟩
    refine ⟨_, rfl, a, _, _, _, rfl, rfl, hk, rfl, rfl, _, rfl, iteD (fun h => absurd h (by decide +kernel)) (fun _ => ?_)⟩
    refine ⟨_, rfl, a, _, _, _, rfl, rfl, hk, rfl, _, _, _, rfl, rfl, T.act (f := "lay") (List.mem_of_getElem? (i := 9) rfl), ?_⟩
    exact ⟨_, _, _, rfl, F_lay.mono (by decide), _, rfl, p, g, rfl, hP, ok, kn, ks⟩
end
end KT
set_option Elab.async false
set_option linter.all false
set_option maxRecDepth 100000
set_option maxHeartbeats 4000000
namespace KT
open PySem PySem.Spec PyProof.Rows L2 GxR
variable [GT]
/-! ### signs -/
theorem elt_range {prog : Program} {w : World} {scope : Scope} {x lo hi : Str} {j j' : Nat} {p1 p2 p3 p4 : Pos} (hk : scope.kind = .function) (hl : scope.names.lookup x = some .local) (hd : (x == ("__debug__" : Str)) = false := by decide) :
    EltP prog w scope x (.Compare (.Constant (.str lo) j p1) [.LtE, .LtE] [.Name x p2, .Constant (.str hi) j' p3] p4) (fun c => !decide ([c] < lo.cps.toList) && !decide (hi.cps.toList < [c])) := by
  intro cenv A' E' c t s₂ m₂ hs hn hm
  refine Compare_chain (Calls.Constant_str (chain_link ?_))
  refine wpAny_Name (wpAny_loadName_local (by rw [hs]; exact hk) (show cenv.scope.names.lookup x = some .local by rw [hs]; exact hl) hn hm ?_) hd
  refine PySem.P.le_str (wpAny_truthy_bool ?_)
  have e : (⟨#[c]⟩ : Str).cps.toList = [c] := rfl
  rw [e]
  by_cases h : [c] < lo.cps.toList
  · rw [decide_eq_true h]
    exact ite_ff ⟨congrArg Value.bool (by show _ = (!decide ([c] < lo.cps.toList) && _); rw [decide_eq_true h]; rfl), keeps_tok _ _⟩
  · rw [decide_eq_false h]
    refine ite_tt (chain_last (Calls.Constant_str (PySem.P.le_str ⟨congrArg Value.bool (by show _ = (!decide ([c] < lo.cps.toList) && _); rw [decide_eq_false h]; rfl), keeps_tok _ _⟩)))
/-- are_signs, in Lean -/
def signB (c : Nat) : Bool := !decide ([c] < (Str.ofString " ").cps.toList) && !decide ((Str.ofString "~").cps.toList < [c])
theorem signB_eq (c : Nat) : signB c = decide (okSign c) := by
  unfold signB okSign
  rw [show (Str.ofString " ").cps.toList = [32] by decide +kernel, show (Str.ofString "~").cps.toList = [126] by decide +kernel]
  have h1 := one_lt c 32
  have h2 := one_lt 126 c
  by_cases a : c < 32
  · rw [decide_eq_true (h1.mpr a)]
    simp; omega
  · rw [decide_eq_false (fun z => a (h1.mp z))]
    by_cases b : 126 < c
    · rw [decide_eq_true (h2.mpr b)]
      simp; omega
    · rw [decide_eq_false (fun z => b (h2.mp z))]
      simp; omega
/-- the table of are_signs -/
abbrev cS (K : PySem.W.Frag) : Addr := He.codeOf K ("are_signs", none)
abbrev tS (K : PySem.W.Frag) : Addr := GT.a
section
variable {P : Program} {w : World} {K : PySem.W.Frag} {mg : Str → Option Value} {base : Heap}
def sp_are_signs (K : PySem.W.Frag) : Sp := fun vs H Q _ => ∃ l, vs = [.str (S l)] ∧ TabG H (tS K) ∧ ∀ H', Kq [] H H' → Q (.bl (l.all signB)) H'
theorem sc_are_signs : FnScope ["text"] ["text"] (defScope s_are_signs) := ⟨rfl, rfl, rfl, by decide +kernel, rfl, by decide +kernel, by decide +kernel⟩
theorem ok_are_signs (T : Tx w K mg) (B : TabB base mg (cS K) (tS K)) : Fk P w K mg base 1 (Ad K d_are_signs.at_) ["text"] (sp_are_signs K) := by
  refine mkF T.f_are_signs sc_are_signs rfl (fun _ _ _ _ _ _ us hl => match us, hl with | [_], _ => rfl) (fun vs H Q E h => by obtain ⟨_, rfl, _⟩ := h; rfl) (fun cdv A outer s H vs Q E hcd hcode hr h => ?_)
  refine ⟨_, (pss_one (ps_ret (pe_allS (c := cS K) (P := tS K) hr rfl T.n_all (by decide +kernel) B hcode ⟨rfl, rfl, by decide +kernel, by decide +kernel, by decide +kernel, fun y hy e => absurd e ((by decide +kernel : ∀ y ∈ _, y.2 ≠ .free) y hy)⟩ (pv 0) (elt_range rfl (by decide +kernel)) (fun _ => rfl)))), ?_⟩
  obtain ⟨l, rfl, hT, k⟩ := h
  refine ⟨_, rfl, _, rfl, hT, fun H2 hH => ?_⟩
  exact k H2 (Kq.tabbed hH hT)
end
end KT
set_option Elab.async false
set_option linter.all false
set_option maxRecDepth 100000
set_option maxHeartbeats 4000000
namespace KT
open PySem PySem.Spec PyProof.Rows L2 GxR
/-! ### match: a tuple against sequences of texts and names -/
inductive PatI where
  | lit (z : Str) | cap (i : Nat)
/-- what may be held against a text -/
def flatS : V → Bool
  | .int _ => true
  | .str _ => true
  | .bl _ => true
  | .non => true
  | _ => false
theorem scal_flat {x : V} {z : Str} (h : flatS x = true) : scal x (.str z) = true := by
  cases x <;> first | rfl | cases h
def patHit : List PatI → List V → Bool
  | [], [] => true
  | .lit z :: ds, x :: xs => decide (x = .str z) && patHit ds xs
  | .cap _ :: ds, _ :: xs => patHit ds xs
  | _, _ => false
def patBind : List PatI → List V → L2.St → L2.St
  | .lit _ :: ds, _ :: xs, σ => patBind ds xs σ
  | .cap i :: ds, x :: xs, σ => patBind ds xs (σ.set i (some x))
  | _, _, σ => σ
section
variable {X : Cx} {pins : List (Addr × Obj)} {σ : L2.St} {H : Hp} {s : Shared}
inductive PsOk (X : Cx) : List Pattern → List PatI → Prop where
  | nil : PsOk X [] []
  | lit {z : Str} {j : Nat} {p1 p2 : Pos} {ps : List Pattern} {ds : List PatI} (h : PsOk X ps ds) : PsOk X (.MatchValue (.Constant (.str z) j p1) p2 :: ps) (.lit z :: ds)
  | cap {x : Str} {i : Nat} {p : Pos} {ps : List Pattern} {ds : List PatI} (hN : X.N[i]? = some x) (hl : Loc X.env.scope x) (hf : X.fn x = true ∨ X.env.scope.names.lookup x = some .local) (h : PsOk X ps ds) : PsOk X (.MatchAs none (some x) p :: ps) (.cap i :: ds)
theorem PsOk.len {ps : List Pattern} {ds : List PatI} (h : PsOk X ps ds) : ps.length = ds.length := by
  induction h with
  | nil => rfl
  | lit _ ih => simp [ih]
  | cap _ _ _ _ ih => simp [ih]
/-- the names and values that are bound -/
inductive Bs (X : Cx) : List PatI → List V → List (Str × Value) → Prop where
  | nil : Bs X [] [] []
  | lit {z : Str} {x : V} {ds : List PatI} {xs : List V} {bs : List (Str × Value)} (h : Bs X ds xs bs) : Bs X (.lit z :: ds) (x :: xs) bs
  | cap {n : Str} {i : Nat} {x : V} {u : Value} {ds : List PatI} {xs : List V} {bs : List (Str × Value)} (hN : X.N[i]? = some n) (hl : Loc X.env.scope n) (hf : X.fn n = true ∨ X.env.scope.names.lookup n = some .local) (r : RelV x u) (h : Bs X ds xs bs) : Bs X (.cap i :: ds) (x :: xs) ((n, u) :: bs)
theorem each_ok {ps : List Pattern} {ds : List PatI} (h : PsOk X ps ds) : ∀ {xs : List V} {us : List Value} {s : Shared} {Q : Option (List (Str × Value)) → Shared → Prop}, Vals xs us → xs.length = ds.length → (∀ x ∈ xs, flatS x = true) → Inv X pins σ H s →
    (∀ s', Inv X pins σ H s' → (patHit ds xs = false → Q none s') ∧ (patHit ds xs = true → ∀ bs, Bs X ds xs bs → Q (some bs) s')) → wpAny (model X.prog X.w) X.A (matchEach ps X.env us) Q X.xe s := by
  induction h with
  | nil =>
    intro xs us s Q r hl hf I k
    cases r with
    | nil => exact wpAny_matchEach_nil ((k s I).2 rfl [] .nil)
    | cons _ _ => simp at hl
  | @lit z j p1 p2 ps ds h ih =>
    intro xs us s Q r hl hf I k
    cases r with
    | nil => simp at hl
    | @cons x u xs us rx r =>
      refine wpAny_matchEach_cons ?_ rfl
      refine wpAny_matchPattern_Value (Calls.Constant_str ?_)
      refine thn (op_eq pins _ σ H x (.str z) u _ (fun v H' => v = .bl (decide (x = .str z)) ∧ H' = H) (I.tok _) rx ⟨_, rfl⟩ ⟨scal_flat (hf x (by simp)), rfl, rfl⟩) fun c s2 hc => ?_
      obtain ⟨v, H', I2, rc, ev, eH⟩ := hc
      subst ev eH
      cases rc
      refine wpAny_truthy_bool ?_
      by_cases e : x = .str z
      · rw [decide_eq_true e]
        show wpAny _ _ (matchEach ps X.env us) _ _ s2
        refine ih r (by simpa using hl) (fun y hy => hf y (by simp [hy])) I2 fun s3 I3 => ?_
        have h1 : patHit (.lit z :: ds) (x :: xs) = patHit ds xs := by
          show (decide (x = .str z) && patHit ds xs) = _
          rw [decide_eq_true e]; rfl
        have k3 := k s3 I3
        rw [h1] at k3
        exact ⟨fun e => k3.1 e, fun e bs hb => k3.2 e _ (.lit hb)⟩
      · rw [decide_eq_false e]
        show Q none s2
        refine (k s2 I2).1 ?_
        show (decide (x = .str z) && patHit ds xs) = false
        rw [decide_eq_false e]; rfl
  | @cap n i p ps ds hN hloc hfn h ih =>
    intro xs us s Q r hl hf I k
    cases r with
    | nil => simp at hl
    | @cons x u xs us rx r =>
      refine wpAny_matchEach_cons ?_ rfl
      refine wpAny_matchPattern_Capture ?_
      show wpAny _ _ (matchEach ps X.env us) _ _ s
      refine ih r (by simpa using hl) (fun y hy => hf y (by simp [hy])) I fun s3 I3 => ?_
      have k3 := k s3 I3
      exact ⟨fun e => k3.1 e, fun e bs hb => k3.2 e _ (.cap hN hloc hfn rx hb)⟩
theorem bind_ok (hnd : X.N.Nodup) {ds : List PatI} {xs : List V} {bs : List (Str × Value)} (h : Bs X ds xs bs) : ∀ {σ : L2.St} {s : Shared} {Q : Unit → Shared → Prop}, Inv X pins σ H s → (∀ s', Inv X pins (patBind ds xs σ) H s' → Q () s') →
    wpAny (model X.prog X.w) X.A (assignInOrder (bs.map fun (n, _) => bindName X.env n) (bs.map (·.2))) Q X.xe s := by
  induction h with
  | nil => intro σ s Q I k; exact wpAny_assignInOrder_none (k s I)
  | lit _ ih => intro σ s Q I k; exact ih I k
  | cap hN hl hf r _ ih =>
    intro σ s Q I k
    refine wpAny_assignInOrder_more (bindName_ (store_ok I hnd hN hl r (fun s' I' => ?_) hf))
    exact ih I' k
/-- the cases: a sequence, or whatever there is -/
inductive CaseD where
  | seq (ds : List PatI) (t : TS)
  | any (t : TS)
def tCases : List CaseD → List V → TS
  | [], _ => fun D σ H => D.nx σ H
  | .seq ds t :: r, xs => fun D σ H => if (decide (ds.length = xs.length) && patHit ds xs) = true then t D (patBind ds xs σ) H else tCases r xs D σ H
  | .any t :: _, _ => t
def tMatch (K : PySem.W.Frag) (te : TE) (cs : List CaseD) : TS := fun D σ H => te σ H fun v H1 => ∃ a xs, v = .ref a ∧ SqT K H1 a xs ∧ (∀ x ∈ xs, flatS x = true) ∧ tCases cs xs D σ H1
inductive CsOk (X : Cx) : List MatchCase → List CaseD → Prop where
  | nil : CsOk X [] []
  | seq {ps : List Pattern} {pos : Pos} {ds : List PatI} {t : TS} {body : List Stmt} {cs : List MatchCase} {dd : List CaseD} (hp : PsOk X ps ds) (hb : PSs X body t) (h : CsOk X cs dd)
    (hstar : ps.findIdx? (·.isStar) = none := by rfl) (hwild : (ps.all fun p => p.isWildcard || (p.isStar && p.names.isEmpty)) = false := by rfl) : CsOk X (⟨.MatchSequence ps pos, none, body⟩ :: cs) (.seq ds t :: dd)
  | any {pos : Pos} {t : TS} {body : List Stmt} {cs : List MatchCase} (hb : PSs X body t) : CsOk X (⟨.MatchAs none none pos, none, body⟩ :: cs) [.any t]
theorem cases_ok (hc : X.calm = true) (hnd : X.N.Nodup) {cs : List MatchCase} {dd : List CaseD} (h : CsOk X cs dd) : ∀ {a : Addr} {xs : List V} {s : Shared} {D : Ends} (first : Bool), Inv X pins σ H s → SqT X.K H a xs → (∀ x ∈ xs, flatS x = true) → tCases dd xs D σ H →
    wpAny (model X.prog X.w) X.A (matchCases cs X.env (.ref a) first) (SP X pins D) X.xe s := by
  induction h with
  | nil =>
    intro a xs s D first I ht hf k
    exact wpAny_matchCases_nil ⟨σ, H, I, k⟩
  | @seq ps pos ds t body cs dd hp hb h hstar hwild ih =>
    intro a xs s D first I ht hf k
    refine wpAny_matchCases_cons ?_
    obtain ⟨its, r, pl, hz⟩ := I.tuple ht
    have hlen := r.length
    have hl := hp.len
    have hsz : sizeLine = 16777216 := sizeLine_eq
    have hfit : (its.toArray.size : Int) < 2 ^ 63 := by simp only [List.size_toArray]; omega
    have k : if (decide (ds.length = xs.length) && patHit ds xs) = true then t D (patBind ds xs σ) H else tCases dd xs D σ H := k
    by_cases e : its.toArray.size = ps.length
    · refine matchSeq_tuple_hit pl hfit e ?_ hstar hwild
      have e2 : xs.length = ds.length := by simp only [List.size_toArray] at e; omega
      rw [← e]
      refine unpackItems_tuple (I.ok.hd hc) (s := { s with toks := s.toks + 1 + 1 }) pl fun h' hx => ?_
      have I2 : Inv X pins σ H { s with heap := h', toks := s.toks + 1 + 1 } := I.kept fun b u q => by
        exact hx b u (Nat.ne_of_lt (Heap.lt_size q)) q
      refine each_ok hp r e2 hf I2 fun s3 I3 => ⟨fun hn => ?_, fun hh bs hbs => ?_⟩
      · show wpAny _ _ (matchCases cs X.env (.ref a) false) _ _ s3
        refine ih false I3 ht hf ?_
        rw [hn, Bool.and_false, if_neg (by simp)] at k
        exact k
      · show wpAny _ _ (assignInOrder (bs.map fun (n, _) => bindName X.env n) (bs.map (·.2))) _ _ s3
        refine bind_ok hnd hbs I3 fun s4 I4 => ?_
        rw [hh, Bool.and_true, if_pos (by simp [e2])] at k
        exact hb.run pins s4 _ H D I4 k
    · refine matchSeq_tuple_miss pl hfit e ?_ hstar hwild
      show wpAny _ _ (matchCases cs X.env (.ref a) false) _ _ _
      refine ih false ((I.tok _)) ht hf ?_
      have e2 : ¬ ds.length = xs.length := by simp only [List.size_toArray] at e; omega
      rw [decide_eq_false e2, Bool.false_and, if_neg (by simp)] at k
      exact k
  | @any pos t body cs hb =>
    intro a xs s D first I ht hf k
    refine wpAny_matchCases_cons ?_
    refine wpAny_matchPattern_Capture ?_
    show wpAny _ _ (assignInOrder [] []) _ _ s
    refine wpAny_assignInOrder_none ?_
    exact hb.run pins s σ H D I k
theorem ps_match {subject : Expr} {te : TE} {cs : List MatchCase} {dd : List CaseD} {pos : Pos} (hc : X.calm = true) (hnd : X.N.Nodup) (he : PE X subject te) (h : CsOk X cs dd) : PS X (.Match subject cs pos) (tMatch X.K te dd) := by
  refine ⟨fun pins s σ H D I q => ?_⟩
  refine wpAny_Match (thn (he.run pins s σ H _ I q) fun v s1 hv => ?_)
  obtain ⟨x, H1, I1, r1, a, xs, ex, ht, hf, k⟩ := hv
  subst ex
  cases r1
  exact cases_ok hc hnd h true I1 ht hf k
end
end KT
set_option Elab.async false
set_option linter.all false
set_option maxRecDepth 100000
set_option maxHeartbeats 4000000
namespace KT
open PySem PySem.Spec PyProof.Rows L2
section
variable {X : Cx} {d : Addr} {es : Array DictEntry} {n : Nat}
def rInX (K : PySem.W.Frag) (d : Addr) : R2 := fun x y H Q => y = .ref d ∧ ((∃ (z : Str) (r : Option Value), x = .str z ∧ PySem.W.nsIn K d z = some r ∧ Q (.bl r.isSome) H) ∨ ∃ i : Int, x = .int i ∧ Q (.bl false) H)
/-- a text or a number in a dict of the text, whose keys are texts -/
theorem op_in_kdX (D : KDict X.K X.w d es n) : OpR X (compareOp .In) (rInX X.K d) := by
  intro pins s σ H x y v u Q I rx ry h
  obtain ⟨ey, ⟨z, r, ex, e, q⟩ | ⟨i, ex, q⟩⟩ := h
  · exact op_in_kd D pins s σ H x y v u Q I rx ry ⟨z, r, ex, ey, e, q⟩
  · subst ex ey
    obtain ⟨t, rfl⟩ := rx
    cases ry
    have hm : s.heap.MapOf (mixKind X.prog X.w) d (fun k => findBy (mixKind X.prog X.w).is es k) := by
      refine ⟨_, es, n, I.kIn _ _ D.at_, ⟨rfl, rfl, rfl⟩, rfl, fun e he => ?_, fun _ => rfl⟩
      obtain ⟨x, t', e1, e2⟩ := D.lit.all e (Array.mem_toList_iff.mpr he)
      exact ⟨.inr x, by rw [e1]; exact mixKind_str X.prog X.w x t', e2⟩
    have hnone : findBy (mixKind X.prog X.w).is es (.inl i) = none := by
      unfold findBy
      rw [show es.find? (fun e => (mixKind X.prog X.w).is (.inl i) e.key) = none from ?_]
      · rfl
      · rw [Array.find?_eq_none]
        intro e he
        obtain ⟨x, t', e1, e2⟩ := D.lit.all e (Array.mem_toList_iff.mpr he)
        rw [e1, mixKind_is]
        simp [keyIs, Value.isInt]
    refine wpAny_in_of (mixKind_int X.prog X.w i t) D.low hm ?_
    rw [hnone]
    exact ⟨.bl false, H, I.tok _, rfl, q⟩
end
end KT
set_option Elab.async false
set_option linter.all false
set_option maxRecDepth 100000
set_option maxHeartbeats 4000000
namespace KT
open PySem PySem.Spec PyProof.Rows L2 GxR
variable [GT]
/-! ### what is a key -/
theorem tyx_tup {K : PySem.W.Frag} {H : Hp} {a : Addr} {xs : List V} (h : SqT K H a xs) : TyX K H (.ref a) (.type "tuple") := by
  rcases h with (h | ⟨o, h⟩) | ⟨o, its, n, hk, hc, _⟩
  · exact .base (.tup h)
  · exact .fTuple h
  · exact .kTuple hk hc
def wordB (n : Nat) : V → Bool
  | .str z => decide (1 ≤ z.length) && (decide (z.length ≤ n) && z.cps.toList.all signB)
  | _ => false
def timesB : V → Bool
  | .int i => decide (1 ≤ i) && decide (i ≤ 9)
  | _ => false
def namesV : List V := [.str "a", .str "b", .str "c", .str "d", .str "e", .str "f", .str "g", .str "h"]
def nameB (v : V) : Bool := inV v namesV
/-- whether a tuple of these is a key; act: what stands alone -/
def keyB (act : V → Bool) : List V → Bool
  | [k, x] => if k = .str "put" then wordB 1 x else if k = .str "find" then wordB 4 x else if k = .str "till" then nameB x else false
  | [k, x, m] => if k = .str "play" then nameB x && timesB m else false
  | [k] => act k
  | _ => false
/-- a text or a number, not too long -/
def smallV : V → Prop
  | .str z => z.length ≤ 1000
  | .int _ => True
  | _ => False
theorem flatS_small {v : V} (h : smallV v) : flatS v = true := by
  cases v <;> first | rfl | exact h.elim
theorem flatV_small {v : V} (h : smallV v) : flatV v = true := by
  cases v <;> first | rfl | exact h.elim
theorem ite_lit2 {z : Str} {i : Nat} {x y : V} {A B : Prop} (h1 : x = .str z → A) (h2 : ¬ x = .str z → B) : if (decide ([PatI.lit z, PatI.cap i].length = [x, y].length) && patHit [.lit z, .cap i] [x, y]) = true then A else B := by
  by_cases e : x = .str z
  · have : (decide ([PatI.lit z, PatI.cap i].length = [x, y].length) && patHit [.lit z, .cap i] [x, y]) = true := by simp [patHit, e]
    rw [if_pos this]; exact h1 e
  · have : ¬ (decide ([PatI.lit z, PatI.cap i].length = [x, y].length) && patHit [.lit z, .cap i] [x, y]) = true := by simp [patHit, e]
    rw [if_neg this]; exact h2 e
theorem ite_lit3 {z : Str} {i j : Nat} {x y u : V} {A B : Prop} (h1 : x = .str z → A) (h2 : ¬ x = .str z → B) : if (decide ([PatI.lit z, PatI.cap i, PatI.cap j].length = [x, y, u].length) && patHit [.lit z, .cap i, .cap j] [x, y, u]) = true then A else B := by
  by_cases e : x = .str z
  · have : (decide ([PatI.lit z, PatI.cap i, PatI.cap j].length = [x, y, u].length) && patHit [.lit z, .cap i, .cap j] [x, y, u]) = true := by simp [patHit, e]
    rw [if_pos this]; exact h1 e
  · have : ¬ (decide ([PatI.lit z, PatI.cap i, PatI.cap j].length = [x, y, u].length) && patHit [.lit z, .cap i, .cap j] [x, y, u]) = true := by simp [patHit, e]
    rw [if_neg this]; exact h2 e
section
variable {P : Program} {w : World} {K : PySem.W.Frag} {mg : Str → Option Value} {base : Heap}
theorem Tx.names (T : Tx w K mg) (H : Hp) : SqT K H (He.ga K "NAMES") namesV := by
  obtain ⟨_, _, _, c⟩ := T.ex
  have := T.more0
  unfold ex0 at this
  exact He.tupB_ok (He.ba this).1 H
/-- how a word that stands alone is looked up -/
def ActIs (K : PySem.W.Frag) (k : V) (b : Bool) : Prop := (∃ z r, k = .str z ∧ PySem.W.nsIn K (He.ga K "ACTIONS") z = some r ∧ b = r.isSome) ∨ ∃ i : Int, k = .int i ∧ b = false
def sp_is_word (K : PySem.W.Frag) : Sp := fun vs H Q _ => ∃ v n, vs = [v, .int (n : Nat)] ∧ smallV v ∧ TabG H (tS K) ∧ ∀ H', Kq [] H H' → Q (.bl (wordB n v)) H'
theorem sc_is_word : FnScope ["word", "longest"] ["word", "longest"] (defScope s_is_word) := ⟨rfl, rfl, rfl, by decide +kernel, rfl, by decide +kernel, by decide +kernel⟩
theorem ok_is_word (T : Tx w K mg) (B : TabB base mg (cS K) (tS K)) : Fk P w K mg base 2 (Ad K d_is_word.at_) ["word", "longest"] (sp_is_word K) := by
  have F_are_signs := ok_are_signs (P := P) (base := base) T B
  refine mkF T.f_is_word sc_is_word rfl (fun _ _ _ _ _ _ us hl => match us, hl with | [_, _], _ => rfl) (fun vs H Q E h => by obtain ⟨_, _, rfl, _⟩ := h; rfl) (fun cdv A outer s H vs Q E hcd hcode hr h => ?_)
  refine ⟨_, (pss_one (ps_ret (pe_and (pe_callB call_isi (by rfl) T.n_isinstance (by decide +kernel) (pa_cons (pv 0) (pa_cons (pe_bltn (v := .ty "str") (by rfl) T.n_str (by decide +kernel) rfl) pa_nil))) (pe_and (pe_chain op_le op_le pe_int (pe_callB call_len_str (by rfl) T.n_len (by decide +kernel) (pa_cons (pv 0) pa_nil)) (pv 1)) (pe_one (pe_cF F_are_signs (hr.mono (by decide)) T.g_are_signs px (pa_cons (pv 0) pa_nil))))))), ?_⟩
  obtain ⟨v, n, rfl, hs, hT, k⟩ := h
  cases v with
  | str z =>
    have hz : z.length ≤ 1000 := hs
    refine ⟨_, rfl, _, _, _, _, true, rfl, .ty _, .base (.str _), kit_ty (by decide +kernel), _, rfl, iteT ?_⟩
    refine ⟨_, rfl, _, rfl, line16 (by omega), _, _, rfl, rfl, _, rfl, iteD (fun h1 => ?_) (fun h1 => ?_)⟩
    · refine ⟨_, rfl, _, _, rfl, rfl, _, rfl, iteD (fun h2 => ?_) (fun h2 => ?_)⟩
      · refine ⟨_, rfl, z.cps.toList, by rw [show S z.cps.toList = z from S_tl z], hT, fun H' k' => ?_⟩
        have e : wordB n (.str z) = z.cps.toList.all signB := by
          show (decide (1 ≤ z.length) && (decide (z.length ≤ n) && z.cps.toList.all signB)) = _
          rw [decide_eq_true (by omega), decide_eq_true (by omega)]; rfl
        rw [← e]
        exact k H' k'
      · have e : wordB n (.str z) = false := by
          show (decide (1 ≤ z.length) && (decide (z.length ≤ n) && z.cps.toList.all signB)) = _
          rw [decide_eq_false (show ¬ z.length ≤ n by omega)]; simp
        rw [← e]
        exact k H Kq.refl
    · refine ⟨_, rfl, iteF ?_⟩
      have e : wordB n (.str z) = false := by
        show (decide (1 ≤ z.length) && (decide (z.length ≤ n) && z.cps.toList.all signB)) = _
        rw [decide_eq_false (show ¬ 1 ≤ z.length by omega)]; simp
      rw [← e]
      exact k H Kq.refl
  | int i =>
    exact ⟨_, rfl, _, _, _, _, false, rfl, .ty _, .base (.int _), kit_ty (by decide +kernel), _, rfl, iteF (k H Kq.refl)⟩
  | _ => exact hs.elim
def numB (lo hi : Int) : V → Bool
  | .int i => decide (lo ≤ i) && decide (i ≤ hi)
  | _ => false
theorem numB_times (v : V) : numB 1 9 v = timesB v := by cases v <;> rfl
def sp_is_number : Sp := fun vs H Q _ => ∃ v lo hi, vs = [v, .int lo, .int hi] ∧ flatV v = true ∧ (∀ b, v ≠ .bl b) ∧ Q (.bl (numB lo hi v)) H
theorem sc_is_number : FnScope ["number", "least", "most"] ["number", "least", "most"] (defScope s_is_number) := ⟨rfl, rfl, rfl, by decide +kernel, rfl, by decide +kernel, by decide +kernel⟩
theorem ok_is_number (T : Tx w K mg) : Fk P w K mg base 1 (Ad K d_is_number.at_) ["number", "least", "most"] sp_is_number := by
  refine mkF T.f_is_number sc_is_number rfl (fun _ _ _ _ _ _ us hl => match us, hl with | [_, _, _], _ => rfl) (fun vs H Q E h => by obtain ⟨_, _, _, rfl, _⟩ := h; rfl) (fun cdv A outer s H vs Q E hcd hcode hr h => ?_)
  refine ⟨_, (pss_one (ps_ret (pe_and (pe_callB call_isi (by rfl) T.n_isinstance (by decide +kernel) (pa_cons (pv 0) (pa_cons (pe_bltn (v := .ty "int") (by rfl) T.n_int (by decide +kernel) rfl) pa_nil))) (pe_and (pe_not (pe_callB call_isi (by rfl) T.n_isinstance (by decide +kernel) (pa_cons (pv 0) (pa_cons (pe_bltn (v := .ty "bool") (by rfl) T.n_bool (by decide +kernel) rfl) pa_nil)))) (pe_one (pe_chain op_le op_le (pv 1) (pv 0) (pv 2))))))), ?_⟩
  obtain ⟨v, lo, hi, rfl, hs, hb, k⟩ := h
  cases v with
  | str z =>
    exact ⟨_, rfl, _, _, _, _, false, rfl, .ty _, .base (.str _), kit_ty (by decide +kernel), _, rfl, iteF k⟩
  | int i =>
    refine ⟨_, rfl, _, _, _, _, true, rfl, .ty _, .base (.int _), kit_ty (by decide +kernel), _, rfl, iteT ?_⟩
    refine ⟨_, rfl, _, _, _, _, false, rfl, .ty _, .base (.int _), kit_ty (by decide +kernel), _, rfl, _, rfl, iteT ?_⟩
    refine ⟨_, rfl, _, rfl, _, _, rfl, rfl, _, rfl, iteD (fun h1 => ?_) (fun h1 => ?_)⟩
    · refine ⟨_, rfl, _, _, rfl, rfl, ?_⟩
      have e : numB lo hi (.int i) = decide (i ≤ hi) := by
        show (decide (lo ≤ i) && decide (i ≤ hi)) = _
        rw [decide_eq_true h1]; rfl
      rw [e] at k
      exact k
    · have e : numB lo hi (.int i) = false := by
        show (decide (lo ≤ i) && decide (i ≤ hi)) = _
        rw [decide_eq_false h1]; rfl
      rw [← e]
      exact k
  | bl b => exact absurd rfl (hb b)
  | non => exact ⟨_, rfl, _, _, _, _, false, rfl, .ty _, .base .non, kit_ty (by decide +kernel), _, rfl, iteF k⟩
  | _ => exact (Bool.noConfusion (show false = true from hs))
theorem small_noB {v : V} (h : smallV v) : ∀ b, v ≠ .bl b := by
  rintro b rfl
  exact h.elim
def sp_is_key (K : PySem.W.Frag) : Sp := fun vs H Q _ => ∃ a xs act, vs = [.ref a] ∧ SqT K H a xs ∧ (∀ x ∈ xs, smallV x) ∧ TabG H (tS K) ∧ (∀ k, xs = [k] → ActIs K k (act k)) ∧ ∀ H', Kq [] H H' → Q (.bl (keyB act xs)) H'
theorem sc_is_key : FnScope ["key", "sign", "word", "name", "many", "kind"] ["key"] (defScope s_is_key) := ⟨rfl, rfl, rfl, by decide +kernel, rfl, by decide +kernel, by decide +kernel⟩
theorem ok_is_key (T : Tx w K mg) (B : TabB base mg (cS K) (tS K)) : Fk P w K mg base 3 (Ad K d_is_key.at_) ["key"] (sp_is_key K) := by
  obtain ⟨t_LONGEST_WORD, h_LONGEST_WORD⟩ := T.i_LONGEST_WORD
  obtain ⟨t_MOST_TIMES, h_MOST_TIMES⟩ := T.i_MOST_TIMES
  have F_is_number := ok_is_number (P := P) (base := base) T
  have F_is_word := ok_is_word (P := P) (base := base) T B
  refine mkF T.f_is_key sc_is_key rfl (fun _ _ _ _ _ _ us hl => match us, hl with | [_], _ => rfl) (fun vs H Q E h => by obtain ⟨_, _, _, rfl, _⟩ := h; rfl) (fun cdv A outer s H vs Q E hcd hcode hr h => ?_)
  obtain ⟨_, _, DA⟩ := T.tab
  refine ⟨_, (pss_cons (ps_if (pt_not (pt_val (pe_callB call_isi (by rfl) T.n_isinstance (by decide +kernel) (pa_cons (pv 0) (pa_cons (pe_bltn (v := .ty "tuple") (by rfl) T.n_tuple (by decide +kernel) rfl) pa_nil))))) (pss_one (ps_ret pe_bl)) pss_nil)
      (pss_one (ps_match rfl sc_is_key.nd (pv 0) (.seq (.lit (.cap (i := 1) rfl (.inl rfl) (.inl rfl) .nil)) (pss_one (ps_ret (pe_cF F_is_word (hr.mono (by decide)) T.g_is_word px (pa_cons (pv 1) (pa_cons pe_int pa_nil))))) (.seq (.lit (.cap (i := 2) rfl (.inl rfl) (.inl rfl) .nil)) (pss_one (ps_ret (pe_cF F_is_word (hr.mono (by decide)) T.g_is_word px (pa_cons (pv 2) (pa_cons (pe_glob (v := .int 4) (by rfl) h_LONGEST_WORD ⟨_, rfl⟩) pa_nil))))) (.seq (.lit (.cap (i := 3) rfl (.inl rfl) (.inl rfl) (.cap (i := 4) rfl (.inl rfl) (.inl rfl) .nil))) (pss_one (ps_ret (pe_and (pe_cmpR op_in_seq (pv 3) (pe_glob (v := .ref (He.ga K "NAMES")) (by rfl) T.g_NAMES rfl) (by rfl)) (pe_one (pe_cF F_is_number (hr.mono (by decide)) T.g_is_number px (pa_cons (pv 4) (pa_cons pe_int (pa_cons (pe_glob (v := .int 9) (by rfl) h_MOST_TIMES ⟨_, rfl⟩) pa_nil)))))))) (.seq (.lit (.cap (i := 3) rfl (.inl rfl) (.inl rfl) .nil)) (pss_one (ps_ret (pe_cmpR op_in_seq (pv 3) (pe_glob (v := .ref (He.ga K "NAMES")) (by rfl) T.g_NAMES rfl) (by rfl)))) (.seq (.cap (i := 5) rfl (.inl rfl) (.inl rfl) .nil) (pss_one (ps_ret (pe_cmpR (op_in_kdX DA) (pv 5) (pe_glob (v := .ref (He.ga K "ACTIONS")) (by rfl) T.g_ACTIONS rfl) (by rfl)))) (.any (pss_one (ps_ret pe_bl))))))))))), ?_⟩
  obtain ⟨a, xs, act, rfl, ht, hs, hT, hact, k⟩ := h
  refine ⟨_, rfl, _, _, _, _, true, rfl, .ty _, tyx_tup ht, kit_ty (by decide +kernel), _, rfl, iteF ?_⟩
  refine ⟨_, rfl, a, xs, rfl, ht, fun x hx => flatS_small (hs x hx), ?_⟩
  have k0 : ∀ b, keyB act xs = b → ∀ H', Kq [] H H' → Q (.bl b) H' := fun b e H' k' => e ▸ k H' k'
  match xs, ht, hs, hact, k0 with
  | [], _, _, _, k0 => exact k0 false rfl H Kq.refl
  | [x0], _, hs, hact, k0 =>
    rcases hact x0 rfl with ⟨z, r, e1, e2, e3⟩ | ⟨i, e1, e3⟩
    · subst e1
      exact ⟨_, rfl, rfl, .inl ⟨z, r, rfl, e2, k0 _ e3 H Kq.refl⟩⟩
    · subst e1
      exact ⟨_, rfl, rfl, .inr ⟨i, rfl, k0 _ e3 H Kq.refl⟩⟩
  | [x0, x1], _, hs, _, k0 =>
    have h1 : smallV x1 := hs x1 (by simp)
    refine ite_lit2 (fun e => ?_) (fun n1 => ite_lit2 (fun e => ?_) (fun n2 => ite_lit2 (fun e => ?_) (fun n3 => ?_)))
    · exact ⟨_, rfl, x1, 1, rfl, h1, hT, fun H' k' => k0 _ (by show (if x0 = .str "put" then _ else _) = _; rw [if_pos e]) H' k'⟩
    · exact ⟨_, rfl, x1, 4, rfl, h1, hT, fun H' k' => k0 _ (by show (if x0 = .str "put" then _ else if x0 = .str "find" then _ else _) = _; rw [if_neg n1, if_pos e]) H' k'⟩
    · exact ⟨_, rfl, _, _, rfl, .inr (T.names H), flatV_small h1, by decide +kernel, k0 _ (by show (if x0 = .str "put" then _ else if x0 = .str "find" then _ else if x0 = .str "till" then _ else _) = _; rw [if_neg n1, if_neg n2, if_pos e]; rfl) H Kq.refl⟩
    · exact k0 false (by show (if x0 = .str "put" then _ else if x0 = .str "find" then _ else if x0 = .str "till" then _ else _) = _; rw [if_neg n1, if_neg n2, if_neg n3]) H Kq.refl
  | [x0, x1, x2], _, hs, _, k0 =>
    have h1 : smallV x1 := hs x1 (by simp)
    have h2 : smallV x2 := hs x2 (by simp)
    refine ite_lit3 (fun e => ?_) (fun n1 => ?_)
    · refine ⟨_, rfl, _, _, rfl, .inr (T.names H), flatV_small h1, by decide +kernel, ?_⟩
      have e0 : keyB act [x0, x1, x2] = (nameB x1 && timesB x2) := by show (if x0 = .str "play" then _ else _) = _; rw [if_pos e]
      cases hn : inV x1 namesV with
      | true => exact ⟨_, rfl, iteT ⟨_, rfl, x2, 1, 9, rfl, flatV_small h2, small_noB h2, k0 _ (e0.trans (by show (inV x1 namesV && timesB x2) = _; rw [hn, numB_times]; rfl)) H Kq.refl⟩⟩
      | false => exact ⟨_, rfl, iteF (k0 _ (e0.trans (by show (inV x1 namesV && timesB x2) = _; rw [hn]; rfl)) H Kq.refl)⟩
    · exact k0 false (by show (if x0 = .str "play" then _ else _) = _; rw [if_neg n1]) H Kq.refl
  | _ :: _ :: _ :: _ :: _, _, _, _, k0 => exact k0 false rfl H Kq.refl
end
end KT
set_option Elab.async false
set_option linter.all false
set_option maxRecDepth 100000
set_option maxHeartbeats 4000000
namespace KT
open PySem PySem.Spec PyProof.Rows L2 GxR
variable [GT]
/-! ### what may be written: lists, dicts, instances but pages -/
def mutO : HO → Bool
  | .lst _ => true
  | .dK _ => true
  | .ins _ _ ((k, _) :: _) => !decide (k = "rows")
  | _ => false
structure Kf (S : List Addr) (H H' : Hp) : Prop where
  q : Kq S H H'
  w : ∀ b ∈ S, ∃ o, H b = some o ∧ mutO o = true
  w' : ∀ b ∈ S, ∃ o, H' b = some o ∧ mutO o = true
section
variable {S S' : List Addr} {H H1 H2 : Hp} {K : PySem.W.Frag}
theorem mut_wr {o : HO} (h : mutO o = true) : wrO o = true := by cases o <;> first | rfl | cases h
theorem mut_noTbl {o : HO} (h : mutO o = true) : noTbl o = true := by
  cases o <;> first | rfl | cases h
theorem Kf.refl (w : ∀ b ∈ S, ∃ o, H b = some o ∧ mutO o = true) : Kf S H H := ⟨Kq.refl, w, w⟩
theorem Kf.trans (a : Kf S H H1) (b : Kf S H1 H2) : Kf S H H2 := ⟨a.q.trans b.q, a.w, b.w'⟩
theorem Kf.kq (a : Kf S H H1) (b : Kq [] H1 H2) : Kf S H H2 := ⟨a.q.trans b.of, a.w, fun c hc => by
  obtain ⟨o, h1, h2⟩ := a.w' c hc
  exact ⟨o, b.get h1 (mut_noTbl h2), h2⟩⟩
theorem Kf.of (b : Kq [] H H1) (w : ∀ b ∈ S, ∃ o, H b = some o ∧ mutO o = true) : Kf S H H1 := (Kf.refl w).kq b
theorem Kf.cat (b : Kq [] H H1) (a : Kf S H1 H2) (w : ∀ b ∈ S, ∃ o, H b = some o ∧ mutO o = true) : Kf S H H2 := (Kf.of b w).trans a
theorem Kf.not (a : Kf S H H1) {b : Addr} {o : HO} (h : H b = some o) (n : mutO o = false) : b ∉ S := fun hb => by
  obtain ⟨u, h1, h2⟩ := a.w b hb
  rw [h] at h1
  cases h1
  rw [n] at h2
  cases h2
theorem Kf.get (a : Kf S H H1) {b : Addr} {o : HO} (h : H b = some o) (n : mutO o = false) (t : noTbl o = true := by rfl) : H1 b = some o := a.q.at_ b o h t (a.not h n)
theorem Kf.tup (a : Kf S H H1) {l : Addr} {xs : List V} (h : SqT K H l xs) : SqT K H1 l xs := by
  rcases h with (h | ⟨o, h⟩) | h
  · exact .inl (.inl (a.get h rfl))
  · exact .inl (.inr ⟨o, a.get h rfl⟩)
  · exact .inr h
theorem Kf.key (a : Kf S H H1) {p : Addr} {k : Ky} (h : KeyAt K H p k) : KeyAt K H1 p k := a.tup h
theorem Kf.page (a : Kf S H H1) {p : Addr} {g : Pg} (h : PageAt K H p g) : PageAt K H1 p g := by
  obtain ⟨dx, t, h1, h2⟩ := h
  exact ⟨dx, t, a.get h1 (by show (!decide (("rows" : Str) = "rows")) = false; simp), a.tup h2⟩
theorem Kf.write {p : Addr} {o u : HO} (hp : H p = some u) (hS : p ∈ S) (hm : mutO o = true) (w : ∀ b ∈ S, ∃ o, H b = some o ∧ mutO o = true) : Kf S H (upd H p o) :=
  ⟨Kq.write hp hS (by obtain ⟨o', h1, h2⟩ := w p hS; rw [hp] at h1; cases h1; exact mut_wr h2), w, fun b hb => by
    by_cases e : b = p
    · rw [e, upd_same]; exact ⟨o, rfl, hm⟩
    · rw [upd_ne e]; exact w b hb⟩
/-- a list of keys, by their addresses -/
inductive KeysAt (K : PySem.W.Frag) (H : Hp) : List Addr → List Ky → Prop where
  | nil : KeysAt K H [] []
  | cons {a : Addr} {k : Ky} {as : List Addr} {ks : List Ky} (h : KeyAt K H a k) (r : KeysAt K H as ks) : KeysAt K H (a :: as) (k :: ks)
theorem KeysAt.imp {as : List Addr} {ks : List Ky} (f : ∀ a k, KeyAt K H a k → KeyAt K H1 a k) (h : KeysAt K H as ks) : KeysAt K H1 as ks := by
  induction h with
  | nil => exact .nil
  | cons h _ ih => exact .cons (f _ _ h) ih
theorem Kf.keys (a : Kf S H H1) {as : List Addr} {ks : List Ky} (h : KeysAt K H as ks) : KeysAt K H1 as ks := h.imp fun _ _ z => a.key z
theorem Kq.keys (a : Kq [] H H1) {as : List Addr} {ks : List Ky} (h : KeysAt K H as ks) : KeysAt K H1 as ks := h.imp fun _ _ z => a.key z
theorem KeysAt.snoc {as : List Addr} {ks : List Ky} {a : Addr} {k : Ky} (h : KeysAt K H as ks) (hk : KeyAt K H a k) : KeysAt K H (as ++ [a]) (ks ++ [k]) := by
  induction h with
  | nil => exact .cons hk .nil
  | cons h _ ih => exact .cons h ih
theorem KeysAt.at_ {as : List Addr} {ks : List Ky} (h : KeysAt K H as ks) : ∀ {i : Nat} (h1 : i < as.length) (h2 : i < ks.length), KeyAt K H as[i] ks[i] := by
  induction h with
  | nil => intro i h1 h2; simp at h1
  | cons h _ ih =>
    intro i h1 h2
    cases i with
    | zero => exact h
    | succ i => exact ih (by simpa using h1) (by simpa using h2)
theorem KeysAt.len {as : List Addr} {ks : List Ky} (h : KeysAt K H as ks) : as.length = ks.length := by
  induction h with
  | nil => rfl
  | cons _ _ ih => simp [ih]
end
end KT
set_option linter.all false
namespace KT
theorem others_len (g : Pg) {f n : Nat} {ls : List Ln} (h : f ≤ g.rows.length) : (g.others f n ls).length = f + ls.length + (g.rows.length - (f + n)) := by
  unfold Pg.others
  rw [List.length_append, List.length_append, List.length_take, List.length_drop]
  omega
theorem others_mem (g : Pg) {f n : Nat} {ls : List Ln} {l : Ln} (h : l ∈ g.others f n ls) : l ∈ g.rows ∨ l ∈ ls := by
  unfold Pg.others at h
  rcases List.mem_append.mp h with h | h
  · rcases List.mem_append.mp h with h | h
    · exact .inl (List.mem_of_mem_take h)
    · exact .inr h
  · exact .inl (List.mem_of_mem_drop h)
theorem others_get (g : Pg) {f n i : Nat} {ls : List Ln} (h : f ≤ g.rows.length) (hi : i < ls.length) : (g.others f n ls).getD (f + i) [] = ls.getD i [] := by
  unfold Pg.others
  have h1 : (g.rows.take f).length = f := by rw [List.length_take]; omega
  rw [List.getD_eq_getElem?_getD, List.getD_eq_getElem?_getD, List.getElem?_append_left (by rw [List.length_append]; omega), List.getElem?_append_right (by omega), h1]
  congr 2
  omega
theorem Pg.Ok.line_le {g : Pg} (ok : g.Ok) : g.line.length ≤ 60 := by
  unfold Pg.line
  rw [List.getD_eq_getElem?_getD, List.getElem?_eq_getElem ok.row]
  exact ok.long _ (List.getElem_mem _)
theorem Pg.Ok.row_le {g : Pg} (ok : g.Ok) {i : Nat} (h : i < g.rows.length) : (g.rows.getD i []).length ≤ 60 := by
  rw [List.getD_eq_getElem?_getD, List.getElem?_eq_getElem h]
  exact ok.long _ (List.getElem_mem _)
/-- one row changed -/
theorem Pg.Ok.line_sig {g : Pg} (ok : g.Ok) : ∀ c ∈ g.line, okSign c := by
  unfold Pg.line
  rw [List.getD_eq_getElem?_getD, List.getElem?_eq_getElem ok.row]
  exact ok.sig _ (List.getElem_mem _)
theorem Pg.Ok.row_sig {g : Pg} (ok : g.Ok) {i : Nat} (h : i < g.rows.length) : ∀ c ∈ g.rows.getD i [], okSign c := by
  rw [List.getD_eq_getElem?_getD, List.getElem?_eq_getElem h]
  exact ok.sig _ (List.getElem_mem _)
theorem ok_one {g : Pg} (ok : g.Ok) {l cl : Ln} {c : Nat} (h : l.length ≤ 60) (hc : c ≤ l.length) (hcl : cl.length ≤ 60) (hs : ∀ c ∈ l, okSign c) (hcs : ∀ c ∈ cl, okSign c) : Pg.Ok { rows := g.others g.row 1 [l], row := g.row, col := c, clip := cl } := by
  have hr := ok.row
  have hl := others_len g (n := 1) (ls := [l]) (Nat.le_of_lt hr)
  have hm := ok.many
  have e : (g.others g.row 1 [l]).length = g.rows.length := by rw [hl]; simp; omega
  refine ⟨by show (g.others g.row 1 [l]).length ≤ 12; omega, fun m hm => ?_, by show g.row < (g.others g.row 1 [l]).length; omega, ?_, hcl, fun m hm => ?_, hcs⟩
  · rcases others_mem g hm with h1 | h1
    · exact ok.long m h1
    · rw [List.mem_singleton.mp h1]; exact h
  · show c ≤ ((g.others g.row 1 [l]).getD g.row []).length
    have := others_get g (n := 1) (i := 0) (ls := [l]) (Nat.le_of_lt hr) (by simp)
    rw [Nat.add_zero] at this
    rw [this]
    exact hc
  · rcases others_mem g hm with h1 | h1
    · exact ok.sig m h1
    · rw [List.mem_singleton.mp h1]; exact hs
theorem at_ok {g : Pg} (ok : g.Ok) {r c : Nat} (h : r < g.rows.length) (hc : c ≤ (g.rows.getD r []).length) : (g.at_ r c).Ok := ⟨ok.many, ok.long, h, hc, ok.clip, ok.sig, ok.csig⟩
theorem sig_app {a b : Ln} (h : ∀ c ∈ a, okSign c) (h' : ∀ c ∈ b, okSign c) : ∀ c ∈ a ++ b, okSign c := fun c hc => (List.mem_append.mp hc).elim (h c) (h' c)
theorem sig_take {a : Ln} {n : Nat} (h : ∀ c ∈ a, okSign c) : ∀ c ∈ a.take n, okSign c := fun c hc => h c (List.mem_of_mem_take hc)
theorem sig_drop {a : Ln} {n : Nat} (h : ∀ c ∈ a, okSign c) : ∀ c ∈ a.drop n, okSign c := fun c hc => h c (List.mem_of_mem_drop hc)
theorem write_ok {g g' : Pg} {s : Ln} (ok : g.Ok) (hs : ∀ c ∈ s, okSign c) (h : g.write s = some g') : g'.Ok := by
  unfold Pg.write at h
  split at h
  · cases h
  · rename_i hn
    cases h
    have hc := ok.col
    refine ok_one ok ?_ ?_ ok.clip (sig_app (sig_app (sig_take ok.line_sig) hs) (sig_drop ok.line_sig)) ok.csig
    · simp only [List.length_append, List.length_take, List.length_drop]; omega
    · simp only [List.length_append, List.length_take, List.length_drop]; omega
theorem brk_ok {g g' : Pg} (ok : g.Ok) (h : g.brk = some g') : g'.Ok := by
  unfold Pg.brk at h
  split at h
  · cases h
  · rename_i hn
    cases h
    have hr := ok.row
    have h60 := ok.line_le
    have hl := others_len g (n := 1) (ls := [g.line.take g.col, g.line.drop g.col]) (Nat.le_of_lt hr)
    have e : (g.others g.row 1 [g.line.take g.col, g.line.drop g.col]).length = g.rows.length + 1 := by rw [hl]; simp; omega
    refine ⟨by show (g.others g.row 1 _).length ≤ 12; omega, fun m hm => ?_, by show g.row + 1 < (g.others g.row 1 _).length; omega, Nat.zero_le _, ok.clip, fun m hm => ?_, ok.csig⟩
    · rcases others_mem g hm with h1 | h1
      · exact ok.long m h1
      · simp only [List.mem_cons, List.not_mem_nil, or_false] at h1
        rcases h1 with rfl | rfl
        · rw [List.length_take]; omega
        · rw [List.length_drop]; omega
    · rcases others_mem g hm with h1 | h1
      · exact ok.sig m h1
      · simp only [List.mem_cons, List.not_mem_nil, or_false] at h1
        rcases h1 with rfl | rfl
        · exact sig_take ok.line_sig
        · exact sig_drop ok.line_sig
theorem join_ok {g g' : Pg} (ok : g.Ok) (h : g.join = some g') : g'.Ok := by
  unfold Pg.join at h
  split at h
  · cases h
  · rename_i h0
    split at h
    · cases h
    · rename_i hn
      cases h
      have hr := ok.row
      have hm := ok.many
      have hl := others_len g (f := g.row - 1) (n := 2) (ls := [g.rows.getD (g.row - 1) [] ++ g.line]) (by omega)
      have e : (g.others (g.row - 1) 2 [g.rows.getD (g.row - 1) [] ++ g.line]).length = g.rows.length - 1 := by rw [hl]; simp; omega
      refine ⟨by show (g.others (g.row - 1) 2 _).length ≤ 12; omega, fun m hm => ?_, by show g.row - 1 < (g.others (g.row - 1) 2 _).length; omega, ?_, ok.clip, fun m hm => ?_, ok.csig⟩
      · rcases others_mem g hm with h1 | h1
        · exact ok.long m h1
        · rw [List.mem_singleton.mp h1]; omega
      rotate_left
      · rcases others_mem g hm with h1 | h1
        · exact ok.sig m h1
        · rw [List.mem_singleton.mp h1]; exact sig_app (ok.row_sig (by omega)) ok.line_sig
      · show (g.rows.getD (g.row - 1) []).length ≤ ((g.others (g.row - 1) 2 [g.rows.getD (g.row - 1) [] ++ g.line]).getD (g.row - 1) []).length
        have := others_get g (f := g.row - 1) (n := 2) (i := 0) (ls := [g.rows.getD (g.row - 1) [] ++ g.line]) (by omega) (by simp)
        rw [Nat.add_zero] at this
        rw [this]
        simp
theorem toRow_ok {g g' : Pg} {i : Int} (ok : g.Ok) (h : g.toRow i = some g') : g'.Ok := by
  unfold Pg.toRow at h
  split at h
  · cases h
  · rename_i hn
    cases h
    refine at_ok ok (by omega) ?_
    omega
theorem seek_ok {w : Ln} : ∀ {ls : List Ln} {k c r j : Nat}, seek w ls k c = some (r, j) → k ≤ r ∧ r < k + ls.length ∧ j ≤ (ls.getD (r - k) []).length
  | [], _, _, _, _, h => by cases h
  | l :: rest, k, c, r, j, h => by
    unfold seek at h
    cases hf : findL w l c with
    | some q =>
      rw [hf] at h
      cases h
      have : stands w l j = true := by
        have hs : ∀ (n c : Nat), firstAt w l c n = some j → stands w l j = true := by
          intro n
          induction n with
          | zero => intro c h; cases h
          | succ n ih =>
            intro c h
            unfold firstAt at h
            split at h
            · cases h; assumption
            · exact ih _ h
        exact hs _ _ hf
      refine ⟨Nat.le_refl _, by simp, ?_⟩
      rw [Nat.sub_self]
      unfold stands at this
      simp only [Bool.and_eq_true, decide_eq_true_eq] at this
      show j ≤ l.length
      omega
    | none =>
      rw [hf] at h
      obtain ⟨h1, h2, h3⟩ := seek_ok h
      refine ⟨by omega, by simp only [List.length_cons]; omega, ?_⟩
      rw [show r - k = (r - (k + 1)) + 1 by omega]
      exact h3
theorem lets_le (l : Ln) : lets l ≤ l.length := by
  unfold lets
  exact (List.takeWhile_sublist isLet).length_le
theorem does_ok {g g' : Pg} {k : Ky} (ok : g.Ok) (kok : k.Ok) (h : g.does k = some g') : g'.Ok := by
  have hr := ok.row
  have hc := ok.col
  have h60 := ok.line_le
  cases k with
  | put s => exact write_ok ok kok.2 h
  | find w =>
    have h : (seek w (g.rows.drop g.row) g.row (g.col + 1)).map (fun p => g.at_ p.1 p.2) = some g' := h
    cases hs : seek w (g.rows.drop g.row) g.row (g.col + 1) with
    | none => rw [hs] at h; cases h
    | some p =>
      rw [hs] at h
      cases h
      obtain ⟨h1, h2, h3⟩ := seek_ok (r := p.1) (j := p.2) hs
      rw [List.length_drop] at h2
      refine at_ok ok (by omega) ?_
      rw [List.getD_eq_getElem?_getD, List.getElem?_drop, show g.row + (p.1 - g.row) = p.1 by omega, ← List.getD_eq_getElem?_getD] at h3
      exact h3
  | brk => exact brk_ok ok h
  | rub =>
    have h : g.rub = some g' := h
    unfold Pg.rub at h
    split at h
    · exact join_ok ok h
    · cases h
      refine ok_one ok ?_ ?_ ok.clip (sig_app (sig_take ok.line_sig) (sig_drop ok.line_sig)) ok.csig
      · simp only [List.length_append, List.length_take, List.length_drop]; omega
      · simp only [List.length_append, List.length_take, List.length_drop]; omega
  | left =>
    have h : g.left = some g' := h
    unfold Pg.left at h
    split at h
    · cases h; exact at_ok ok hr (by show g.col - 1 ≤ g.line.length; omega)
    · split at h
      · cases h
      · cases h; exact at_ok ok (by omega) (Nat.le_refl _)
  | right =>
    have h : g.right = some g' := h
    unfold Pg.right at h
    split at h
    · cases h; exact at_ok ok hr (by show g.col + 1 ≤ g.line.length; omega)
    · split at h
      · cases h
      · cases h; exact at_ok ok (by omega) (Nat.zero_le _)
  | up => exact toRow_ok ok h
  | down => exact toRow_ok ok h
  | home => cases h; exact at_ok ok hr (Nat.zero_le _)
  | end_ => cases h; exact at_ok ok hr (Nat.le_refl _)
  | take =>
    have h : g.take = some g' := h
    unfold Pg.take at h
    have hlt := lets_le (g.line.drop g.col)
    rw [List.length_drop] at hlt
    simp only at h
    split at h
    · cases h
    · cases h
      refine ok_one ok ?_ ?_ ?_ (sig_app (sig_take ok.line_sig) (sig_drop ok.line_sig)) (sig_take (sig_drop ok.line_sig))
      · simp only [List.length_append, List.length_take, List.length_drop]; omega
      · simp only [List.length_append, List.length_take, List.length_drop]; omega
      · simp only [List.length_take, List.length_drop]; omega
  | lay =>
    have h : g.lay = some g' := h
    unfold Pg.lay at h
    split at h
    · cases h
    · exact write_ok ok ok.csig h
  | play _ _ => cases h
  | till _ => cases h
/-! ### playing counts -/
theorem addT_some {st st' : PSt} (h : addT st = some st') : st'.page = st.page ∧ st'.typed = st.typed ∧ st'.things = st.things + 1 ∧ st.things < 400 := by
  unfold addT at h
  split at h
  · cases h; exact ⟨rfl, rfl, rfl, by assumption⟩
  · cases h
theorem addT_none {st : PSt} (h : addT st = none) : 400 ≤ st.things := by
  unfold addT at h
  split at h
  · cases h
  · omega
theorem keysR_mono {f : Ky → PSt → Res} (hf : ∀ k st b st', f k st = .fin b st' → st.things ≤ st'.things) : ∀ (ks : List Ky) (st : PSt) (b : Bool) (st' : PSt), keysR f ks st = .fin b st' → st.things ≤ st'.things
  | [], st, b, st', h => by cases h; exact Nat.le_refl _
  | k :: ks, st, b, st', h => by
    unfold keysR at h
    cases hk : f k st with
    | long => rw [hk] at h; cases h
    | fin c s1 =>
      have h1 := hf _ _ _ _ hk
      rw [hk] at h
      cases c with
      | true => exact Nat.le_trans h1 (keysR_mono hf ks s1 b st' h)
      | false => cases h; exact h1
theorem once_mono {f : Ky → PSt → Res} (hf : ∀ k st b st', f k st = .fin b st' → st.things ≤ st'.things) {ks : List Ky} {st : PSt} {b : Bool} {st' : PSt} (h : once f ks st = .fin b st') : st.things + 1 ≤ st'.things := by
  unfold once at h
  cases ha : addT st with
  | none => rw [ha] at h; cases h
  | some s1 =>
    rw [ha] at h
    have := (addT_some ha).2.2.1
    have := keysR_mono hf ks s1 b st' h
    omega
theorem timesR_mono {g : PSt → Res} (hg : ∀ st b st', g st = .fin b st' → st.things ≤ st'.things) : ∀ (m : Nat) (st : PSt) (b : Bool) (st' : PSt), timesR g m st = .fin b st' → st.things ≤ st'.things
  | 0, st, b, st', h => by cases h; exact Nat.le_refl _
  | m + 1, st, b, st', h => by
    unfold timesR at h
    cases hk : g st with
    | long => rw [hk] at h; cases h
    | fin c s1 =>
      have h1 := hg _ _ _ hk
      rw [hk] at h
      cases c with
      | true => exact Nat.le_trans h1 (timesR_mono hg m s1 b st' h)
      | false => cases h; exact h1
theorem tillR_mono {g : PSt → Res} (hg : ∀ st b st', g st = .fin b st' → st.things ≤ st'.things) : ∀ (m : Nat) (st : PSt) (b : Bool) (st' : PSt), tillR g m st = .fin b st' → st.things ≤ st'.things
  | 0, st, b, st', h => by cases h
  | m + 1, st, b, st', h => by
    unfold tillR at h
    cases hk : g st with
    | long => rw [hk] at h; cases h
    | fin c s1 =>
      have h1 := hg _ _ _ hk
      rw [hk] at h
      cases c with
      | true => exact Nat.le_trans h1 (tillR_mono hg m s1 b st' h)
      | false => cases h; exact h1
theorem singleR_mono {k : Ky} {st : PSt} {b : Bool} {st' : PSt} (h : singleR k st = .fin b st') : st.things ≤ st'.things := by
  unfold singleR at h
  cases hd : st.page.does k with
  | none => rw [hd] at h; cases h; exact Nat.le_refl _
  | some g => rw [hd] at h; cases h; exact Nat.le_refl _
theorem playR_mono {tp : Nat → List Ky} {o : Option (Ky → PSt → Res)} (ho : ∀ f, o = some f → ∀ k st b st', f k st = .fin b st' → st.things ≤ st'.things) {k : Ky} {st : PSt} {b : Bool} {st' : PSt} (h : playR tp o k st = .fin b st') : st.things ≤ st'.things := by
  cases k with
  | play n m =>
    cases o with
    | none => cases h; exact Nat.le_refl _
    | some f => exact timesR_mono (fun st b st' h => Nat.le_of_succ_le (once_mono (ho f rfl) h)) m st b st' h
  | till n =>
    cases o with
    | none => cases h; exact Nat.le_refl _
    | some f => exact tillR_mono (fun st b st' h => Nat.le_of_succ_le (once_mono (ho f rfl) h)) 401 st b st' h
  | home => exact singleR_mono (k := .home) h
  | end_ => exact singleR_mono (k := .end_) h
  | _ => exact singleR_mono h
theorem doK_mono (tp : Nat → List Ky) : ∀ (d : Nat) (k : Ky) (st : PSt) (b : Bool) (st' : PSt), doK tp d k st = .fin b st' → st.things + 1 ≤ st'.things := by
  intro d
  induction d with
  | zero =>
    intro k st b st' h
    unfold doK at h
    cases ha : addT st with
    | none => rw [ha] at h; cases h
    | some s1 =>
      rw [ha] at h
      have := (addT_some ha).2.2.1
      have := playR_mono (fun f e => by cases e) h
      omega
  | succ d ih =>
    intro k st b st' h
    unfold doK at h
    cases ha : addT st with
    | none => rw [ha] at h; cases h
    | some s1 =>
      rw [ha] at h
      have := (addT_some ha).2.2.1
      have := playR_mono (fun f e k st b st' h => by cases e; exact Nat.le_of_succ_le (ih k st b st' h)) h
      omega
theorem onceK_mono (tp : Nat → List Ky) (d : Nat) {ks : List Ky} {st : PSt} {b : Bool} {st' : PSt} (h : once (doK tp d) ks st = .fin b st') : st.things + 1 ≤ st'.things :=
  once_mono (fun k st b st' h => Nat.le_of_succ_le (doK_mono tp d k st b st' h)) h
theorem keysR_cons (f : Ky → PSt → Res) (k : Ky) (ks : List Ky) (st : PSt) : keysR f (k :: ks) st = match f k st with | .fin true st' => keysR f ks st' | r => r := rfl
theorem timesR_succ (g : PSt → Res) (m : Nat) (st : PSt) : timesR g (m + 1) st = match g st with | .fin true st' => timesR g m st' | r => r := rfl
theorem tillR_succ (g : PSt → Res) (m : Nat) (st : PSt) : tillR g (m + 1) st = match g st with | .fin true st' => tillR g m st' | .fin false st' => .fin true st' | .long => .long := rfl
end KT
set_option Elab.async false
set_option linter.all false
set_option maxRecDepth 100000
set_option maxHeartbeats 4000000
namespace KT
open PySem PySem.Spec PyProof.Rows L2 GxR
variable [GT]
/-! ### keys refused -/
theorem keyV_small {ky : Ky} (h : ky.Ok) : ∀ x ∈ keyV ky, smallV x := by
  have kw : ∀ z : Str, z.length ≤ 1000 → smallV (.str z) := fun z h => h
  have lit : ∀ x, x ∈ ([.str "put", .str "find", .str "break", .str "rub", .str "left", .str "right", .str "up", .str "down", .str "home", .str "end", .str "take", .str "lay", .str "play", .str "till"] : List V) → smallV x := by
    intro x hx
    simp only [List.mem_cons, List.not_mem_nil, or_false] at hx
    rcases hx with rfl | rfl | rfl | rfl | rfl | rfl | rfl | rfl | rfl | rfl | rfl | rfl | rfl | rfl <;> exact kw _ (by decide +kernel)
  have nm : ∀ n, smallV (.str (nameS n)) := fun n => by show (nameS n).length ≤ 1000; unfold nameS; rw [S_len]; simp
  cases ky with
  | put s => intro x hx; simp only [keyV, List.mem_cons, List.not_mem_nil, or_false] at hx; rcases hx with rfl | rfl; exact lit _ (by simp); exact kw _ (by rw [S_len]; have := h.1; omega)
  | find s => intro x hx; simp only [keyV, List.mem_cons, List.not_mem_nil, or_false] at hx; rcases hx with rfl | rfl; exact lit _ (by simp); exact kw _ (by rw [S_len]; have := h.2.1; omega)
  | play n m => intro x hx; simp only [keyV, List.mem_cons, List.not_mem_nil, or_false] at hx; rcases hx with rfl | rfl | rfl; exact lit _ (by simp); exact nm n; exact True.intro
  | till n => intro x hx; simp only [keyV, List.mem_cons, List.not_mem_nil, or_false] at hx; rcases hx with rfl | rfl; exact lit _ (by simp); exact nm n
  | _ => intro x hx; simp only [keyV, List.mem_cons, List.not_mem_nil, or_false] at hx; subst hx; exact lit _ (by simp)
theorem signs_ok {s : Ln} (h : ∀ c ∈ s, okSign c) : s.all signB = true := by
  rw [List.all_eq_true]
  intro c hc
  rw [signB_eq]
  exact decide_eq_true (h c hc)
theorem nameB_ok {n : Nat} (h : n < 8) : nameB (.str (nameS n)) = true := by
  have : ∀ n, n < 8 → nameB (.str (nameS n)) = true := by decide +kernel
  exact this n h
theorem keyB2 (act : V → Bool) (k x : V) : keyB act [k, x] = if k = .str "put" then wordB 1 x else if k = .str "find" then wordB 4 x else if k = .str "till" then nameB x else false := rfl
theorem keyB3 (act : V → Bool) (k x m : V) : keyB act [k, x, m] = if k = .str "play" then nameB x && timesB m else false := rfl
theorem keyB_ok {ky : Ky} (h : ky.Ok) : keyB (fun _ => true) (keyV ky) = true := by
  have put : ¬ ((.str "find" : V) = .str "put") := by decide +kernel
  have t1 : ¬ ((.str "till" : V) = .str "put") := by decide +kernel
  have t2 : ¬ ((.str "till" : V) = .str "find") := by decide +kernel
  cases ky with
  | put s =>
    obtain ⟨h1, h2⟩ := h
    show keyB _ [.str "put", .str (S s)] = true
    rw [keyB2, if_pos rfl]
    show (decide (1 ≤ (S s).length) && (decide ((S s).length ≤ 1) && (S s).cps.toList.all signB)) = true
    rw [S_len, show (S s).cps.toList = s by simp, signs_ok h2, h1]; rfl
  | find s =>
    obtain ⟨h0, h1, h2⟩ := h
    show keyB _ [.str "find", .str (S s)] = true
    rw [keyB2, if_neg put, if_pos rfl]
    show (decide (1 ≤ (S s).length) && (decide ((S s).length ≤ 4) && (S s).cps.toList.all signB)) = true
    rw [S_len, show (S s).cps.toList = s by simp, signs_ok h2, decide_eq_true h0, decide_eq_true h1]; rfl
  | play n m =>
    obtain ⟨h0, h1, h2⟩ := h
    show keyB _ [.str "play", .str (nameS n), .int m] = true
    rw [keyB3, if_pos rfl, nameB_ok h0]
    show (true && (decide (1 ≤ (m : Int)) && decide ((m : Int) ≤ 9))) = true
    rw [decide_eq_true (by omega), decide_eq_true (by omega)]; rfl
  | till n =>
    show keyB _ [.str "till", .str (nameS n)] = true
    rw [keyB2, if_neg t1, if_neg t2, if_pos rfl]
    exact nameB_ok h
  | _ => rfl
section
variable {P : Program} {w : World} {K : PySem.W.Frag} {mg : Str → Option Value} {base : Heap}
theorem act_ok (T : Tx w K mg) {ky : Ky} : ∀ k, keyV ky = [k] → ActIs K k true := by
  have a : ∀ (i : Nat) (q : Str × He.Dv), acts[i]? = some q → ActIs K (.str q.1) true := fun i q h => by
    obtain ⟨u, h1, h2⟩ := T.vals (List.mem_of_getElem? h)
    exact .inl ⟨_, _, rfl, h1, rfl⟩
  intro k h
  cases ky <;> first | (cases h; done) | (injection h with h1 _; subst h1; first | exact a 0 _ rfl | exact a 1 _ rfl | exact a 2 _ rfl | exact a 3 _ rfl | exact a 4 _ rfl | exact a 5 _ rfl | exact a 6 _ rfl | exact a 7 _ rfl | exact a 8 _ rfl | exact a 9 _ rfl)
def sp_check_key (K : PySem.W.Frag) : Sp := fun vs H Q E => ∃ a xs act, vs = [.ref a] ∧ SqT K H a xs ∧ (∀ x ∈ xs, smallV x) ∧ TabG H (tS K) ∧ (∀ k, xs = [k] → ActIs K k (act k)) ∧
  (keyB act xs = true → ∀ H', Kq [] H H' → Q .non H') ∧ (keyB act xs = false → ∀ H', Kq [] H H' → E (.ref (He.ga K "BadKey")) none H')
theorem sc_check_key : FnScope ["key"] ["key"] (defScope s_check_key) := ⟨rfl, rfl, rfl, by decide +kernel, rfl, by decide +kernel, by decide +kernel⟩
theorem ok_check_key (T : Tx w K mg) (B : TabB base mg (cS K) (tS K)) : Fk P w K mg base 4 (Ad K d_check_key.at_) ["key"] (sp_check_key K) := by
  have F_is_key := ok_is_key (P := P) (base := base) T B
  refine mkF T.f_check_key sc_check_key rfl (fun _ _ _ _ _ _ us hl => match us, hl with | [_], _ => rfl) (fun vs H Q E h => by obtain ⟨_, _, _, rfl, _⟩ := h; rfl) (fun cdv A outer s H vs Q E hcd hcode hr h => ?_)
  have tk : Takes (CxD P w K mg base ["key"] d_check_key cdv A outer s H E) (fun cls d _ H => E cls d H) := takes_of rfl rfl rfl rfl
  refine ⟨_, (pss_one (ps_if (pt_not (pt_val (pe_cF F_is_key (hr.mono (by decide)) T.g_is_key px (pa_cons (pv 0) pa_nil)))) (pss_one (ps_raise rfl tk (pmk_BadKey T rfl))) pss_nil)), ?_⟩
  obtain ⟨a, xs, act, rfl, ht, hs, hT, hact, kt, kf⟩ := h
  refine ⟨_, rfl, a, xs, act, rfl, ht, hs, hT, hact, fun H' k' => ⟨_, rfl, ?_⟩⟩
  cases hb : keyB act xs with
  | true => exact iteF (kt hb H' k')
  | false => exact iteT (kf hb H' k')
/-- a key of the program is let by -/
theorem check_ok (T : Tx w K mg) {a : Addr} {ky : Ky} {H : Hp} {Q : VK} {E : XK} (hk : KeyAt K H a ky) (ok : ky.Ok) (hT : TabG H (tS K)) (k : ∀ H', Kq [] H H' → Q .non H') : sp_check_key K [.ref a] H Q E :=
  ⟨a, keyV ky, fun _ => true, rfl, hk, keyV_small ok, hT, fun x e => act_ok T x e, fun _ => k, fun e => absurd ((keyB_ok ok).symm.trans e) (by simp)⟩
/-! ### tapes -/
def TapeAt (K : PySem.W.Frag) (H : Hp) (a : Addr) (ks : List Ky) : Prop := ∃ as : List Addr, SqT K H a (as.map V.ref) ∧ KeysAt K H as ks
def names8 : List Key := [.inr (nameS 0), .inr (nameS 1), .inr (nameS 2), .inr (nameS 3), .inr (nameS 4), .inr (nameS 5), .inr (nameS 6), .inr (nameS 7)]
/-- a dict of the eight tapes stands at t -/
def TapesAt (K : PySem.W.Frag) (H : Hp) (t : Addr) (tp : Nat → List Ky) : Prop := ∃ kvs : List (Key × V), H t = some (.dK kvs) ∧ kvs.map (·.1) = names8 ∧ ∀ n, n < 8 → ∃ a, valV kvs (.inr (nameS n)) = some (.ref a) ∧ TapeAt K H a (tp n)
structure TpOk (tp : Nat → List Ky) : Prop where
  len : ∀ n, n < 8 → (tp n).length ≤ 30
  ok : ∀ n, n < 8 → ∀ k ∈ tp n, k.Ok
theorem Kf.tape {S : List Addr} {H H1 : Hp} {a : Addr} {ks : List Ky} (k : Kf S H H1) (h : TapeAt K H a ks) : TapeAt K H1 a ks := by
  obtain ⟨as, h1, h2⟩ := h
  exact ⟨as, k.tup h1, k.keys h2⟩
theorem Kf.tapes {S : List Addr} {H H1 : Hp} {t : Addr} {tp : Nat → List Ky} (k : Kf S H H1) (h : TapesAt K H t tp) (n : t ∉ S) : TapesAt K H1 t tp := by
  obtain ⟨kvs, h1, h2, h3⟩ := h
  refine ⟨kvs, k.q.at_ t _ h1 rfl n, h2, fun n hn => ?_⟩
  obtain ⟨a, h4, h5⟩ := h3 n hn
  exact ⟨a, h4, k.tape h5⟩
theorem Kq.tape {H H1 : Hp} {a : Addr} {ks : List Ky} (k : Kq [] H H1) (h : TapeAt K H a ks) : TapeAt K H1 a ks := by
  obtain ⟨as, h1, h2⟩ := h
  exact ⟨as, k.tup h1, k.keys h2⟩
theorem Kq.tapes {H H1 : Hp} {t : Addr} {tp : Nat → List Ky} (k : Kq [] H H1) (h : TapesAt K H t tp) : TapesAt K H1 t tp := (Kf.of (S := []) k (fun b hb => absurd hb (by simp))).tapes h (by simp)
/-! ### the player -/
def playerF (p t y : Addr) (n : Nat) : List (Str × V) := [("page", .ref p), ("tapes", .ref t), ("typed", .ref y), ("things", .int n)]
theorem playerF_page (p t y : Addr) (n : Nat) : (playerF p t y n).lookup ("page" : Str) = some (.ref p) := by kernel_rfl
theorem playerF_tapes (p t y : Addr) (n : Nat) : (playerF p t y n).lookup ("tapes" : Str) = some (.ref t) := by kernel_rfl
theorem playerF_typed (p t y : Addr) (n : Nat) : (playerF p t y n).lookup ("typed" : Str) = some (.ref y) := by kernel_rfl
theorem playerF_things (p t y : Addr) (n : Nat) : (playerF p t y n).lookup ("things" : Str) = some (.int n) := by kernel_rfl
theorem playerF_put_things (p t y : Addr) (n : Nat) (m : Nat) : putF "things" (.int m) (playerF p t y n) = playerF p t y m := by kernel_rfl
theorem playerF_put_page (p t y q : Addr) (n : Nat) : putF "page" (.ref q) (playerF p t y n) = playerF q t y n := by kernel_rfl
theorem playerF_make (p t y : Addr) : putF "things" (.int 0) (putF "typed" (.ref y) (putF "tapes" (.ref t) (putF "page" (.ref p) []))) = playerF p t y 0 := by kernel_rfl
theorem playerF_no_add (p t y : Addr) (n : Nat) : (playerF p t y n).lookup ("add_thing" : Str) = none := by kernel_rfl
theorem playerF_no_do (p t y : Addr) (n : Nat) : (playerF p t y n).lookup ("do" : Str) = none := by kernel_rfl
theorem playerF_no_play (p t y : Addr) (n : Nat) : (playerF p t y n).lookup ("play" : Str) = none := by kernel_rfl
theorem playerF_no_till (p t y : Addr) (n : Nat) : (playerF p t y n).lookup ("play_till" : Str) = none := by kernel_rfl
theorem playerF_no_once (p t y : Addr) (n : Nat) : (playerF p t y n).lookup ("play_once" : Str) = none := by kernel_rfl
theorem mut_player (C dx p t y : Addr) (n : Nat) : mutO (.ins C dx (playerF p t y n)) = true := by kernel_rfl
/-- a player stands at x, its list of keys at y, over the tapes at t -/
structure PlAt (K : PySem.W.Frag) (H : Hp) (x t y : Addr) (tp : Nat → List Ky) (st : PSt) : Prop where
  ex : ∃ dx p as, H x = some (.ins (He.ga K "Player") dx (playerF p t y st.things)) ∧ PageAt K H p st.page ∧ H y = some (.lst (as.map V.ref)) ∧ KeysAt K H as st.typed
  tapes : TapesAt K H t tp
  tok : TpOk tp
  sign : TabG H (tS K)
  ok : st.page.Ok
  small : st.typed.length ≤ st.things
  low : st.things ≤ 401
theorem PlAt.wr {H : Hp} {x t y : Addr} {tp : Nat → List Ky} {st : PSt} (h : PlAt K H x t y tp st) : ∀ b ∈ [x, y], ∃ o, H b = some o ∧ mutO o = true := by
  obtain ⟨dx, p, as, h1, _, h3, _⟩ := h.ex
  intro b hb
  simp only [List.mem_cons, List.not_mem_nil, or_false] at hb
  rcases hb with rfl | rfl
  · exact ⟨_, h1, mut_player _ _ _ _ _ _⟩
  · exact ⟨_, h3, rfl⟩
theorem PlAt.nt {H : Hp} {x t y : Addr} {tp : Nat → List Ky} {st : PSt} (h : PlAt K H x t y tp st) : t ∉ [x, y] := by
  obtain ⟨dx, p, as, h1, _, h3, _⟩ := h.ex
  obtain ⟨kvs, h4, _⟩ := h.tapes
  intro hb
  simp only [List.mem_cons, List.not_mem_nil, or_false] at hb
  rcases hb with rfl | rfl
  · rw [h1] at h4; cases h4
  · rw [h3] at h4; cases h4
theorem PlAt.kq {H H' : Hp} {x t y : Addr} {tp : Nat → List Ky} {st : PSt} (h : PlAt K H x t y tp st) (k : Kq [] H H') : PlAt K H' x t y tp st := by
  obtain ⟨dx, p, as, h1, h2, h3, h4⟩ := h.ex
  exact ⟨⟨dx, p, as, k.get h1, k.page h2, k.get h3, k.keys h4⟩, k.tapes h.tapes, h.tok, k.tab _ h.sign, h.ok, h.small, h.low⟩
def sp_add_thing (K : PySem.W.Frag) : Sp := fun vs H Q E => ∃ x t y tp st, vs = [.ref x] ∧ PlAt K H x t y tp st ∧ st.things ≤ 400 ∧
  (∀ st' H', addT st = some st' → Kf [x, y] H H' → PlAt K H' x t y tp st' → Q .non H') ∧ (∀ H', addT st = none → Kf [x, y] H H' → E (.ref (He.ga K "TooLong")) none H')
theorem sc_Player_add_thing : FnScope ["self"] ["self"] (defScope s_Player_add_thing) := ⟨rfl, rfl, rfl, by decide +kernel, rfl, by decide +kernel, by decide +kernel⟩
theorem ok_Player_add_thing (T : Tx w K mg) : Fk P w K mg base 1 (Ad K d_Player_add_thing.at_) ["self"] (sp_add_thing K) := by
  obtain ⟨t_MOST_THINGS, h_MOST_THINGS⟩ := T.i_MOST_THINGS
  refine mkF T.f_Player_add_thing sc_Player_add_thing rfl (fun _ _ _ _ _ _ us hl => match us, hl with | [_], _ => rfl) (fun vs H Q E h => by obtain ⟨_, _, _, _, _, rfl, _⟩ := h; rfl) (fun cdv A outer s H vs Q E hcd hcode hr h => ?_)
  have tk : Takes (CxD P w K mg base ["self"] d_Player_add_thing cdv A outer s H E) (fun cls d _ H => E cls d H) := takes_of rfl rfl rfl rfl
  refine ⟨_, (pss_cons (ps_fldaug (pv 0) pe_int in_add)
      (pss_one (ps_if (pt_cmpR op_gt (pe_fld (pv 0) rfl) (pe_glob (v := .int 400) (by rfl) h_MOST_THINGS ⟨_, rfl⟩) (nomark _)) (pss_one (ps_raise rfl tk (pmk_TooLong T rfl))) pss_nil))), ?_⟩
  obtain ⟨x, t, y, tp, st, rfl, hP, h4, kt, kf⟩ := h
  obtain ⟨dx, p, as, h1, h2, h3, h5⟩ := hP.ex
  refine ⟨_, rfl, x, _, dx, _, _, rfl, h1, T.c_Player, T.a_Player_things, playerF_things _ _ _ _, _, _, rfl, rfl, dx, _, h1, (by show 4 < 1000; decide), ?_⟩
  rw [show ((st.things : Int) + 1) = ((st.things + 1 : Nat) : Int) by omega, playerF_put_things]
  have kw := Kf.write (S := [x, y]) (o := .ins (He.ga K "Player") dx (playerF p t y (st.things + 1))) h1 (by simp) (mut_player _ _ _ _ _ _) hP.wr
  have nyx : y ≠ x := fun e => by rw [e, h1] at h3; cases h3
  have hP' : PlAt K (upd H x (.ins (He.ga K "Player") dx (playerF p t y (st.things + 1)))) x t y tp { st with things := st.things + 1 } :=
    ⟨⟨dx, p, as, upd_same, kw.page h2, (upd_ne nyx).trans h3, kw.keys h5⟩, kw.tapes hP.tapes hP.nt, hP.tok, kw.q.tab _ hP.sign, hP.ok, Nat.le_succ_of_le hP.small, by show st.things + 1 ≤ 401; omega⟩
  refine ⟨_, rfl, x, _, dx, _, _, rfl, upd_same, T.c_Player, T.a_Player_things, playerF_things _ _ _ _, _, _, rfl, rfl, _, rfl, ?_⟩
  refine iteD (fun h => kf _ (by unfold addT; rw [if_neg (by omega)]) kw) (fun h => kt _ _ (by unfold addT; rw [if_pos (by omega)]) kw hP')
end
end KT
set_option Elab.async false
set_option linter.all false
set_option maxRecDepth 100000
set_option maxHeartbeats 4000000
/-! enumerate over a tuple -/
namespace PySem
open AutoSeq1 (wpAny_loadPart')
abbrev tupItO (t : Addr) : Obj := { cls := .type "tuple_iterator", data := .fields #[.ref t, .int 0 0] }
abbrev enumO (i : Addr) : Obj := { cls := .type "enumerate", data := .fields #[.none, .bool false, .ref i, rawInt 0, .none, .none] }
theorem ktEnumNew (t : Addr) (xs : Array Value) (n : Nat) (dct : Option Addr) (sl : Array (Option Value)) :
    Meets (Builtin.«enumerate.__new__» ⟨[.type "enumerate", .ref t], []⟩) (fun _ R s => s.heap.get? t = some { cls := .type "tuple", dict := dct, data := .seq xs n, slots := sl } ∧
      R (.ok (.ret (.ref (s.heap.push (tupItO t)).objs.size))) { s with heap := (s.heap.push (tupItO t)).push (enumO s.heap.objs.size) }) :=
  .of_wp fun prog w A R s hh => by
    obtain ⟨hp, g, d, tk, os⟩ := s
    obtain ⟨ht, hh⟩ := hh
    have hsub := sub_enumerate
    have hT : Heap.IsTuple (Shared.heap ⟨hp, g, d, tk, os⟩) t xs := ⟨_, ht, rfl, n, rfl⟩
    wp_walk using wpAny_loadPart' ht
    refine wpAny_stack_any fun st => wpAny_pure ?_
    split
    · rename_i c _ _ _ _ _
      cases (c == Value.type "enumerate")
      · wp_walk using wpAny_loadPart' ht, wpAny_pyIter_tuple hT
        exact ⟨_, rfl, hh⟩
      · wp_walk using wpAny_loadPart' ht, wpAny_pyIter_tuple hT
        exact ⟨_, rfl, hh⟩
    · wp_walk using wpAny_loadPart' ht, wpAny_pyIter_tuple hT
      exact ⟨_, rfl, hh⟩
theorem ktEnumCall {prog : Program} {w : World} {A : Around} {E : Value → Shared → Prop} {s : Shared} {t : Addr} {xs : Array Value} {Q : Value → Shared → Prop} (hT : s.heap.IsTuple t xs)
    (k : ∀ u, IsEnum u (s.heap.objs.size + 1) s.heap.objs.size 0 .none → u.IsTupleIter s.heap.objs.size t 0 → (∀ b o, s.heap.get? b = some o → u.get? b = some o) → Q (.ref (s.heap.objs.size + 1)) { s with heap := u }) :
    wpAny (model prog w) A (call (.type "enumerate") [.ref t]) Q E s := by
  obtain ⟨⟨c, dct, dt, sl⟩, ht, hc, n, hd⟩ := hT
  replace hc : c = .type "tuple" := hc
  replace hd : dt = .seq xs n := hd
  subst hc hd
  refine callType_new F.called_enumerate (by decide) (F.typeCall_enumerate_1 _) (F.newCall_enumerate_1 _) (fun obj => F.args_object_init_2 obj _) F.entry_enumerate_new (ktEnumNew t xs n dct sl) ⟨ht, ?_⟩
  have hz : (s.heap.push (tupItO t)).objs.size = s.heap.objs.size + 1 := Heap.size_push ..
  show _ ∧ _
  rw [hz]
  have he : IsEnum ((s.heap.push (tupItO t)).push (enumO s.heap.objs.size)) (s.heap.objs.size + 1) s.heap.objs.size 0 .none := by
    have := Heap.get?_push_size (s.heap.push (tupItO t)) (o := enumO s.heap.objs.size) rfl
    rw [hz] at this
    exact this
  exact ⟨⟨_, he, rfl⟩, k _ he ⟨_, Heap.get?_push_of_some _ (Heap.get?_push_size _ rfl), rfl, rfl⟩ fun b o x => Heap.get?_push_of_some _ (Heap.get?_push_of_some _ x)⟩
end PySem
namespace KT
open PySem PySem.Spec PyProof.Rows L2 GxR
variable [GT]
/-- the tuple at a as it stands, each item in a new pair -/
def IteT (K : PySem.W.Frag) (a : Addr) : It where
  go := fun i H => ∃ (xs : List V) (x : V), SqT K H a xs ∧ xs[i]? = some x
  yld := fun i H v H' => ∃ T x, v = .ref T ∧ H T = none ∧ H' = upd H T (.tup [.int (i : Nat), x]) ∧ ∀ xs, SqT K H a xs → xs[i]? = some x
  stop := fun i H => ∃ xs : List V, SqT K H a xs ∧ xs.length ≤ i
theorem turn_enumT {P : Program} {w : World} {K : PySem.W.Frag} {elts : List Expr} {kk : Nat} {tpos : Pos} (a e it : Addr) :
    Turn P w K (.Tuple elts kk tpos) (IteT K a) [e, it] e (fun i h => (∃ old, IsEnum h e it ((i : Nat) : Int) old) ∧ h.IsTupleIter it a i ∧ e ≠ it ∧ a ≠ it ∧ a ≠ e) where
  mem := by simp
  obj := fun i h st b hb => by
    obtain ⟨⟨old, he⟩, ⟨o, ho, hc, hd⟩, _⟩ := st
    rcases (by simpa using hb : b = e ∨ b = it) with rfl | rfl
    · exact ⟨_, he, fun v q => nomatch q⟩
    · exact ⟨o, ho, fun v q => by rw [hd] at q; cases q⟩
  keep := fun i h h' st k => let ⟨⟨old, he⟩, hi, hne⟩ := st; ⟨⟨old, k e (by simp) _ he⟩, hi.at fun o q => k it (by simp) o q, hne⟩
  item := by
    intro X hP hw hK hc i pins s σ H E I hf st hg
    subst hP hw hK
    obtain ⟨⟨old, he⟩, hit, hne, hai, hae⟩ := st
    obtain ⟨xs, x, hq, hx⟩ := hg
    obtain ⟨its, rv, p, hz⟩ := I.tuple hq
    obtain ⟨u, hu, ru⟩ := rv.get hx
    have hel : e < s.heap.objs.size := Heap.lt_size he
    have hil : it < s.heap.objs.size := by obtain ⟨_, q, _⟩ := hit; exact Heap.lt_size q
    have hui : its.toArray[i]? = some u := by simpa using hu
    have hlt : i < its.toArray.size := (Array.getElem?_eq_some_iff.mp hui).1
    refine wpAny_pyNext_enum_itemD (Draws.tuple (A := X.A.in1) (show X.A.in1.handled = none from I.ok.hd hc) it a hai its.toArray) he ⟨hit, p⟩ hlt hne (by simp [hne, Ne.symm hae]) fun x' h' tk hx' ho hst' hT hsz hk => ?_
    have hxu : x' = u := by rw [hui] at hx'; exact (Option.some.inj hx').symm
    subst hxu
    refine ⟨_, rfl, wpAny_letOwnedTupleGo_enum (s := { s with heap := h', toks := tk + 1 }) ho fun h'' he' sb => ?_⟩
    have hT2 : h''.get? s.heap.objs.size = some { cls := .type "tuple", data := .seq #[.int i tk, x'] } := (sb.2 _ (Nat.ne_of_gt hel)).trans hT
    have new : ObjOk X.prog X.w (upd H s.heap.objs.size (.tup [.int (i : Nat), x])) h'' s.heap.objs.size (.tup [.int (i : Nat), x]) :=
      ⟨by show 2 ≤ sizeLine; decide, [.int i tk, x'], .cons ⟨_, rfl⟩ (.cons ru .nil), ⟨_, hT2, rfl, _, rfl⟩⟩
    have I1 : Inv X pins σ (upd H s.heap.objs.size (.tup [.int (i : Nat), x])) { s with heap := h'', toks := tk + 1 } :=
      I.turnedNew (ch := [e, it]) (fun b ob hb q => (sb.2 b (fun z => hb (by simp [z]))).trans (hk b ob (fun z => hb (by simp [z])) (fun z => hb (by simp [z])) q)) hf (Nat.le_refl _) new
    refine ⟨.ref s.heap.objs.size, _, I1, rfl, ⟨_, x, rfl, I.hok.fresh (Nat.le_refl _), rfl, fun ys hy => by rw [I.tuple_inj hy hq]; exact hx⟩, ⟨⟨x', ?_⟩, hst'.1.at fun o q => (sb.2 it (Ne.symm hne)).trans q, hne, hai, hae⟩, fun b hb => ?_⟩
    · rw [show ((i + 1 : Nat) : Int) = (i : Int) + 1 by omega]
      exact he'
    · have hb' : b < s.heap.objs.size := by
        rcases (by simpa using hb : b = e ∨ b = it) with rfl | rfl
        · exact hel
        · exact hil
      rw [upd_ne (Nat.ne_of_lt hb')]
      exact (hf b hb).1
  done := by
    intro X hP hw hK hc i pins s σ H E I hf st hg
    subst hP hw hK
    obtain ⟨⟨old, he⟩, hit, hne, hai, hae⟩ := st
    obtain ⟨xs, hq, hx⟩ := hg
    obtain ⟨its, rv, p, hz⟩ := I.tuple hq
    obtain ⟨f0, f1, f2, f3, f4, f5⟩ := hf it (by simp)
    have hl := rv.length
    have hn : its.toArray[i]? = none := by simp; omega
    have hT : s.TypeIs (.ref e) "enumerate" := ⟨_, he, rfl⟩
    unfold pyNext
    refine wpAny_bind (wpAny_attempt (wpAny_callSpecial?_slot (name := Str.ofString "__next__") hT F.slot_enumerate_next (wpAny_call_entry F.slot_enumerate_next hT F.entry_enumerate_next ?_ (F.args_enumerate_next_1 _))))
    show wpAny _ _ (field (.ref e) 2 >>= _) _ _ _
    refine wpAny_bind (wpAny_field he rfl (x := .ref it) rfl ?_)
    refine wpAny_bind (wpAny_nextOf_tuple_end (A := X.A.in1) (show X.A.in1.handled = none from I.ok.hd hc) hit p hn fun h' x eb hx' => ?_)
    obtain ⟨o, ho, hcl⟩ := hx'
    refine wpAny_bind (wpAny_isInstance (T := "StopIteration") (b := true) ⟨o, ho, hcl⟩ isSubtype_stop ?_)
    exact wpAny_pure ⟨rfl, I.turned (t' := s.toks) (fun b o hb q => eb b o hb q) f0 f1 f3 f4 f5⟩
  self := fun A i s Q E st h => let ⟨⟨_, he⟩, _⟩ := st; wpAny_pyIter_enum he h
def iEnumT (K : PySem.W.Frag) (ta : TA) : TI := fun σ H R => ta σ H fun vs H1 => ∃ a xs, vs = [.ref a] ∧ SqT K H1 a xs ∧ R (IteT K a) H1
theorem pi_enumT {X : Cx} {e : Expr} {ta : TA} {p pos tpos : Pos} {elts : List Expr} {kk : Nat} (hg : Gl X "enumerate") (hm : X.mg "enumerate" = none) (ha : PA X [e] ta) (hs : starEach [e] X.env = [(false, eval e X.env)] := by rfl) :
    PI X (.Tuple elts kk tpos) (.Call (.Name "enumerate" p) [e] [] pos) (iEnumT X.K ta) := by
  refine ⟨fun pins s σ H R I h => ?_⟩
  refine Call_ (ld_blt I hg hm boot_enumerate (PyProof.Rows.callWith_type1 (thn (ha.run pos pins s σ H _ I h) fun us s1 ⟨vs, H1, I1, r1, q1⟩ => ?_) hs rfl))
  obtain ⟨a, xs, ex, hq, q⟩ := q1
  subst ex
  cases r1 with
  | cons r rr =>
    cases rr
    cases r
    obtain ⟨its, rv, p', hz⟩ := I1.tuple hq
    have hal : a < s1.heap.objs.size := by obtain ⟨o, ho, _⟩ := p'; exact Heap.lt_size ho
    refine ktEnumCall (show s1.heap.IsTuple a its.toArray from p') fun u he hit hk => wpAny_pyIter_enum he ?_
    have I2 : Inv X pins σ H1 { s1 with heap := u } := I1.kept (t' := s1.toks) hk
    refine ⟨s1.heap.objs.size + 1, [s1.heap.objs.size + 1, s1.heap.objs.size], _, _, H1, rfl, I2, turn_enumT a (s1.heap.objs.size + 1) s1.heap.objs.size, ⟨⟨.none, he⟩, hit, Nat.succ_ne_self _, Nat.ne_of_lt hal, Nat.ne_of_lt (Nat.lt_succ_of_lt hal)⟩, fun b hb => ?_, q⟩
    have hle : s1.heap.objs.size ≤ b := by
      rcases (by simpa using hb : b = s1.heap.objs.size + 1 ∨ b = s1.heap.objs.size) with rfl | rfl <;> omega
    exact I1.fpOk hle (I1.hok.fresh hle)
/-- a loop over enumerate of a tuple -/
theorem for_enumT {K : PySem.W.Frag} {a : Addr} {xs : List V} {g : TG} {tb : TS} {D : Ends} {σ : L2.St} {H : Hp} (Pv : Nat → L2.St → Hp → Prop) (h0 : Pv 0 σ H) (hq : ∀ i σ H, Pv i σ H → SqT K H a xs)
    (hs : ∀ (i : Nat) (x : V) (T : Addr) (σ : L2.St) (H : Hp), xs[i]? = some x → Pv i σ H → H T = none → g (.ref T) σ (upd H T (.tup [.int (i : Nat), x])) fun σ2 H2 => tb { D with nx := Pv (i + 1), ct := Pv (i + 1), bk := D.nx } σ2 H2) (hd : ∀ σ H, Pv xs.length σ H → D.nx σ H) :
    ∃ W : Nat → Nat → L2.St → Hp → Prop, (∃ m, W 0 m σ H) ∧ ∀ i m σ H, W i m σ H →
      ((IteT K a).stop i H ∧ D.nx σ H) ∨ ((IteT K a).go i H ∧ ∃ N : L2.St → Hp → Prop, (∀ σ' H', N σ' H' → ∃ m', m' < m ∧ W (i + 1) m' σ' H') ∧ ∀ v H', (IteT K a).yld i H v H' → g v σ H' fun σ2 H2 => tb { D with nx := N, ct := N, bk := D.nx } σ2 H2) := by
  refine ⟨fun i m σ H => m = xs.length - i ∧ i ≤ xs.length ∧ Pv i σ H, ⟨_, rfl, Nat.zero_le _, h0⟩, ?_⟩
  rintro i m σ H ⟨rfl, hi, p⟩
  have q := hq i σ H p
  by_cases hlt : i < xs.length
  · refine .inr ⟨⟨xs, _, q, List.getElem?_eq_getElem hlt⟩, Pv (i + 1), fun σ' H' p' => ⟨_, by omega, rfl, hlt, p'⟩, ?_⟩
    rintro v H' ⟨T, x, rfl, hT, rfl, f⟩
    exact hs i x T σ H (f xs q) p hT
  · have e : i = xs.length := by omega
    subst e
    exact .inl ⟨⟨xs, q, Nat.le_refl _⟩, hd σ H p⟩
end KT
set_option Elab.async false
set_option linter.all false
set_option maxRecDepth 100000
set_option maxHeartbeats 4000000
namespace KT
open PySem PySem.Spec PyProof.Rows L2 GxR
variable [GT]
/-! ### tuples that may be keys or not -/
def actWords : List Str := ["break", "rub", "left", "right", "up", "down", "home", "end", "take", "lay"]
def actB : V → Bool
  | .str z => actWords.contains z
  | _ => false
inductive TupsAt (K : PySem.W.Frag) (H : Hp) : List Addr → List (List V) → Prop where
  | nil : TupsAt K H [] []
  | cons {a : Addr} {as : List Addr} {xs : List V} {xss : List (List V)} : SqT K H a xs → TupsAt K H as xss → TupsAt K H (a :: as) (xs :: xss)
/-- small values; one that stands alone is a number, or a word that is told of -/
def OddOk (K : PySem.W.Frag) (xs : List V) : Prop := (∀ x ∈ xs, smallV x) ∧ ∀ k, xs = [k] → ActIs K k (actB k)
def sp_bel (K : PySem.W.Frag) (okB : List V → Bool) : Sp := fun vs H Q _ => ∃ a xs, vs = [.ref a] ∧ SqT K H a xs ∧ OddOk K xs ∧ TabG H (tS K) ∧ ∀ H', Kq [] H H' → Q (.bl (okB xs)) H'
theorem num_len : ∀ i : Fin 101, (("no key for a tape at " : Str) ++ toString ((i.1 : Nat) : Int)).length ≤ 1000 := by decide +kernel
theorem num_small {i : Nat} (h : i ≤ 100) : ((i : Nat) : Int).natAbs.log2 < 1920 ∧ (("no key for a tape at " : Str) ++ toString ((i : Nat) : Int)).length ≤ sizeLine := by
  refine ⟨?_, Nat.le_trans (num_len ⟨i, by omega⟩) (by rw [sizeLine_eq]; decide)⟩
  rw [Int.natAbs_natCast]
  exact Nat.lt_of_le_of_lt (Nat.log2_le_self i) (by omega)
section
variable {P : Program} {w : World} {K : PySem.W.Frag} {mg : Str → Option Value} {base : Heap}
theorem TupsAt.kq {H H1 : Hp} {as : List Addr} {xss : List (List V)} (h : TupsAt K H as xss) (k : Kq [] H H1) : TupsAt K H1 as xss := by
  induction h with
  | nil => exact .nil
  | cons h _ ih => exact .cons (k.tup h) ih
theorem TupsAt.len {H : Hp} {as : List Addr} {xss : List (List V)} (h : TupsAt K H as xss) : as.length = xss.length := by
  induction h with
  | nil => rfl
  | cons _ _ ih => simp [ih]
theorem TupsAt.at_ {H : Hp} : ∀ {as : List Addr} {xss : List (List V)}, TupsAt K H as xss → ∀ {i : Nat} (h1 : i < as.length) (h2 : i < xss.length), SqT K H as[i] xss[i]
  | _, _, .cons h _, 0, _, _ => h
  | _, _, .cons _ t, i + 1, h1, h2 => TupsAt.at_ t (by simpa using h1) (by simpa using h2)
def sp_check_eachX (K : PySem.W.Frag) (fB : Addr) (okB : List V → Bool) : Sp := fun vs H Q E => ∃ a as xss m, vs = [.ref a, .int (m : Nat), .ref fB] ∧ SqT K H a (as.map V.ref) ∧ TupsAt K H as xss ∧ (∀ xs ∈ xss, OddOk K xs) ∧ xss.length ≤ 100 ∧ TabG H (tS K) ∧
  ((∀ i (h : i < xss.length), i < m ∧ okB xss[i] = true) → ∀ H', Kq [] H H' → Q .non H') ∧
  ∀ i (h : i < xss.length), (∀ j (hj : j < i), j < m ∧ okB (xss[j]'(by omega)) = true) → ¬ (i < m ∧ okB xss[i] = true) → ∀ d H1, Kq [] H H1 → H1 d = none → E (.ref (He.ga K "BadKeys")) (some d) (upd H1 d (.xd [("at", .int (i : Nat))]))
theorem sc_check_eachX : FnScope ["keys", "most", "belongs", "at", "key"] ["keys", "most", "belongs"] (defScope s_check_each) := ⟨rfl, rfl, rfl, by decide +kernel, rfl, by decide +kernel, by decide +kernel⟩
theorem ok_check_eachX (T : Tx w K mg) (hP : SupP P fileS) (fB : Addr) (okB : List V → Bool) (FB : Fk P w K mg base 5 fB ["key"] (sp_bel K okB)) : Fk P w K mg base 6 (Ad K d_check_each.at_) ["keys", "most", "belongs"] (sp_check_eachX K fB okB) := by
  refine mkF T.f_check_each sc_check_eachX rfl (fun _ _ _ _ _ _ us hl => match us, hl with | [_, _, _], _ => rfl) (fun vs H Q E h => by obtain ⟨_, _, _, _, rfl, _⟩ := h; rfl) (fun cdv A outer s H vs Q E hcd hcode hr h => ?_)
  have tk : Takes (CxD P w K mg base ["keys", "most", "belongs", "at", "key"] d_check_each cdv A outer s H E) (fun cls d _ H => E cls d H) := takes_of rfl rfl rfl rfl
  have po : PassesOwn (model P w) (CxD P w K mg base ["keys", "most", "belongs", "at", "key"] d_check_each cdv A outer s H E).A (CxD P w K mg base ["keys", "most", "belongs", "at", "key"] d_check_each cdv A outer s H E).env (CxD P w K mg base ["keys", "most", "belongs", "at", "key"] d_check_each cdv A outer s H E).xe := passes_of rfl
  refine ⟨_, (pss_one (ps_for po rfl (pi_enumT (by rfl) T.n_enumerate (pa_cons (pv 0) pa_nil)) (pg_tup rfl (pgs_cons (pg_name (i := 3) sc_check_eachX.nd rfl (.inl rfl)) (pgs_cons (pg_name (i := 4) sc_check_eachX.nd rfl (.inl rfl)) pgs_nil))) (pss_one (ps_if ((pw_or (pt_cmpR op_ge (pv 3) (pv 1) (nomark _)) (pw_or1 (pt_not (pt_val (pe_callV (i := 2) hr px (pa_cons (pv 4) pa_nil))))))).pt (pss_one (ps_raise rfl tk (pmk_BadKeys T hP rfl (hr.mono (by decide)) (pa_cons (pv 3) pa_nil)))) pss_nil)))), ?_⟩
  obtain ⟨a, as, xss, m, rfl, ha, hk, hok, h1000, hT, kQ, kE⟩ := h
  refine ⟨_, rfl, a, _, rfl, ha, ?_⟩
  refine for_enumT (K := K) (a := a) (xs := as.map V.ref) (fun i σ H' => Kq [] H H' ∧ (∀ j (h : j < xss.length), j < i → j < m ∧ okB xss[j] = true) ∧ ∃ v1 v2, σ = [some (.ref a), some (.int (m : Nat)), some (.ref fB), v1, v2]) ⟨Kq.refl, (fun j _ h => by omega), none, none, rfl⟩ (fun i σ H' z => z.1.tup ha) ?_ ?_
  · rintro i x Tq σ H' hx ⟨k1, hj, v1, v2, rfl⟩ nT
    have hi : i < as.length := by
      have := (List.getElem?_eq_some_iff.mp hx).1
      rwa [List.length_map] at this
    have hl := hk.len
    have hik : i < xss.length := by omega
    rw [List.getElem?_map, List.getElem?_eq_getElem hi] at hx
    cases hx
    have kT : Kq [] H' (upd H' Tq (.tup [.int (i : Nat), .ref as[i]])) := Kq.alloc nT
    have k2 := k1.trans kT
    have hki := (hk.kq k2).at_ hi hik
    have kok := hok _ (List.getElem_mem hik)
    have bad : ∀ (H3 : Hp), Kq [] H H3 → ¬ (i < m ∧ okB xss[i] = true) → ∀ d, H3 d = none → E (.ref (He.ga K "BadKeys")) (some d) (upd H3 d (.xd [("at", .int (i : Nat))])) := fun H3 k3 hn d nd => kE i hik (fun j hji => hj j (by omega) hji) hn d H3 k3 nd
    have small : ((i : Nat) : Int).natAbs.log2 < 1920 ∧ (("no key for a tape at " : Str) ++ toString ((i : Nat) : Int)).length ≤ sizeLine := num_small (by omega)
    refine ⟨Tq, _, rfl, SqT.of upd_same, rfl, _, _, rfl, _, _, rfl, rfl, ?_⟩
    refine ⟨_, rfl, _, rfl, _, _, rfl, rfl, _, rfl, iteD (fun h => ?_) (fun hlt => ?_)⟩
    · refine ⟨_, rfl, mk_sup rfl small.1 small.2 fun d nd => bad _ k2 (by omega) d nd⟩
    · refine ⟨_, _, _, rfl, FB, _, rfl, as[i], xss[i], rfl, hki, kok, k2.tab _ hT, fun H3 k3 => ⟨_, rfl, ?_⟩⟩
      cases hb : okB xss[i] with
      | true => exact iteF ⟨k2.trans k3, (fun j h hji => by
          by_cases e : j = i
          · subst e; exact ⟨by omega, hb⟩
          · exact hj j h (by omega)), _, _, rfl⟩
      | false =>
        refine iteT ⟨_, rfl, mk_sup rfl small.1 small.2 fun d nd => bad _ (k2.trans k3) (by rw [hb]; simp) d nd⟩
  · rintro σ H' ⟨k1, hj, v1, v2, rfl⟩
    refine kQ (fun i h => hj i h ?_) H' k1
    rw [List.length_map, hk.len]; exact h
theorem bel_key (T : Tx w K mg) (B : TabB base mg (cS K) (tS K)) : Fk P w K mg base 3 (Ad K d_is_key.at_) ["key"] (sp_bel K (keyB actB)) := by
  have F := ok_is_key (P := P) (base := base) T B
  refine ⟨F.ok.imp fun vs H Q E h => ?_, F.b, F.kp⟩
  obtain ⟨a, xs, rfl, ha, ⟨hs, hact⟩, hT, kQ⟩ := h
  exact ⟨a, xs, actB, rfl, ha, hs, hT, hact, kQ⟩
/-- what is told of words that stand alone -/
theorem Tx.noAct (T : Tx w K mg) {z : Str} (h : z ∈ noWords) : ActIs K (.str z) false :=
  .inl ⟨z, none, rfl, He.eqO_ok (List.all_eq_true.mp T.noActs z h), rfl⟩
/-- any word that stands alone -/
theorem Tx.anyAct (T : Tx w K mg) (z : Str) : ActIs K (.str z) (actB (.str z)) := by
  obtain ⟨r, h1, h2⟩ := keysAre_ok T.keysAre z
  exact .inl ⟨z, r, rfl, h1, h2.symm⟩
theorem act_num {i : Int} : ActIs K (.int i) false := .inr ⟨i, rfl, rfl⟩
end
end KT
set_option Elab.async false
set_option linter.all false
set_option maxRecDepth 100000
set_option maxHeartbeats 4000000
namespace KT
open PySem PySem.Spec PyProof.Rows L2 GxR
variable [GT]
theorem ite_yesO {b : Bool} {A B : Prop} (h : b = true) (ha : A) : if b = true then A else B := by rw [if_pos h]; exact ha
theorem ite_noO {b : Bool} {A B : Prop} (h : b = false) (hb : B) : if b = true then A else B := by rw [h, if_neg (by decide)]; exact hb
section
variable {P : Program} {w : World} {K : PySem.W.Frag} {mg : Str → Option Value} {base : Heap}
/-- what refusing checks of tapes promise: m at most, the first that isn't okB refused -/
def sp_chkX (K : PySem.W.Frag) (m : Nat) (okB : List V → Bool) : Sp := fun vs H Q E => ∃ a as xss, vs = [.ref a] ∧ SqT K H a (as.map V.ref) ∧ TupsAt K H as xss ∧ (∀ xs ∈ xss, OddOk K xs) ∧ xss.length ≤ 100 ∧ TabG H (tS K) ∧
  ((∀ i (h : i < xss.length), i < m ∧ okB xss[i] = true) → ∀ H', Kq [] H H' → Q .non H') ∧
  ∀ i (h : i < xss.length), (∀ j (hj : j < i), j < m ∧ okB (xss[j]'(by omega)) = true) → ¬ (i < m ∧ okB xss[i] = true) → ∀ d H1, Kq [] H H1 → H1 d = none → E (.ref (He.ga K "BadKeys")) (some d) (upd H1 d (.xd [("at", .int (i : Nat))]))
theorem sc_check_keysX : FnScope ["keys"] ["keys"] (defScope s_check_keys) := ⟨rfl, rfl, rfl, by decide +kernel, rfl, by decide +kernel, by decide +kernel⟩
theorem ok_check_keysX (T : Tx w K mg) (hP : SupP P fileS) (B : TabB base mg (cS K) (tS K)) : Fk P w K mg base 8 (Ad K d_check_keys.at_) ["keys"] (sp_chkX K 30 (keyB actB)) := by
  obtain ⟨t_MOST_KEYS, h_MOST_KEYS⟩ := T.i_MOST_KEYS
  have F_check_eachX := ok_check_eachX (P := P) (base := base) T hP (Ad K d_is_key.at_) (keyB actB) ((bel_key (P := P) (base := base) T B).mono (by decide))
  refine mkF T.f_check_keys sc_check_keysX rfl (fun _ _ _ _ _ _ us hl => match us, hl with | [_], _ => rfl) (fun vs H Q E h => by obtain ⟨_, _, _, rfl, _⟩ := h; rfl) (fun cdv A outer s H vs Q E hcd hcode hr h => ?_)
  refine ⟨_, (pss_one (ps_expr (pe_cF F_check_eachX (hr.mono (by decide)) T.g_check_each px (pa_cons (pv 0) (pa_cons (pe_glob (v := .int 30) (by rfl) h_MOST_KEYS ⟨_, rfl⟩) (pa_cons (pe_glob (v := .ref (Ad K d_is_key.at_)) rfl T.g_is_key rfl) pa_nil)))))), ?_⟩
  obtain ⟨a, as, xss, rfl, ha, hk, hok, h100, hT, kQ, kE⟩ := h
  exact ⟨_, rfl, a, as, xss, 30, rfl, ha, hk, hok, h100, hT, kQ, kE⟩
end
/-! ### the first that doesn't belong -/
def firstBad (m : Nat) (okB : List V → Bool) : Nat → List (List V) → Option Nat
  | _, [] => none
  | i, xs :: r => if i < m ∧ okB xs = true then firstBad m okB (i + 1) r else some i
theorem firstBad_none {m : Nat} {okB : List V → Bool} : ∀ (i : Nat) (xss : List (List V)), firstBad m okB i xss = none → ∀ j (h : j < xss.length), i + j < m ∧ okB xss[j] = true
  | _, [], _, j, h => by simp at h
  | i, xs :: r, e, j, h => by
    have e : (if i < m ∧ okB xs = true then firstBad m okB (i + 1) r else some i) = none := e
    split at e
    · rename_i z
      cases j with
      | zero => exact z
      | succ j =>
        have := firstBad_none (i + 1) r e j (by simpa using h)
        exact ⟨by omega, this.2⟩
    · cases e
theorem firstBad_some {m : Nat} {okB : List V → Bool} : ∀ (i : Nat) (xss : List (List V)) (k : Nat), firstBad m okB i xss = some k → ∃ j, ∃ h : j < xss.length, k = i + j ∧ (∀ l (hl : l < j), i + l < m ∧ okB (xss[l]'(by omega)) = true) ∧ ¬ (i + j < m ∧ okB xss[j] = true)
  | _, [], _, e => by cases e
  | i, xs :: r, k, e => by
    have e : (if i < m ∧ okB xs = true then firstBad m okB (i + 1) r else some i) = some k := e
    split at e
    · rename_i z
      obtain ⟨j, h, e1, h2, h3⟩ := firstBad_some (i + 1) r k e
      refine ⟨j + 1, by simpa using h, by omega, fun l hl => ?_, fun q => h3 ⟨by omega, q.2⟩⟩
      cases l with
      | zero => exact z
      | succ l =>
        have := h2 l (by omega)
        exact ⟨by omega, this.2⟩
    · rename_i z
      exact ⟨0, by simp, by injection e with e; omega, fun l hl => by omega, z⟩
theorem firstBad_of {m : Nat} {okB : List V → Bool} : ∀ (i : Nat) (xss : List (List V)), (∀ j (h : j < xss.length), i + j < m ∧ okB xss[j] = true) → firstBad m okB i xss = none
  | _, [], _ => rfl
  | i, xs :: r, h => by
    show (if i < m ∧ okB xs = true then firstBad m okB (i + 1) r else some i) = none
    rw [if_pos (show i < m ∧ okB xs = true from h 0 (by simp))]
    refine firstBad_of (i + 1) r fun j hj => ?_
    have := h (j + 1) (by simpa using hj)
    exact ⟨by omega, this.2⟩
/-- keys as tuples of values -/
theorem KeysAt.tups {K : PySem.W.Frag} {H : Hp} {as : List Addr} {ks : List Ky} (h : KeysAt K H as ks) : TupsAt K H as (ks.map keyV) := by
  induction h with
  | nil => exact .nil
  | cons g _ ih => exact .cons g ih
end KT
set_option Elab.async false
set_option linter.all false
set_option maxRecDepth 100000
set_option maxHeartbeats 4000000
namespace KT
open PySem PySem.Spec PyProof.Rows L2 GxR
variable [GT]
/-! ### tuples of tuples of values, and the first that doesn't belong -/
theorem firstBad_at {m : Nat} {okB : List V → Bool} : ∀ (s : Nat) (xss : List (List V)) (i : Nat) (h : i < xss.length), (∀ j (hj : j < i), s + j < m ∧ okB (xss[j]'(by omega)) = true) → ¬ (s + i < m ∧ okB xss[i] = true) → firstBad m okB s xss = some (s + i)
  | _, [], _, h, _, _ => by simp at h
  | s, xs :: r, 0, h, _, hn => by
    show (if s < m ∧ okB xs = true then firstBad m okB (s + 1) r else some s) = _
    rw [if_neg (show ¬ (s < m ∧ okB xs = true) from hn)]; rfl
  | s, xs :: r, i + 1, h, hj, hn => by
    show (if s < m ∧ okB xs = true then firstBad m okB (s + 1) r else some s) = _
    rw [if_pos (show s < m ∧ okB xs = true from hj 0 (by omega))]
    rw [firstBad_at (s + 1) r i (by simpa using h) (fun j hji => by
      have := hj (j + 1) (by omega)
      exact ⟨by omega, this.2⟩) (fun z => hn ⟨by omega, z.2⟩)]
    congr 1; omega
theorem firstBad_app {m : Nat} {okB : List V → Bool} : ∀ (s : Nat) (l r : List (List V)), (∀ i (h : i < l.length), s + i < m ∧ okB l[i] = true) → firstBad m okB s (l ++ r) = firstBad m okB (s + l.length) r
  | _, [], _, _ => rfl
  | s, xs :: l, r, h => by
    show (if s < m ∧ okB xs = true then firstBad m okB (s + 1) (l ++ r) else some s) = _
    rw [if_pos (show s < m ∧ okB xs = true from h 0 (by simp)), firstBad_app (s + 1) l r (fun i hi => by
      have := h (i + 1) (by simpa using hi)
      exact ⟨by omega, this.2⟩)]
    congr 1
    show s + 1 + l.length = s + (l.length + 1)
    omega
theorem tups_keys {K : PySem.W.Frag} {H : Hp} : ∀ {as : List Addr} {ks : List Ky}, TupsAt K H as (ks.map keyV) → KeysAt K H as ks
  | [], [], _ => .nil
  | a :: as, k :: ks, h => by
    cases h with
    | cons h r => exact .cons h (tups_keys r)
/-- a tuple of tuples of values -/
def TpAt (K : PySem.W.Frag) (H : Hp) (a : Addr) (xss : List (List V)) : Prop := ∃ as : List Addr, SqT K H a (as.map V.ref) ∧ TupsAt K H as xss
def OddsOk (K : PySem.W.Frag) (xss : List (List V)) : Prop := (∀ xs ∈ xss, OddOk K xs) ∧ xss.length ≤ 100
theorem TpAt.kq {K : PySem.W.Frag} {H H1 : Hp} {a : Addr} {xss : List (List V)} (h : TpAt K H a xss) (k : Kq [] H H1) : TpAt K H1 a xss := by
  obtain ⟨as, h1, h2⟩ := h
  exact ⟨as, k.tup h1, h2.kq k⟩
theorem TupsAt.kfX {K : PySem.W.Frag} {H H1 : Hp} {S : List Addr} {as : List Addr} {xss : List (List V)} (h : TupsAt K H as xss) (k : Kf S H H1) : TupsAt K H1 as xss := by
  induction h with
  | nil => exact .nil
  | cons h _ ih => exact .cons (k.tup h) ih
theorem TpAt.kf {K : PySem.W.Frag} {H H1 : Hp} {S : List Addr} {a : Addr} {xss : List (List V)} (h : TpAt K H a xss) (k : Kf S H H1) : TpAt K H1 a xss := by
  obtain ⟨as, h1, h2⟩ := h
  exact ⟨as, k.tup h1, h2.kfX k⟩
theorem TapeAt.tp {K : PySem.W.Frag} {H : Hp} {a : Addr} {ks : List Ky} (h : TapeAt K H a ks) : TpAt K H a (ks.map keyV) := by
  obtain ⟨as, h1, h2⟩ := h
  exact ⟨as, h1, h2.tups⟩
theorem TupsAt.app {K : PySem.W.Frag} {H : Hp} {as bs : List Addr} {xss yss : List (List V)} (h : TupsAt K H as xss) (g : TupsAt K H bs yss) : TupsAt K H (as ++ bs) (xss ++ yss) := by
  induction h with
  | nil => exact g
  | cons h _ ih => exact .cons h ih
theorem TupsAt.take {K : PySem.W.Frag} {H : Hp} : ∀ {as : List Addr} {xss : List (List V)} (n : Nat), TupsAt K H as xss → TupsAt K H (as.take n) (xss.take n)
  | _, _, 0, _ => .nil
  | [], [], _ + 1, .nil => .nil
  | _ :: _, _ :: _, n + 1, .cons h r => .cons h (TupsAt.take n r)
theorem TupsAt.drop {K : PySem.W.Frag} {H : Hp} : ∀ {as : List Addr} {xss : List (List V)} (n : Nat), TupsAt K H as xss → TupsAt K H (as.drop n) (xss.drop n)
  | _, _, 0, h => h
  | [], [], _ + 1, .nil => .nil
  | _ :: _, _ :: _, n + 1, .cons _ r => TupsAt.drop n r
theorem TupsAt.rep {K : PySem.W.Frag} {H : Hp} {a : Addr} {xs : List V} (h : SqT K H a xs) : ∀ n : Nat, TupsAt K H (List.replicate n a) (List.replicate n xs)
  | 0 => .nil
  | n + 1 => .cons h (TupsAt.rep h n)
def badKD (i : Nat) : PyData := .tuple [.str "BadKeys", .int (i : Int)]
theorem dp_badK {K : PySem.W.Frag} {H : Hp} {p : Addr} {i : Nat} (h : SqT K H p [.str "BadKeys", .int (i : Nat)]) : Dp K H (.ref p) (badKD i) := .tup h (.cons (.str _) (.cons (.int _) .nil))
theorem shaped_badK (i : Nat) : SeqAt.shaped (badKD i) = true := by
  have w0 : PyData.strOk "BadKeys" = true := by decide +kernel
  simp [SeqAt.shaped, badKD, PyData.canLayAll0, PyData.canLay0, PyData.depth, PyData.depthAll, w0]
theorem eqv_badK (i : Nat) : PyData.eqv (badKD i) (badKD i) = true := SeqAt.eqv_refl _ (SeqAt.canLay_of_shaped (shaped_badK i))
theorem flat_rep1 {α : Type} (x : α) : ∀ n : Nat, (List.replicate n [x]).flatten = List.replicate n x
  | 0 => rfl
  | n + 1 => by rw [List.replicate_succ, List.flatten_cons, flat_rep1 x n]; rfl
section
variable {P : Program} {w : World} {K : PySem.W.Frag} {mg : Str → Option Value} {base : Heap}
theorem oddOk_keyA (T : Tx w K mg) {k : Ky} (h : k.Ok) : OddOk K (keyV k) := ⟨keyV_small h, fun v e => by
  have hs := keyV_small h v (by rw [e]; simp)
  cases v with
  | str z => exact T.anyAct z
  | int i => exact act_num
  | _ => exact hs.elim⟩
end
end KT
set_option Elab.async false
set_option linter.all false
set_option maxRecDepth 100000
set_option maxHeartbeats 4000000
namespace KT
open PySem PySem.Spec PyProof.Rows L2 GxR
variable [GT]
section
variable {P : Program} {w : World} {K : PySem.W.Frag} {mg : Str → Option Value} {base : Heap}
/-- what a def of the player that plays comes to: long, or whether all fits -/
def spRes (K : PySem.W.Frag) (H : Hp) (x t y : Addr) (tp : Nat → List Ky) (r : Res) (Q : VK) (E : XK) : Prop :=
  (r = .long → ∀ H', Kf [x, y] H H' → E (.ref (He.ga K "TooLong")) none H') ∧ ∀ b st' H', r = .fin b st' → Kf [x, y] H H' → PlAt K H' x t y tp st' → st'.things ≤ 400 → Q (.bl b) H'
theorem spRes.pre {H H1 : Hp} {x t y : Addr} {tp : Nat → List Ky} {r : Res} {Q : VK} {E : XK} (h : spRes K H x t y tp r Q E) (k : Kf [x, y] H H1) : spRes K H1 x t y tp r Q E :=
  ⟨fun e H' k' => h.1 e H' (k.trans k'), fun b st' H' e k' a l => h.2 b st' H' e (k.trans k') a l⟩
theorem spRes.eq {H : Hp} {x t y : Addr} {tp : Nat → List Ky} {r r' : Res} {Q : VK} {E : XK} (h : spRes K H x t y tp r Q E) (e : r = r') : spRes K H x t y tp r' Q E := e ▸ h
def sp_do (K : PySem.W.Frag) (d : Nat) : Sp := fun vs H Q E => ∃ x t y tp st a ky, vs = [.ref x, .ref a, .int ((20 : Int) - (d : Int))] ∧ PlAt K H x t y tp st ∧ st.things ≤ 400 ∧ d ≤ 20 ∧ KeyAt K H a ky ∧ ky.Ok ∧ spRes K H x t y tp (doK tp d ky st) Q E
/-- the def under a play at d others -/
def sp_once (K : PySem.W.Frag) : Nat → Sp
  | 0 => fun _ _ _ _ => False
  | d + 1 => fun vs H Q E => ∃ x t y tp st n, vs = [.ref x, .str (nameS n), .int ((20 : Int) - (d : Int))] ∧ n < 8 ∧ PlAt K H x t y tp st ∧ st.things ≤ 400 ∧ d ≤ 20 ∧ spRes K H x t y tp (once (doK tp d) (tp n) st) Q E
def sp_play (K : PySem.W.Frag) (d : Nat) : Sp := fun vs H Q E => ∃ x t y tp st n m, vs = [.ref x, .str (nameS n), .int (m : Nat), .int ((20 : Int) - (d : Int))] ∧ n < 8 ∧ m ≤ 9 ∧ PlAt K H x t y tp st ∧ st.things ≤ 400 ∧ d ≤ 20 ∧ spRes K H x t y tp (playR tp (under tp d) (.play n m) st) Q E
def sp_till (K : PySem.W.Frag) (d : Nat) : Sp := fun vs H Q E => ∃ x t y tp st n, vs = [.ref x, .str (nameS n), .int ((20 : Int) - (d : Int))] ∧ n < 8 ∧ PlAt K H x t y tp st ∧ st.things ≤ 400 ∧ d ≤ 20 ∧ spRes K H x t y tp (playR tp (under tp d) (.till n) st) Q E
theorem sc_Player_do : FnScope ["self", "key", "around", "behind"] ["self", "key", "around"] (defScope s_Player_do) := ⟨rfl, rfl, rfl, by decide +kernel, rfl, by decide +kernel, by decide +kernel⟩
theorem ok_Player_do (T : Tx w K mg) {d k : Nat} (hk : 6 ≤ k) (F_Player_play : Fk P w K mg base k (Ad K d_Player_play.at_) ["self", "name", "many", "around"] (sp_play K d)) (F_Player_play_till : Fk P w K mg base k (Ad K d_Player_play_till.at_) ["self", "name", "around"] (sp_till K d)) : Fk P w K mg base (k + 1) (Ad K d_Player_do.at_) ["self", "key", "around"] (sp_do K d) := by
  have F_Player_add_thing := ok_Player_add_thing (P := P) (base := base) T
  have F_page_behind := ok_page_behind (P := P) (base := base) T
  refine mkF T.f_Player_do sc_Player_do rfl (fun _ _ _ _ _ _ us hl => match us, hl with | [_, _, _], _ => rfl) (fun vs H Q E h => by obtain ⟨_, _, _, _, _, _, _, rfl, _⟩ := h; rfl) (fun cdv A outer s H vs Q E hcd hcode hr h => ?_)
  refine ⟨_, (pss_cons (ps_expr (pe_mF0 _ (pv 0) T.c_Player T.m_Player_add_thing F_Player_add_thing (hr.mono (by omega)) px))
      (pss_cons (ps_if (pt_cmpR op_eq (pe_ix ix_tup (pv 1) pe_int (fun _ _ => rfl)) pe_str (nomark _)) (pss_one (ps_ret (pe_mF _ (pv 0) T.c_Player T.m_Player_play F_Player_play hr px (pa_cons (pe_ix ix_tup (pv 1) pe_int (fun _ _ => rfl)) (pa_cons (pe_ix ix_tup (pv 1) pe_int (fun _ _ => rfl)) (pa_cons (pv 2) pa_nil)))))) pss_nil)
      (pss_cons (ps_if (pt_cmpR op_eq (pe_ix ix_tup (pv 1) pe_int (fun _ _ => rfl)) pe_str (nomark _)) (pss_one (ps_ret (pe_mF _ (pv 0) T.c_Player T.m_Player_play_till F_Player_play_till hr px (pa_cons (pe_ix ix_tup (pv 1) pe_int (fun _ _ => rfl)) (pa_cons (pv 2) pa_nil))))) pss_nil)
      (pss_cons (ps_asg (pe_cF F_page_behind (hr.mono (by omega)) T.g_page_behind px (pa_cons (pe_fld (pv 0) rfl) (pa_cons (pv 1) pa_nil))) (pg_name (i := 3) sc_Player_do.nd rfl (.inl rfl)))
      (pss_cons (ps_if (pt_cmpR op_isN (pv 3) pe_non (nomark _)) (pss_one (ps_ret pe_bl)) pss_nil)
      (pss_cons (ps_fld (pv 0) (pv 3) rfl)
      (pss_cons (ps_expr (pe_bm PySem.F.plainAttrs_list PySem.F.slot_list_append PySem.F.type_list_append mt_append (pe_fld (pv 0) rfl) (pa_cons (pv 1) pa_nil)))
      (pss_one (ps_ret pe_bl))))))))), ?_⟩
  obtain ⟨x, t, y, tp, st, a, ky, rfl, hP, h4, hd, hk', kok, hres⟩ := h
  rw [doK_eq] at hres
  obtain ⟨dx0, p0, as0, g1, _⟩ := hP.ex
  refine ⟨_, rfl, x, _, _, rfl, g1, playerF_no_add _ _ _ _, x, t, y, tp, st, rfl, hP, h4, fun st1 H1 e1 k1 hP1 => ?_, fun H1 e1 k1 => ?_⟩
  rotate_left
  · rw [e1] at hres
    exact hres.1 rfl H1 k1
  rw [e1] at hres
  obtain ⟨ep, et, en, e400⟩ := addT_some e1
  have hka := k1.key hk'
  have hres1 : spRes K H1 x t y tp (playR tp (under tp d) ky st1) Q E := hres.pre k1
  obtain ⟨dx1, p1, as1, g2, gp, gy, gk⟩ := hP1.ex
  -- what a single key comes to
  have single : ky.single = true → playR tp (under tp d) ky st1 = singleR ky st1 → tSeq (tAsg (tCF (sp_page_behind K) E (tCons (tFld K (tVar 0) "page") (tCons (tVar 1) tNil))) (gName 3))
      (tSeq (tIfS (tTest (tOp (fun x y H Q => y = V.non ∧ Q (.bl (decide (x = .non))) H) (tVar 3) (tC .non))) (tRet (tC (.bl false))) tNext)
        (tSeq (sFld K (tVar 0) (tVar 3) "page") (tSeq (tDrop (tBM K "list" rAppend (tFld K (tVar 0) "typed") (tCons (tVar 1) tNil))) (tRet (tC (.bl true))))))
      { nx := fun _ H' => Q .non H', rt := Q } [some (.ref x), some (.ref a), some (.int ((20 : Int) - (d : Int))), none] H1 := by
    intro hsg hpr
    rw [hpr] at hres1
    refine ⟨_, rfl, x, _, dx1, _, _, rfl, g2, T.c_Player, T.a_Player_page, playerF_page _ _ _ _, _, rfl, p1, a, st1.page, ky, rfl, gp, hP1.ok, hka, kok, hsg, fun H2 k2 e2 => ?_, fun q H2 g' k2 e2 hq => ?_⟩
    · refine ⟨_, rfl, rfl, _, rfl, iteT ?_⟩
      refine hres1.2 false st1 H2 ?_ (Kf.of k2 hP1.wr) (hP1.kq k2) (by omega)
      unfold singleR; rw [e2]
    · refine ⟨_, rfl, rfl, _, rfl, iteF ?_⟩
      have hP2 := hP1.kq k2
      have hw2 := hP2.wr
      have g3 := k2.get g2
      have gy3 := k2.get gy
      have nyx : y ≠ x := fun e => by rw [e, g3] at gy3; cases gy3
      refine ⟨_, rfl, _, rfl, x, _, dx1, _, rfl, g3, T.c_Player, T.a_Player_page, (by show 4 < 1000; decide), ?_⟩
      rw [playerF_put_page]
      have kw := Kf.write (S := [x, y]) (o := .ins (He.ga K "Player") dx1 (playerF q t y st1.things)) g3 (by simp) (mut_player _ _ _ _ _ _) hw2
      have g4 : (upd H2 x (.ins (He.ga K "Player") dx1 (playerF q t y st1.things))) x = some (.ins (He.ga K "Player") dx1 (playerF q t y st1.things)) := upd_same
      have gy4 : (upd H2 x (.ins (He.ga K "Player") dx1 (playerF q t y st1.things))) y = some (.lst (as1.map V.ref)) := (upd_ne nyx).trans gy3
      generalize (upd H2 x (.ins (He.ga K "Player") dx1 (playerF q t y st1.things))) = H3 at kw g4 gy4 ⊢
      refine ⟨_, rfl, x, _, dx1, _, _, rfl, g4, T.c_Player, T.a_Player_typed, playerF_typed _ _ _ _, .inl ⟨rfl, _, SqL.of gy4⟩, _, rfl, y, _, _, rfl, rfl, gy4, ?_, ?_⟩
      · have := gk.len
        have h1 := hP1.small
        have h2 := hP1.low
        rw [List.length_map]
        exact small1000 (by omega)
      have kw2 := Kf.write (S := [x, y]) (o := .lst (as1.map V.ref ++ [V.ref a])) gy4 (by simp) rfl kw.w'
      have kk : Kf [x, y] H1 (upd H3 y (.lst (as1.map V.ref ++ [V.ref a]))) := (Kf.of k2 hP1.wr).trans (kw.trans kw2)
      refine hres1.2 true ⟨g', st1.typed ++ [ky], st1.things⟩ _ ?_ kk ⟨⟨dx1, q, as1 ++ [a], (upd_ne (Ne.symm nyx)).trans g4, (kw.trans kw2).page hq, ?_, (kk.keys gk).snoc (kk.key hka)⟩, kk.tapes hP1.tapes hP1.nt, hP1.tok, kk.q.tab _ hP1.sign, does_ok hP1.ok kok e2, ?_, hP1.low⟩ (by show st1.things ≤ 400; omega)
      · unfold singleR; rw [e2]
      · rw [upd_same, List.map_append]; rfl
      · show (st1.typed ++ [ky]).length ≤ st1.things
        rw [List.length_append, et]
        have := hP.small
        simp only [List.length_cons, List.length_nil]
        omega
  cases ky with
  | play n m =>
    refine ⟨_, rfl, a, _, _, _, rfl, rfl, hka, rfl, rfl, _, rfl, iteD (fun _ => ?_) (fun h => absurd rfl h)⟩
    have h1 : n < 8 := kok.1
    have h2 : m ≤ 9 := kok.2.2
    exact ⟨_, rfl, x, _, _, rfl, g2, playerF_no_play _ _ _ _, _, rfl, a, _, _, _, rfl, rfl, hka, rfl, _, rfl, a, _, _, _, rfl, rfl, hka, rfl, _, rfl, x, t, y, tp, st1, n, m, rfl, h1, h2, hP1, by omega, hd, hres1⟩
  | till n =>
    refine ⟨_, rfl, a, _, _, _, rfl, rfl, hka, rfl, rfl, _, rfl, iteD (fun h => absurd h (by decide +kernel)) (fun _ => ?_)⟩
    refine ⟨_, rfl, a, _, _, _, rfl, rfl, hka, rfl, rfl, _, rfl, iteD (fun _ => ?_) (fun h => absurd rfl h)⟩
    exact ⟨_, rfl, x, _, _, rfl, g2, playerF_no_till _ _ _ _, _, rfl, a, _, _, _, rfl, rfl, hka, rfl, _, rfl, x, t, y, tp, st1, n, rfl, kok, hP1, by omega, hd, hres1⟩
  | _ =>
    refine ⟨_, rfl, a, _, _, _, rfl, rfl, hka, rfl, rfl, _, rfl, iteD (fun h => absurd h (by decide +kernel)) (fun _ => ?_)⟩
    refine ⟨_, rfl, a, _, _, _, rfl, rfl, hka, rfl, rfl, _, rfl, iteD (fun h => absurd h (by decide +kernel)) (fun _ => ?_)⟩
    exact single rfl rfl
theorem sc_Player_play_once : FnScope ["self", "name", "around", "key"] ["self", "name", "around"] (defScope s_Player_play_once) := ⟨rfl, rfl, rfl, by decide +kernel, rfl, by decide +kernel, by decide +kernel⟩
theorem ok_Player_play_once (T : Tx w K mg) {d k : Nat} (hk : 6 ≤ k) (F_Player_do : Fk P w K mg base k (Ad K d_Player_do.at_) ["self", "key", "around"] (sp_do K d)) : Fk P w K mg base (k + 1) (Ad K d_Player_play_once.at_) ["self", "name", "around"] (sp_once K (d + 1)) := by
  have F_Player_add_thing := ok_Player_add_thing (P := P) (base := base) T
  refine mkF T.f_Player_play_once sc_Player_play_once rfl (fun _ _ _ _ _ _ us hl => match us, hl with | [_, _, _], _ => rfl) (fun vs H Q E h => by obtain ⟨_, _, _, _, _, _, rfl, _⟩ := h; rfl) (fun cdv A outer s H vs Q E hcd hcode hr h => ?_)
  have po : PassesOwn (model P w) (CxD P w K mg base ["self", "name", "around", "key"] d_Player_play_once cdv A outer s H E).A (CxD P w K mg base ["self", "name", "around", "key"] d_Player_play_once cdv A outer s H E).env (CxD P w K mg base ["self", "name", "around", "key"] d_Player_play_once cdv A outer s H E).xe := passes_of rfl
  refine ⟨_, (pss_cons (ps_expr (pe_mF0 _ (pv 0) T.c_Player T.m_Player_add_thing F_Player_add_thing (hr.mono (by omega)) px))
      (pss_cons (ps_for po rfl (pi_tup (pe_dget (hu_of hr) (pe_fld (pv 0) rfl) (pv 1) (fun _ _ => rfl))) (pg_name (i := 3) sc_Player_play_once.nd rfl (.inl rfl)) (pss_one (ps_if (pt_not (pt_val (pe_mF _ (pv 0) T.c_Player T.m_Player_do F_Player_do hr px (pa_cons (pv 3) (pa_cons (pv 2) pa_nil))))) (pss_one (ps_ret pe_bl)) pss_nil)))
      (pss_one (ps_ret pe_bl)))), ?_⟩
  obtain ⟨x, t, y, tp, st, n, rfl, hn, hP, h4, hd, hres⟩ := h
  obtain ⟨dx0, p0, as0, g1, _⟩ := hP.ex
  unfold once at hres
  refine ⟨_, rfl, x, _, _, rfl, g1, playerF_no_add _ _ _ _, x, t, y, tp, st, rfl, hP, h4, fun st1 H1 e1 k1 hP1 => ?_, fun H1 e1 k1 => ?_⟩
  rotate_left
  · rw [e1] at hres
    exact hres.1 rfl H1 k1
  rw [e1] at hres
  obtain ⟨ep, et, en, e400⟩ := addT_some e1
  have hres1 : spRes K H1 x t y tp (keysR (doK tp d) (tp n) st1) Q E := hres.pre k1
  obtain ⟨dx1, p1, as1, g2, gp, gy, gk⟩ := hP1.ex
  obtain ⟨kvs, ht1, hnm, hall⟩ := hP1.tapes
  obtain ⟨ta, hta, as, hsq, hks⟩ := hall n hn
  have hlen := hks.len
  refine ⟨_, rfl, x, _, dx1, _, _, rfl, g2, T.c_Player, T.a_Player_tapes, playerF_tapes _ _ _ _, _, rfl, t, _, rfl, hta ▸ DGet.k (k := Sum.inr (nameS n)) ht1, ta, rfl, ⟨_, hsq⟩, ?_⟩
  refine for_tup (K := K) (a := ta) (xs := as.map V.ref) (fun i σ H' => Kf [x, y] H1 H' ∧ ∃ st' v3, σ = [some (.ref x), some (.str (nameS n)), some (.int ((20 : Int) - (d : Int))), v3] ∧ PlAt K H' x t y tp st' ∧ st'.things ≤ 400 ∧
    keysR (doK tp d) (tp n) st1 = keysR (doK tp d) ((tp n).drop i) st') ⟨Kf.refl hP1.wr, st1, none, rfl, hP1, by omega, rfl⟩ (fun i σ H' _ ⟨k', _⟩ => k'.tup hsq) ?_ ?_
  · rintro i v σ H' hi ⟨k', st', v3, rfl, hP', h4', he⟩
    have hil : i < as.length := by have := (List.getElem?_eq_some_iff.mp hi).1; rwa [List.length_map] at this
    have hil2 : i < (tp n).length := by omega
    obtain ⟨dx2, p2, as2, g3, _⟩ := hP'.ex
    rw [List.drop_eq_getElem_cons hil2, keysR_cons] at he
    have hv : v = V.ref as[i] := by
      rw [List.getElem?_map, List.getElem?_eq_getElem hil] at hi
      exact (Option.some.inj hi).symm
    subst hv
    have hki : KeyAt K H' as[i] (tp n)[i] := k'.key (hks.at_ hil hil2)
    have hok : (tp n)[i].Ok := hP'.tok.ok n hn _ (List.getElem_mem _)
    have hr2 : spRes K H' x t y tp _ Q E := (hres1.pre k').eq he
    refine ⟨_, rfl, x, _, _, rfl, g3, playerF_no_do _ _ _ _, _, rfl, _, rfl, x, t, y, tp, st', as[i], (tp n)[i], rfl, hP', h4', hd, hki, hok, fun el H3 k3 => ?_, fun b st2 H3 eb k3 hP3 h43 => ⟨_, rfl, ?_⟩⟩
    · rw [el] at hr2
      exact hr2.1 rfl H3 k3
    · rw [eb] at hr2 he
      cases b with
      | true => exact iteF ⟨k'.trans k3, st2, _, rfl, hP3, h43, he⟩
      | false => exact iteT (hr2.2 false st2 H3 rfl k3 hP3 h43)
  · rintro σ H' ⟨k', st', v3, rfl, hP', h4', he⟩
    rw [List.length_map, hlen, List.drop_length] at he
    exact (hres1.eq he).2 true st' H' rfl k' hP' h4'
theorem sc_Player_play : FnScope ["self", "name", "many", "around", "_"] ["self", "name", "many", "around"] (defScope s_Player_play) := ⟨rfl, rfl, rfl, by decide +kernel, rfl, by decide +kernel, by decide +kernel⟩
theorem ok_Player_play (T : Tx w K mg) {d k : Nat} (hk : 1 ≤ k) (F_Player_play_once : Fk P w K mg base k (Ad K d_Player_play_once.at_) ["self", "name", "around"] (sp_once K d)) : Fk P w K mg base (k + 1) (Ad K d_Player_play.at_) ["self", "name", "many", "around"] (sp_play K d) := by
  obtain ⟨t_MOST_AROUND, h_MOST_AROUND⟩ := T.i_MOST_AROUND
  refine mkF T.f_Player_play sc_Player_play rfl (fun _ _ _ _ _ _ us hl => match us, hl with | [_, _, _, _], _ => rfl) (fun vs H Q E h => by obtain ⟨_, _, _, _, _, _, _, rfl, _⟩ := h; rfl) (fun cdv A outer s H vs Q E hcd hcode hr h => ?_)
  have po : PassesOwn (model P w) (CxD P w K mg base ["self", "name", "many", "around", "_"] d_Player_play cdv A outer s H E).A (CxD P w K mg base ["self", "name", "many", "around", "_"] d_Player_play cdv A outer s H E).env (CxD P w K mg base ["self", "name", "many", "around", "_"] d_Player_play cdv A outer s H E).xe := passes_of rfl
  refine ⟨_, (pss_cons (ps_if (pt_cmpR op_ge (pv 3) (pe_glob (v := .int 20) (by rfl) h_MOST_AROUND ⟨_, rfl⟩) (nomark _)) (pss_one (ps_ret pe_bl)) pss_nil)
      (pss_cons (ps_for po rfl (pi_range1 (by rfl) T.n_range (pa_cons (pv 2) pa_nil)) (pg_name (i := 4) sc_Player_play.nd rfl (.inl rfl)) (pss_one (ps_if (pt_not (pt_val (pe_mF _ (pv 0) T.c_Player T.m_Player_play_once F_Player_play_once hr px (pa_cons (pv 1) (pa_cons (pe_op op_add (pv 3) pe_int) pa_nil))))) (pss_one (ps_ret pe_bl)) pss_nil)))
      (pss_one (ps_ret pe_bl)))), ?_⟩
  obtain ⟨x, t, y, tp, st, n, m, rfl, hn, hm, hP, h4, hd, hres⟩ := h
  refine ⟨_, rfl, _, _, rfl, rfl, _, rfl, ?_⟩
  cases d with
  | zero =>
    refine iteD (fun _ => ?_) (fun h => absurd (by omega) h)
    exact hres.2 false st H rfl (Kf.refl hP.wr) hP h4
  | succ d =>
    refine iteD (fun h => absurd h (by omega)) (fun _ => ?_)
    have hres : spRes K H x t y tp (timesR (once (doK tp d) (tp n)) m st) Q E := hres
    refine ⟨_, rfl, (m : Int), rfl, by omega, by omega, ?_⟩
    refine for_range (lo := 0) (n := (m : Int).toNat) (fun i σ H' => Kf [x, y] H H' ∧ ∃ st' v4, σ = [some (.ref x), some (.str (nameS n)), some (.int (m : Int)), some (.int ((20 : Int) - ((d + 1 : Nat) : Int))), v4] ∧ PlAt K H' x t y tp st' ∧ st'.things ≤ 400 ∧
      timesR (once (doK tp d) (tp n)) m st = timesR (once (doK tp d) (tp n)) (m - i) st') ⟨Kf.refl hP.wr, st, none, rfl, hP, h4, rfl⟩ ?_ ?_
    · rintro i σ H' hi ⟨k', st', v4, rfl, hP', h4', he⟩
      obtain ⟨dx2, p2, as2, g3, _⟩ := hP'.ex
      rw [show m - i = (m - (i + 1)) + 1 by omega, timesR_succ] at he
      have hr2 : spRes K H' x t y tp _ Q E := (hres.pre k').eq he
      refine ⟨_, rfl, x, _, _, rfl, g3, playerF_no_once _ _ _ _, _, rfl, _, rfl, _, _, rfl, rfl, x, t, y, tp, st', n, ?_, hn, hP', h4', by omega, fun el H3 k3 => ?_, fun b st2 H3 eb k3 hP3 h43 => ⟨_, rfl, ?_⟩⟩
      · show [V.ref x, V.str (nameS n), V.int (20 - ((d + 1 : Nat) : Int) + 1)] = _
        rw [show (20 - ((d + 1 : Nat) : Int) + 1) = 20 - (d : Int) by omega]
      · rw [el] at hr2
        exact hr2.1 rfl H3 k3
      · rw [eb] at hr2 he
        cases b with
        | true => exact iteF ⟨k'.trans k3, st2, _, rfl, hP3, h43, he⟩
        | false => exact iteT (hr2.2 false st2 H3 rfl k3 hP3 h43)
    · rintro σ H' ⟨k', st', v4, rfl, hP', h4', he⟩
      rw [show m - (m : Int).toNat = 0 by omega] at he
      exact (hres.eq he).2 true st' H' rfl k' hP' h4'
theorem sc_Player_play_till : FnScope ["self", "name", "around"] ["self", "name", "around"] (defScope s_Player_play_till) := ⟨rfl, rfl, rfl, by decide +kernel, rfl, by decide +kernel, by decide +kernel⟩
theorem ok_Player_play_till (T : Tx w K mg) {d k : Nat} (hk : 1 ≤ k) (F_Player_play_once : Fk P w K mg base k (Ad K d_Player_play_once.at_) ["self", "name", "around"] (sp_once K d)) : Fk P w K mg base (k + 1) (Ad K d_Player_play_till.at_) ["self", "name", "around"] (sp_till K d) := by
  obtain ⟨t_MOST_AROUND, h_MOST_AROUND⟩ := T.i_MOST_AROUND
  refine mkF T.f_Player_play_till sc_Player_play_till rfl (fun _ _ _ _ _ _ us hl => match us, hl with | [_, _, _], _ => rfl) (fun vs H Q E h => by obtain ⟨_, _, _, _, _, _, rfl, _⟩ := h; rfl) (fun cdv A outer s H vs Q E hcd hcode hr h => ?_)
  have po : PassesOwn (model P w) (CxD P w K mg base ["self", "name", "around"] d_Player_play_till cdv A outer s H E).A (CxD P w K mg base ["self", "name", "around"] d_Player_play_till cdv A outer s H E).env (CxD P w K mg base ["self", "name", "around"] d_Player_play_till cdv A outer s H E).xe := passes_of rfl
  refine ⟨_, (pss_cons (ps_if (pt_cmpR op_ge (pv 2) (pe_glob (v := .int 20) (by rfl) h_MOST_AROUND ⟨_, rfl⟩) (nomark _)) (pss_one (ps_ret pe_bl)) pss_nil)
      (pss_cons (ps_while po (pt_val (pe_mF _ (pv 0) T.c_Player T.m_Player_play_once F_Player_play_once hr px (pa_cons (pv 1) (pa_cons (pe_op op_add (pv 2) pe_int) pa_nil)))) (pss_one ps_pass))
      (pss_one (ps_ret pe_bl)))), ?_⟩
  obtain ⟨x, t, y, tp, st, n, rfl, hn, hP, h4, hd, hres⟩ := h
  refine ⟨_, rfl, _, _, rfl, rfl, _, rfl, ?_⟩
  cases d with
  | zero =>
    refine iteD (fun _ => ?_) (fun h => absurd (by omega) h)
    exact hres.2 false st H rfl (Kf.refl hP.wr) hP h4
  | succ d =>
    refine iteD (fun h => absurd h (by omega)) (fun _ => ?_)
    have hres : spRes K H x t y tp (tillR (once (doK tp d) (tp n)) 401 st) Q E := hres
    refine ⟨fun m σ H' => Kf [x, y] H H' ∧ ∃ st' j, σ = [some (.ref x), some (.str (nameS n)), some (.int ((20 : Int) - ((d + 1 : Nat) : Int)))] ∧ PlAt K H' x t y tp st' ∧ st'.things ≤ 400 ∧ j ≤ st'.things ∧
      tillR (once (doK tp d) (tp n)) 401 st = tillR (once (doK tp d) (tp n)) (401 - j) st' ∧ m = 401 - st'.things, ⟨_, Kf.refl hP.wr, st, 0, rfl, hP, h4, Nat.zero_le _, rfl, rfl⟩, ?_⟩
    rintro m σ H' ⟨k', st', j, rfl, hP', h4', hj, he, rfl⟩
    obtain ⟨dx2, p2, as2, g3, _⟩ := hP'.ex
    rw [show 401 - j = (401 - (j + 1)) + 1 by omega, tillR_succ _ (401 - (j + 1))] at he
    have hr2 : spRes K H' x t y tp _ Q E := (hres.pre k').eq he
    refine ⟨_, rfl, x, _, _, rfl, g3, playerF_no_once _ _ _ _, _, rfl, _, rfl, _, _, rfl, rfl, x, t, y, tp, st', n, ?_, hn, hP', h4', by omega, fun el H3 k3 => ?_, fun b st2 H3 eb k3 hP3 h43 => ⟨_, rfl, ?_⟩⟩
    · show [V.ref x, V.str (nameS n), V.int (20 - ((d + 1 : Nat) : Int) + 1)] = _
      rw [show (20 - ((d + 1 : Nat) : Int) + 1) = 20 - (d : Int) by omega]
    · rw [el] at hr2
      exact hr2.1 rfl H3 k3
    · have hmono := onceK_mono tp d eb
      rw [eb] at hr2 he
      cases b with
      | true =>
        refine iteT ⟨fun σ' H4 => H4 = H3 ∧ σ' = [some (.ref x), some (.str (nameS n)), some (.int ((20 : Int) - ((d + 1 : Nat) : Int)))], fun σ' H4 ⟨e1, e2⟩ => ⟨401 - st2.things, by omega, e1 ▸ (k'.trans k3), st2, j + 1, e2, e1 ▸ hP3, h43, by omega, he, rfl⟩, ?_⟩
        exact ⟨rfl, rfl⟩
      | false => exact iteF (hr2.2 true st2 H3 rfl k3 hP3 h43)
/-- the player's defs, at every depth -/
theorem ok_player (T : Tx w K mg) : ∀ d, Fk P w K mg base (3 * d + 9) (Ad K d_Player_do.at_) ["self", "key", "around"] (sp_do K d)
  | 0 => by
    have F0 : Fk P w K mg base 7 (Ad K d_Player_play_once.at_) ["self", "name", "around"] (sp_once K 0) :=
      mkF T.f_Player_play_once sc_Player_play_once rfl (fun _ _ _ _ _ _ us hl => match us, hl with | [_, _, _], _ => rfl) (fun _ _ _ _ h => h.elim) (fun _ _ _ _ _ _ _ _ _ _ _ h => h.elim)
    exact ok_Player_do T (d := 0) (k := 8) (by decide) (ok_Player_play T (d := 0) (k := 7) (by decide) F0) (ok_Player_play_till T (d := 0) (k := 7) (by decide) F0)
  | d + 1 => by
    have F := ok_player T d
    have F1 := ok_Player_play_once T (d := d) (k := 3 * d + 9) (by omega) F
    exact ok_Player_do T (d := d + 1) (k := 3 * d + 11) (by omega) (ok_Player_play T (d := d + 1) (k := 3 * d + 10) (by omega) F1) (ok_Player_play_till T (d := d + 1) (k := 3 * d + 10) (by omega) F1)
end
end KT
set_option Elab.async false
set_option linter.all false
set_option maxRecDepth 100000
set_option maxHeartbeats 4000000
namespace KT
open PySem PySem.Spec PyProof.Rows L2 GxR
variable [GT]
/-! ### texts of rows -/
def nl : Str := Str.ofString "\n"
theorem nl_eq : nl = ⟨#[10]⟩ := by decide +kernel
def textS (ls : List Ln) : Str := Txt.join nl (ls.map S)
theorem S_tls (ls : List Ln) : (ls.map S).map TL.tl = ls := by
  rw [List.map_map]
  conv => rhs; rw [← List.map_id ls]
  apply List.map_congr_left
  intro l _
  show (S l).cps.toList = l
  simp
theorem textS_split {ls : List Ln} (h : ls ≠ []) (h10 : ∀ l ∈ ls, 10 ∉ l) : Txt.split (textS ls) nl = ls.map S := by
  refine TL.split_join (y := nl) (s := 10) (S := []) (by rw [nl_eq]) (by rw [nl_eq]; decide +kernel) (by simpa using h) ?_
  intro p hp
  obtain ⟨l, hl, rfl⟩ := List.mem_map.mp hp
  have : TL.tl (S l) = l := by show (S l).cps.toList = l; simp
  rw [this]
  exact h10 l hl
theorem joinL_len {B : Nat} : ∀ (ls : List Ln), (∀ l ∈ ls, l.length ≤ B) → (TL.joinL [10] ls).length ≤ ls.length * (B + 1)
  | [], _ => by simp [TL.joinL]
  | [l], h => by
    have := h l (by simp)
    simp only [TL.joinL, List.length_cons, List.length_nil]
    omega
  | l :: m :: r, h => by
    have h1 := h l (by simp)
    have h2 := joinL_len (B := B) (m :: r) (fun x hx => h x (by simp [List.mem_cons.mp hx]))
    show (l ++ ([10] ++ TL.joinL [10] (m :: r))).length ≤ (m :: r).length.succ * (B + 1)
    rw [List.length_append, List.length_append, Nat.succ_mul]
    simp only [List.length_cons, List.length_nil] at h2 ⊢
    omega
theorem textS_len {B : Nat} {ls : List Ln} (h : ∀ l ∈ ls, l.length ≤ B) : (textS ls).length ≤ ls.length * (B + 1) := by
  have : (textS ls).length = (TL.joinL [10] ls).length := by
    unfold textS
    rw [TL.join_eq, TL.len_tl, TL.tl_join, S_tls, nl_eq]
  rw [this]
  exact joinL_len ls h
def goodRow (l : Ln) : Bool := decide (l.length ≤ 60) && l.all signB
def goodB (ls : List Ln) : Bool := decide (ls.length ≤ 12) && ls.all goodRow
theorem good_no10 {l : Ln} (h : l.all signB = true) : 10 ∉ l := fun h10 => by
  have := List.all_eq_true.mp h 10 h10
  rw [signB_eq] at this
  exact absurd (of_decide_eq_true this).1 (by decide)
section
variable {P : Program} {w : World} {K : PySem.W.Frag} {mg : Str → Option Value} {base : Heap}
def sp_first_page (K : PySem.W.Frag) : Sp := fun vs H Q E => ∃ ls, vs = [.str (textS ls)] ∧ ls ≠ [] ∧ (∀ l ∈ ls, 10 ∉ l) ∧ (∀ l ∈ ls, l.length ≤ 1000) ∧ ls.length ≤ 900 ∧ TabG H (tS K) ∧
  (goodB ls = true → ∀ q H', Kq [] H H' → PageAt K H' q ⟨ls, 0, 0, []⟩ → Q (.ref q) H') ∧ (goodB ls = false → ∀ H', Kq [] H H' → E (.ref (He.ga K "BadText")) none H')
theorem sc_first_page : FnScope ["text", "rows", "row"] ["text"] (defScope s_first_page) := ⟨rfl, rfl, rfl, by decide +kernel, rfl, by decide +kernel, by decide +kernel⟩
theorem ok_first_page (T : Tx w K mg) (B : TabB base mg (cS K) (tS K)) : Fk P w K mg base 3 (Ad K d_first_page.at_) ["text"] (sp_first_page K) := by
  obtain ⟨t_MOST_ROWS, h_MOST_ROWS⟩ := T.i_MOST_ROWS
  obtain ⟨t_MOST_SIGNS, h_MOST_SIGNS⟩ := T.i_MOST_SIGNS
  have F_Page___init__ := ok_Page___init__ (P := P) (base := base) T
  have F_are_signs := ok_are_signs (P := P) (base := base) T B
  refine mkF T.f_first_page sc_first_page rfl (fun _ _ _ _ _ _ us hl => match us, hl with | [_], _ => rfl) (fun vs H Q E h => by obtain ⟨_, rfl, _⟩ := h; rfl) (fun cdv A outer s H vs Q E hcd hcode hr h => ?_)
  have tk : Takes (CxD P w K mg base ["text", "rows", "row"] d_first_page cdv A outer s H E) (fun cls d _ H => E cls d H) := takes_of rfl rfl rfl rfl
  have po : PassesOwn (model P w) (CxD P w K mg base ["text", "rows", "row"] d_first_page cdv A outer s H E).A (CxD P w K mg base ["text", "rows", "row"] d_first_page cdv A outer s H E).env (CxD P w K mg base ["text", "rows", "row"] d_first_page cdv A outer s H E).xe := passes_of rfl
  refine ⟨_, (pss_cons (ps_asg (pe_callTy call_tuple_of (by rfl) T.n_tuple (by decide +kernel) (pa_cons (pe_split (pv 0) pe_str) pa_nil)) (pg_name (i := 1) sc_first_page.nd rfl (.inl rfl)))
      (pss_cons (ps_if (pt_cmpR op_gt (pe_callB call_len_seq (by rfl) T.n_len (by decide +kernel) (pa_cons (pv 1) pa_nil)) (pe_glob (v := .int 12) (by rfl) h_MOST_ROWS ⟨_, rfl⟩) (nomark _)) (pss_one (ps_raise rfl tk (pmk_BadText T rfl))) pss_nil)
      (pss_cons (ps_for po rfl (pi_tup (pv 1)) (pg_name (i := 2) sc_first_page.nd rfl (.inl rfl)) (pss_cons (ps_if (pt_cmpR op_gt (pe_callB call_len_str (by rfl) T.n_len (by decide +kernel) (pa_cons (pv 2) pa_nil)) (pe_glob (v := .int 60) (by rfl) h_MOST_SIGNS ⟨_, rfl⟩) (nomark _)) (pss_one (ps_raise rfl tk (pmk_BadText T rfl))) pss_nil)
      (pss_one (ps_if (pt_not (pt_val (pe_cF F_are_signs (hr.mono (by decide)) T.g_are_signs px (pa_cons (pv 2) pa_nil)))) (pss_one (ps_raise rfl tk (pmk_BadText T rfl))) pss_nil))))
      (pss_one (ps_ret (pe_kF (spN := sp_Page K) T.k_Page F_Page___init__ (hr.mono (by decide)) T.g_Page px new_Page (pa_cons (pv 1) (pa_cons pe_int (pa_cons pe_int (pa_cons pe_str pa_nil)))))))))), ?_⟩
  obtain ⟨ls, rfl, hne, h10, hlong, hmany, hT, kt, kf⟩ := h
  have hlen : (textS ls).length ≤ 1000000 := Nat.le_trans (textS_len hlong) (Nat.le_trans (Nat.mul_le_mul_right _ hmany) (by decide))
  have hsz : sizeLine = 16777216 := sizeLine_eq
  refine ⟨_, rfl, ⟨_, rfl⟩, _, nl, rfl, rfl, by rw [nl_eq]; rfl, by omega, fun p np => ⟨p, _, rfl, .inl ⟨SqL.of upd_same, fun l nl' => ?_⟩⟩⟩
  rw [textS_split hne h10, show (ls.map S).map V.str = rowsV ls by unfold rowsV; rw [List.map_map]; rfl]
  have k1 : Kq [] H (upd (upd H p (.lst (rowsV ls))) l (.tup (rowsV ls))) := by
    rw [textS_split hne h10, show (ls.map S).map V.str = rowsV ls by unfold rowsV; rw [List.map_map]; rfl] at nl'
    exact (Kq.alloc np).trans (Kq.alloc nl')
  have a1 : SqT K (upd (upd H p (.lst (rowsV ls))) l (.tup (rowsV ls))) l (rowsV ls) := SqT.of upd_same
  generalize (upd (upd H p (.lst (rowsV ls))) l (.tup (rowsV ls))) = H1 at k1 a1 ⊢
  refine ⟨_, rfl, l, _, rfl, .inr a1, _, _, rfl, rfl, _, rfl, ?_⟩
  rw [rowsV_len]
  refine iteD (fun h => kf (by unfold goodB; rw [decide_eq_false (by omega)]; rfl) H1 k1) (fun h12 => ?_)
  have bad : ∀ i (hi : i < ls.length), goodRow ls[i] = false → goodB ls = false := fun i hi hg => by
    unfold goodB
    rw [decide_eq_true (by omega)]
    show ls.all goodRow = false
    rw [List.all_eq_false]
    exact ⟨ls[i], List.getElem_mem _, by rw [hg]; simp⟩
  refine ⟨_, rfl, l, rfl, ⟨_, a1⟩, ?_⟩
  refine for_tup (K := K) (a := l) (xs := rowsV ls) (fun i σ H' => Kq [] H1 H' ∧ (∃ v2, σ = [some (.str (textS ls)), some (.ref l), v2]) ∧ ∀ m ∈ ls.take i, goodRow m = true) ⟨Kq.refl, ⟨none, rfl⟩, fun m hm => by simp at hm⟩ (fun i σ H' _ ⟨k', _⟩ => k'.tup a1) ?_ ?_
  · rintro i v σ H' hi ⟨k', ⟨v2, rfl⟩, hg⟩
    have hil : i < ls.length := by have := (List.getElem?_eq_some_iff.mp hi).1; rwa [rowsV_len] at this
    have hv : v = V.str (S ls[i]) := by
      unfold rowsV at hi
      rw [List.getElem?_map, List.getElem?_eq_getElem hil] at hi
      exact (Option.some.inj hi).symm
    subst hv
    have hl1 := hlong ls[i] (List.getElem_mem _)
    refine ⟨_, rfl, _, rfl, S16 (by omega), _, _, rfl, rfl, _, rfl, ?_⟩
    rw [S_len]
    refine iteD (fun h60 => kf (bad i hil (by unfold goodRow; rw [decide_eq_false (by omega)]; rfl)) H' (k1.trans k')) (fun h60 => ?_)
    refine ⟨_, rfl, ls[i], rfl, k'.tab _ (k1.tab _ hT), fun H2 k2 => ⟨_, rfl, ?_⟩⟩
    cases hs : ls[i].all signB with
    | false => exact iteT (kf (bad i hil (by unfold goodRow; rw [hs]; simp)) H2 ((k1.trans k').trans k2))
    | true =>
      refine iteF ⟨k'.trans k2, ⟨_, rfl⟩, fun m hm => ?_⟩
      rw [List.take_succ_eq_append_getElem hil] at hm
      rcases List.mem_append.mp hm with hm | hm
      · exact hg m hm
      · rw [List.mem_singleton.mp hm]
        unfold goodRow
        rw [hs, decide_eq_true (by omega)]; rfl
  · rintro σ H' ⟨k', ⟨v2, rfl⟩, hg⟩
    rw [rowsV_len, List.take_length] at hg
    refine ⟨_, rfl, l, _, _, _, ⟨ls, 0, 0, []⟩, rfl, rfl, rfl, rfl, k'.tup a1, fun q H2 k2 a2 => ?_⟩
    exact kt (by unfold goodB; rw [decide_eq_true (by omega)]; exact List.all_eq_true.mpr hg) q H2 ((k1.trans k').trans k2) a2
theorem good_ok {ls : List Ln} (hne : ls ≠ []) (h : goodB ls = true) : Pg.Ok ⟨ls, 0, 0, []⟩ := by
  unfold goodB at h
  simp only [Bool.and_eq_true, decide_eq_true_eq, List.all_eq_true] at h
  have h2 : ∀ l ∈ ls, l.length ≤ 60 ∧ ∀ c ∈ l, signB c = true := fun l hl => by
    have := h.2 l hl
    unfold goodRow at this
    simp only [Bool.and_eq_true, decide_eq_true_eq, List.all_eq_true] at this
    exact this
  refine ⟨h.1, fun l hl => (h2 l hl).1, List.length_pos_iff.mpr hne, Nat.zero_le _, Nat.zero_le _, fun l hl c hc => ?_, fun c hc => by simp at hc⟩
  have := (h2 l hl).2 c hc
  rw [signB_eq] at this
  exact of_decide_eq_true this
end
end KT
set_option Elab.async false
set_option linter.all false
set_option maxRecDepth 100000
set_option maxHeartbeats 4000000
namespace KT
open PySem PySem.Spec PyProof.Rows L2 GxR
variable [GT]
/-! ### rows held against rows -/
def rowsD (ls : List Ln) : PyData := .tuple (ls.map fun l => .str (S l))
theorem dp_strs {K : PySem.W.Frag} {H : Hp} : ∀ ls : List Ln, DpAll K H (rowsV ls) (ls.map fun l => PyData.str (S l))
  | [] => .nil
  | l :: r => .cons (.str _) (dp_strs r)
theorem dp_rows {K : PySem.W.Frag} {H : Hp} {t : Addr} {ls : List Ln} (h : SqT K H t (rowsV ls)) : Dp K H (.ref t) (rowsD ls) := .tup h (dp_strs ls)
theorem strOk_sig {l : Ln} (h : ∀ c ∈ l, okSign c) : PyData.strOk (S l) = true := by
  unfold PyData.strOk
  rw [Array.all_eq_true_iff_forall_mem]
  intro c hc
  have : c ∈ l := by simpa using hc
  have := (h c this).2
  exact decide_eq_true (by omega)
theorem canLay_strs : ∀ ls : List Ln, (∀ l ∈ ls, ∀ c ∈ l, okSign c) → PyData.canLayAll0 (ls.map fun l => PyData.str (S l)) = true
  | [], _ => rfl
  | l :: r, h => by
    show (PyData.strOk (S l) && PyData.canLayAll0 (r.map fun l => PyData.str (S l))) = true
    rw [strOk_sig (h l (by simp)), canLay_strs r fun m hm => h m (by simp [hm])]; rfl
theorem depth_strs : ∀ ls : List Ln, PyData.depthAll (ls.map fun l => PyData.str (S l)) = 0
  | [] => rfl
  | l :: r => by
    show max 0 (PyData.depthAll (r.map fun l => PyData.str (S l))) = 0
    rw [depth_strs r]; rfl
theorem shaped_rows {ls : List Ln} (h : ∀ l ∈ ls, ∀ c ∈ l, okSign c) : SeqAt.shaped (rowsD ls) = true := by
  unfold SeqAt.shaped rowsD
  have h1 : PyData.canLay0 (.tuple (ls.map fun l => PyData.str (S l))) = PyData.canLayAll0 (ls.map fun l => PyData.str (S l)) := by simp [PyData.canLay0]
  have h2 : PyData.depth (.tuple (ls.map fun l => PyData.str (S l))) = PyData.depthAll (ls.map fun l => PyData.str (S l)) + 1 := by simp [PyData.depth]
  rw [h1, h2, canLay_strs ls h, depth_strs]; rfl
theorem eqv_strs : ∀ a b : List Ln, PyData.eqvAll (a.map fun l => PyData.str (S l)) (b.map fun l => PyData.str (S l)) = decide (a = b)
  | [], [] => rfl
  | [], _ :: _ => rfl
  | _ :: _, [] => rfl
  | x :: a, y :: b => by
    show (PyData.eqv (.str (S x)) (.str (S y)) && PyData.eqvAll (a.map fun l => PyData.str (S l)) (b.map fun l => PyData.str (S l))) = _
    rw [eqv_strs a b]
    have : PyData.eqv (.str (S x)) (.str (S y)) = (S x == S y) := by simp [PyData.eqv]
    rw [this]
    by_cases e : x = y
    · subst e; simp
    · have : (S x == S y) = false := by rw [beq_eq_false_iff_ne]; exact fun z => e (S_inj z)
      rw [this]; simp [e]
theorem eqv_rows (a b : List Ln) : PyData.eqv (rowsD a) (rowsD b) = decide (a = b) := by
  unfold rowsD
  have : PyData.eqv (.tuple (a.map fun l => PyData.str (S l))) (.tuple (b.map fun l => PyData.str (S l))) = PyData.eqvAll (a.map fun l => PyData.str (S l)) (b.map fun l => PyData.str (S l)) := by simp [PyData.eqv]
  rw [this, eqv_strs]
/-! ### the editor -/
structure EdSt where
  page : Pg
  tapes : Nat → List Ky
  taped : Option Nat
  pressed : List Ky
  units : List (Pg × Pg)
  undone : List (Pg × Pg)
/-- where an editor's parts stand -/
structure EdM where
  e : Addr
  t : Addr
  pr : Addr
  un : Addr
  ud : Addr
def EdM.l (m : EdM) : List Addr := [m.e, m.t, m.pr, m.un, m.ud]
def recV : Option Nat → V
  | none => .non
  | some n => .str (nameS n)
def edF (p t : Addr) (r : V) (pr un ud : Addr) : List (Str × V) := [("page", .ref p), ("tapes", .ref t), ("recorded", r), ("pressed", .ref pr), ("units", .ref un), ("undone", .ref ud)]
theorem edF_page (p t : Addr) (r : V) (pr un ud : Addr) : (edF p t r pr un ud).lookup ("page" : Str) = some (.ref p) := by kernel_rfl
theorem edF_tapes (p t : Addr) (r : V) (pr un ud : Addr) : (edF p t r pr un ud).lookup ("tapes" : Str) = some (.ref t) := by kernel_rfl
theorem edF_recorded (p t : Addr) (r : V) (pr un ud : Addr) : (edF p t r pr un ud).lookup ("recorded" : Str) = some r := by kernel_rfl
theorem edF_pressed (p t : Addr) (r : V) (pr un ud : Addr) : (edF p t r pr un ud).lookup ("pressed" : Str) = some (.ref pr) := by kernel_rfl
theorem edF_units (p t : Addr) (r : V) (pr un ud : Addr) : (edF p t r pr un ud).lookup ("units" : Str) = some (.ref un) := by kernel_rfl
theorem edF_undone (p t : Addr) (r : V) (pr un ud : Addr) : (edF p t r pr un ud).lookup ("undone" : Str) = some (.ref ud) := by kernel_rfl
theorem edF_put_page (p q t : Addr) (r : V) (pr un ud : Addr) : putF "page" (.ref q) (edF p t r pr un ud) = edF q t r pr un ud := by kernel_rfl
theorem edF_put_recorded (p t : Addr) (r r' : V) (pr un ud : Addr) : putF "recorded" r' (edF p t r pr un ud) = edF p t r' pr un ud := by kernel_rfl
theorem edF_put_pressed (p t : Addr) (r : V) (pr pr' un ud : Addr) : putF "pressed" (.ref pr') (edF p t r pr un ud) = edF p t r pr' un ud := by kernel_rfl
theorem edF_put_undone (p t : Addr) (r : V) (pr un ud ud' : Addr) : putF "undone" (.ref ud') (edF p t r pr un ud) = edF p t r pr un ud' := by kernel_rfl
theorem edF_make (p t : Addr) (r : V) (pr un ud : Addr) : putF "undone" (.ref ud) (putF "units" (.ref un) (putF "pressed" (.ref pr) (putF "recorded" r (putF "tapes" (.ref t) (putF "page" (.ref p) []))))) = edF p t r pr un ud := by kernel_rfl
theorem mut_ed (C dx p t : Addr) (r : V) (pr un ud : Addr) : mutO (.ins C dx (edF p t r pr un ud)) = true := by kernel_rfl
inductive UnitsAt (K : PySem.W.Frag) (H : Hp) : List Addr → List (Pg × Pg) → Prop where
  | nil : UnitsAt K H [] []
  | cons {a p q : Addr} {u : Pg × Pg} {as : List Addr} {us : List (Pg × Pg)} (h : SqT K H a [.ref p, .ref q]) (h1 : PageAt K H p u.1) (h2 : PageAt K H q u.2) (r : UnitsAt K H as us) : UnitsAt K H (a :: as) (u :: us)
theorem UnitsAt.imp {K : PySem.W.Frag} {H H1 : Hp} {as : List Addr} {us : List (Pg × Pg)} (f : ∀ a xs, SqT K H a xs → SqT K H1 a xs) (g : ∀ p x, PageAt K H p x → PageAt K H1 p x) (h : UnitsAt K H as us) : UnitsAt K H1 as us := by
  induction h with
  | nil => exact .nil
  | cons h h1 h2 _ ih => exact .cons (f _ _ h) (g _ _ h1) (g _ _ h2) ih
theorem UnitsAt.snoc {K : PySem.W.Frag} {H : Hp} {as : List Addr} {us : List (Pg × Pg)} {a p q : Addr} {u : Pg × Pg} (h : UnitsAt K H as us) (ha : SqT K H a [.ref p, .ref q]) (h1 : PageAt K H p u.1) (h2 : PageAt K H q u.2) : UnitsAt K H (as ++ [a]) (us ++ [u]) := by
  induction h with
  | nil => exact .cons ha h1 h2 .nil
  | cons h g1 g2 _ ih => exact .cons h g1 g2 ih
theorem UnitsAt.len {K : PySem.W.Frag} {H : Hp} {as : List Addr} {us : List (Pg × Pg)} (h : UnitsAt K H as us) : as.length = us.length := by
  induction h with
  | nil => rfl
  | cons _ _ _ _ ih => simp [ih]
/-- an editor stands at m -/
structure EdAt (K : PySem.W.Frag) (H : Hp) (m : EdM) (ed : EdSt) : Prop where
  ex : ∃ dx p ap au ad, H m.e = some (.ins (He.ga K "Editor") dx (edF p m.t (recV ed.taped) m.pr m.un m.ud)) ∧ PageAt K H p ed.page ∧ H m.pr = some (.lst (ap.map V.ref)) ∧ KeysAt K H ap ed.pressed ∧
    H m.un = some (.lst (au.map V.ref)) ∧ UnitsAt K H au ed.units ∧ H m.ud = some (.lst (ad.map V.ref)) ∧ UnitsAt K H ad ed.undone
  tapes : TapesAt K H m.t ed.tapes
  tok : TpOk ed.tapes
  sign : TabG H (tS K)
  ok : ed.page.Ok
  d1 : m.pr ≠ m.un
  d2 : m.pr ≠ m.ud
  d3 : m.un ≠ m.ud
  pok : ∀ k ∈ ed.pressed, k.Ok
  uok : ∀ u ∈ ed.units, u.1.Ok ∧ u.2.Ok
  dok : ∀ u ∈ ed.undone, u.1.Ok ∧ u.2.Ok
  rok : ∀ n, ed.taped = some n → n < 8
theorem EdAt.wr {K : PySem.W.Frag} {H : Hp} {m : EdM} {ed : EdSt} (h : EdAt K H m ed) : ∀ b ∈ m.l, ∃ o, H b = some o ∧ mutO o = true := by
  obtain ⟨dx, p, ap, au, ad, h1, _, h3, _, h5, _, h7, _⟩ := h.ex
  obtain ⟨kvs, h9, _⟩ := h.tapes
  intro b hb
  simp only [EdM.l, List.mem_cons, List.not_mem_nil, or_false] at hb
  rcases hb with rfl | rfl | rfl | rfl | rfl
  · exact ⟨_, h1, mut_ed _ _ _ _ _ _ _ _⟩
  · exact ⟨_, h9, rfl⟩
  · exact ⟨_, h3, rfl⟩
  · exact ⟨_, h5, rfl⟩
  · exact ⟨_, h7, rfl⟩
/-- what is written elsewhere is nothing to an editor -/
theorem EdAt.kf {K : PySem.W.Frag} {S : List Addr} {H H1 : Hp} {m : EdM} {ed : EdSt} (h : EdAt K H m ed) (k : Kf S H H1) (d : ∀ b ∈ m.l, b ∉ S) : EdAt K H1 m ed := by
  obtain ⟨dx, p, ap, au, ad, h1, h2, h3, h4, h5, h6, h7, h8⟩ := h.ex
  have g : ∀ {b o}, b ∈ m.l → H b = some o → noTbl o = true → H1 b = some o := fun hb e n => k.q.at_ _ _ e n (d _ hb)
  exact ⟨⟨dx, p, ap, au, ad, g (by simp [EdM.l]) h1 rfl, k.page h2, g (by simp [EdM.l]) h3 rfl, k.keys h4, g (by simp [EdM.l]) h5 rfl, h6.imp (fun _ _ z => k.tup z) (fun _ _ z => k.page z), g (by simp [EdM.l]) h7 rfl, h8.imp (fun _ _ z => k.tup z) (fun _ _ z => k.page z)⟩,
    k.tapes h.tapes (d _ (by simp [EdM.l])), h.tok, k.q.tab _ h.sign, h.ok, h.d1, h.d2, h.d3, h.pok, h.uok, h.dok, h.rok⟩
theorem EdAt.kq {K : PySem.W.Frag} {H H1 : Hp} {m : EdM} {ed : EdSt} (h : EdAt K H m ed) (k : Kq [] H H1) : EdAt K H1 m ed := h.kf (Kf.of (S := []) k (fun b hb => absurd hb (by simp))) (fun b _ => by simp)
section
variable {P : Program} {w : World} {K : PySem.W.Frag} {mg : Str → Option Value} {base : Heap}
def sp_ed_text (K : PySem.W.Frag) : Sp := fun vs H Q _ => ∃ m ed, vs = [.ref m.e] ∧ EdAt K H m ed ∧ Q (.str (textS ed.page.rows)) H
theorem sc_Editor_text : FnScope ["self"] ["self"] (defScope s_Editor_text) := ⟨rfl, rfl, rfl, by decide +kernel, rfl, by decide +kernel, by decide +kernel⟩
theorem ok_Editor_text (T : Tx w K mg) : Fk P w K mg base 1 (Ad K d_Editor_text.at_) ["self"] (sp_ed_text K) := by
  refine mkF T.f_Editor_text sc_Editor_text rfl (fun _ _ _ _ _ _ us hl => match us, hl with | [_], _ => rfl) (fun vs H Q E h => by obtain ⟨_, _, rfl, _⟩ := h; rfl) (fun cdv A outer s H vs Q E hcd hcode hr h => ?_)
  refine ⟨_, (pss_one (ps_ret (pe_join pe_str (pe_fld (pe_fld (pv 0) rfl) rfl)))), ?_⟩
  obtain ⟨m, ed, rfl, hE, k⟩ := h
  obtain ⟨dx, p, ap, au, ad, h1, h2, _⟩ := hE.ex
  have ok := hE.ok
  refine ⟨⟨_, rfl⟩, _, rfl, m.e, _, dx, _, _, rfl, h1, T.c_Editor, T.a_Editor_page, edF_page _ _ _ _ _ _, rd_rows T h2 fun t ht => ⟨nl, t, ed.page.rows.map S, rfl, rfl, .inr (by rw [List.map_map]; exact ht), ?_, k⟩⟩
  have hs : ∀ ls : List Ln, (∀ l ∈ ls, l.length ≤ 60) → ((ls.map S).map (·.length)).sum ≤ ls.length * 60 := by
    intro ls
    induction ls with
    | nil => intro _; simp
    | cons a r ih =>
      intro h
      have h1 := h a (by simp)
      have h2 := ih fun l hl => h l (by simp [hl])
      simp only [List.map_cons, List.sum_cons, List.length_cons, S_len]
      omega
  have h3 := hs _ ok.long
  have h4 := ok.many
  have h5 : nl.length = 1 := by rw [nl_eq]; rfl
  rw [List.length_map, h5]
  omega
def sp_ed_place (K : PySem.W.Frag) : Sp := fun vs H Q _ => ∃ m ed, vs = [.ref m.e] ∧ EdAt K H m ed ∧ ∀ q H', Kq [] H H' → H' q = some (.tup [.int ed.page.row, .int ed.page.col]) → Q (.ref q) H'
theorem sc_Editor_place : FnScope ["self"] ["self"] (defScope s_Editor_place) := ⟨rfl, rfl, rfl, by decide +kernel, rfl, by decide +kernel, by decide +kernel⟩
theorem ok_Editor_place (T : Tx w K mg) : Fk P w K mg base 1 (Ad K d_Editor_place.at_) ["self"] (sp_ed_place K) := by
  refine mkF T.f_Editor_place sc_Editor_place rfl (fun _ _ _ _ _ _ us hl => match us, hl with | [_], _ => rfl) (fun vs H Q E h => by obtain ⟨_, _, rfl, _⟩ := h; rfl) (fun cdv A outer s H vs Q E hcd hcode hr h => ?_)
  refine ⟨_, (pss_one (ps_ret (pe_tup (pa_cons (pe_fld (pe_fld (pv 0) rfl) rfl) (pa_cons (pe_fld (pe_fld (pv 0) rfl) rfl) pa_nil))))), ?_⟩
  obtain ⟨m, ed, rfl, hE, k⟩ := h
  obtain ⟨dx, p, ap, au, ad, h1, h2, _⟩ := hE.ex
  refine ⟨_, rfl, m.e, _, dx, _, _, rfl, h1, T.c_Editor, T.a_Editor_page, edF_page _ _ _ _ _ _, rd_row T h2 ⟨_, rfl, m.e, _, dx, _, _, rfl, h1, T.c_Editor, T.a_Editor_page, edF_page _ _ _ _ _ _, rd_col T h2 ⟨line16 (by show 2 ≤ 1000000; decide), fun q nq => ?_⟩⟩⟩
  exact k q _ (Kq.alloc nq) upd_same
def sp_ed_clip (K : PySem.W.Frag) : Sp := fun vs H Q _ => ∃ m ed, vs = [.ref m.e] ∧ EdAt K H m ed ∧ Q (.str (S ed.page.clip)) H
theorem sc_Editor_clip : FnScope ["self"] ["self"] (defScope s_Editor_clip) := ⟨rfl, rfl, rfl, by decide +kernel, rfl, by decide +kernel, by decide +kernel⟩
theorem ok_Editor_clip (T : Tx w K mg) : Fk P w K mg base 1 (Ad K d_Editor_clip.at_) ["self"] (sp_ed_clip K) := by
  refine mkF T.f_Editor_clip sc_Editor_clip rfl (fun _ _ _ _ _ _ us hl => match us, hl with | [_], _ => rfl) (fun vs H Q E h => by obtain ⟨_, _, rfl, _⟩ := h; rfl) (fun cdv A outer s H vs Q E hcd hcode hr h => ?_)
  refine ⟨_, (pss_one (ps_ret (pe_fld (pe_fld (pv 0) rfl) rfl))), ?_⟩
  obtain ⟨m, ed, rfl, hE, k⟩ := h
  obtain ⟨dx, p, ap, au, ad, h1, h2, _⟩ := hE.ex
  exact ⟨_, rfl, m.e, _, dx, _, _, rfl, h1, T.c_Editor, T.a_Editor_page, edF_page _ _ _ _ _ _, rd_clip T h2 k⟩
end
end KT
set_option Elab.async false
set_option linter.all false
set_option maxRecDepth 100000
set_option maxHeartbeats 4000000
namespace KT
open PySem PySem.Spec PyProof.Rows L2 GxR
variable [GT]
/-- what was not there may be written -/
theorem Kq.writeF {S : List Addr} {H H' : Hp} {d : Addr} {o u : HO} (k : Kq S H H') (nd : H d = none) (hd : H' d = some u) (n : wrO u = true := by rfl) : Kq S H (upd H' d o) := by
  refine ⟨fun b v h n' m => ?_, fun q h => ?_, fun b h => ?_, fun q m h => tabS_imp (k.tabS q m h) (fun ps e => by rw [upd_ne (wr_tbl hd n e)]; exact e) (fun c e => by rw [upd_ne (wr_ne hd n e)]; exact e)⟩
  · rw [upd_ne (ne_of_none h nd)]; exact k.at_ b v h n' m
  · obtain ⟨ps, h1, h2⟩ := k.tab q h
    have : q ≠ d := fun e => by
      subst e
      rw [hd] at h1
      cases h1
      cases n
    exact ⟨ps, by rw [upd_ne this]; exact h1, h2⟩
  · by_cases e : b = d
    · subst e; rw [upd_same] at h; cases h
    · rw [upd_ne e] at h; exact k.fr b h
theorem Kq.tup1 {K : PySem.W.Frag} {x C dx : Addr} {fs : List (Str × V)} {H H' : Hp} (k : Kq [x] H H') (hx : H x = some (.ins C dx fs)) {l : Addr} {xs : List V} (h : SqT K H l xs) : SqT K H' l xs := by
  rcases h with (h | ⟨o, h⟩) | h
  · exact .inl (.inl (k.gets h (by simp; exact fun e => by rw [e, hx] at h; cases h)))
  · exact .inl (.inr ⟨o, k.gets h (by simp; exact fun e => by rw [e, hx] at h; cases h)⟩)
  · exact .inr h
theorem Kq.page1 {K : PySem.W.Frag} {x C dx : Addr} {fs : List (Str × V)} {H H' : Hp} (k : Kq [x] H H') (hx : H x = some (.ins C dx fs)) {p : Addr} {g : Pg} (h : PageAt K H p g) (ne : p ≠ x) : PageAt K H' p g := by
  obtain ⟨d, t, h1, h2⟩ := h
  exact ⟨d, t, k.gets h1 (by simp [ne]), k.tup1 hx h2⟩
theorem valV_zip : ∀ {ks : List Key} {vs : List V} {n : Nat} (h1 : n < ks.length) (h2 : n < vs.length), ks.Nodup → valV (ks.zip vs) ks[n] = some vs[n]
  | k :: ks, v :: vs, 0, _, _, _ => valV_pos (p := (k, v)) rfl
  | k :: ks, v :: vs, n + 1, h1, h2, hn => by
    have hne : ¬ k = ks[n]'(by simpa using h1) := fun e => (List.nodup_cons.mp hn).1 (e ▸ List.getElem_mem _)
    show valV ((k, v) :: ks.zip vs) (ks[n]'(by simpa using h1)) = some (vs[n]'(by simpa using h2))
    rw [valV_neg (p := (k, v)) hne]
    exact valV_zip (by simpa using h1) (by simpa using h2) (List.nodup_cons.mp hn).2
theorem valV_no {kvs : List (Key × V)} {k : Key} (h : ∀ p ∈ kvs, p.1 ≠ k) : valV kvs k = none := by
  induction kvs with
  | nil => rfl
  | cons p r ih => rw [valV_neg (h p (by simp))]; exact ih fun q hq => h q (by simp [hq])
theorem names8_nd : names8.Nodup := by decide +kernel
theorem names8_V : namesV = names8.map kV := by decide +kernel
theorem names8_at {n : Nat} (h : n < 8) : names8[n]'(by simpa [names8] using h) = .inr (nameS n) := by
  have : ∀ n (h : n < 8), names8[n]'(by simpa [names8] using h) = .inr (nameS n) := by decide +kernel
  exact this n h
def EdSt.new (ls : List Ln) : EdSt := ⟨⟨ls, 0, 0, []⟩, fun _ => [], none, [], [], []⟩
section
variable {P : Program} {w : World} {K : PySem.W.Frag} {mg : Str → Option Value} {base : Heap}
def sp_Editor___init__ (K : PySem.W.Frag) : Sp := fun vs H Q E => ∃ x dx ls, vs = [.ref x, .str (textS ls)] ∧ H x = some (.ins (He.ga K "Editor") dx []) ∧ ls ≠ [] ∧ (∀ l ∈ ls, 10 ∉ l) ∧ (∀ l ∈ ls, l.length ≤ 1000) ∧ ls.length ≤ 900 ∧ TabG H (tS K) ∧
  (goodB ls = true → ∀ t pr un ud H', H t = none → H pr = none → H un = none → H ud = none → Kq [x] H H' → EdAt K H' ⟨x, t, pr, un, ud⟩ (EdSt.new ls) → Q .non H') ∧ (goodB ls = false → ∀ H', Kq [] H H' → E (.ref (He.ga K "BadText")) none H')
theorem sc_Editor___init__ : FnScope ["self", "text", "name"] ["self", "text"] (defScope s_Editor___init__) := ⟨rfl, rfl, rfl, by decide +kernel, rfl, by decide +kernel, by decide +kernel⟩
theorem ok_Editor___init__ (T : Tx w K mg) (B : TabB base mg (cS K) (tS K)) : Fk P w K mg base 4 (Ad K d_Editor___init__.at_) ["self", "text"] (sp_Editor___init__ K) := by
  have F_first_page := ok_first_page (P := P) (base := base) T B
  refine mkF T.f_Editor___init__ sc_Editor___init__ rfl (fun _ _ _ _ _ _ us hl => match us, hl with | [_, _], _ => rfl) (fun vs H Q E h => by obtain ⟨_, _, _, rfl, _⟩ := h; rfl) (fun cdv A outer s H vs Q E hcd hcode hr h => ?_)
  refine ⟨_, (pss_cons (ps_fld (pv 0) (pe_cF F_first_page (hr.mono (by decide)) T.g_first_page px (pa_cons (pv 1) pa_nil)) rfl)
      (pss_cons (ps_fld (pv 0) (pe_dc (own := [("name", 2)]) rfl sc_Editor___init__.nd (pi_tup (pe_glob (v := .ref (He.ga K "NAMES")) (by rfl) T.g_NAMES rfl)) (blkOk_by (own := [("name", 2)]) (N := ["self", "text", "name"]) (sc := defScope s_Editor___init__) (by decide +kernel)) (fun _ _ _ _ _ => (pg_name (i := 2) sc_Editor___init__.nd rfl (.inl rfl))) (fun _ _ _ _ _ => pts_nil) (fun _ _ _ _ _ => (pv 2)) (fun _ _ _ _ _ => (pe_tup pa_nil))) rfl)
      (pss_cons (ps_fld (pv 0) pe_non rfl)
      (pss_cons (ps_fld (pv 0) (pe_lst pa_nil) rfl)
      (pss_cons (ps_fld (pv 0) (pe_lst pa_nil) rfl)
      (pss_one (ps_fld (pv 0) (pe_lst pa_nil) rfl))))))), ?_⟩
  obtain ⟨x, dx, ls, rfl, hx, hne, h10, hlong, hmany, hT, kt, kf⟩ := h
  refine ⟨_, rfl, ls, rfl, hne, h10, hlong, hmany, hT, fun hg q H1 k1 a1 => ?_, fun hb H1 k1 => kf hb H1 k1⟩
  refine ⟨_, rfl, x, _, dx, _, rfl, k1.get hx, T.c_Editor, T.a_Editor_page, (by show 0 < 1000; decide), ?_⟩
  have kw : Kq [x] H (upd H1 x (.ins (He.ga K "Editor") dx (putF "page" (.ref q) []))) := k1.of.trans (Kq.write (k1.get hx) (by simp))
  have gx : (upd H1 x (.ins (He.ga K "Editor") dx (putF "page" (.ref q) []))) x = some (.ins (He.ga K "Editor") dx (putF "page" (.ref q) [])) := upd_same
  have hqx : q ≠ x := fun e => by
    obtain ⟨dq, t, h1, h2⟩ := a1
    rw [e, k1.get hx] at h1
    have z := congrArg (fun o => match o with | some (HO.ins _ _ fs) => fs.length | _ => 0) h1
    exact absurd z (by show ¬ (0 = 4); decide)
  have aq : PageAt K (upd H1 x (.ins (He.ga K "Editor") dx (putF "page" (.ref q) []))) q ⟨ls, 0, 0, []⟩ := by
    obtain ⟨dq, t, h1, h2⟩ := a1
    have hne1 : q ≠ x := fun e => by
      rw [e, k1.get hx] at h1
      have z := congrArg (fun o => match o with | some (HO.ins _ _ fs) => fs.length | _ => 0) h1
      exact absurd z (by show ¬ (0 = 4); decide)
    refine ⟨dq, t, by rw [upd_ne hne1]; exact h1, ?_⟩
    rcases h2 with (h2 | ⟨o, h2⟩) | h2
    · exact .inl (.inl (by rw [upd_ne (fun e => by rw [e, k1.get hx] at h2; cases h2)]; exact h2))
    · exact .inl (.inr ⟨o, by rw [upd_ne (fun e => by rw [e, k1.get hx] at h2; cases h2)]; exact h2⟩)
    · exact .inr h2
  generalize (upd H1 x (.ins (He.ga K "Editor") dx (putF "page" (.ref q) []))) = H2 at kw gx aq ⊢
  -- the tapes
  refine ⟨_, rfl, ⟨_, T.names _⟩, fun D nD => ?_⟩
  refine dc_tup (K := K) (a := He.ga K "NAMES") (xs := namesV) (fun i H' => ∃ as : List Addr, as.length = i ∧ H' D = some (.dK ((names8.take i).zip (as.map V.ref))) ∧ (∀ a ∈ as, SqT K H' a []) ∧ Kq [] H2 H')
    ⟨[], rfl, upd_same, fun a ha => by simp at ha, Kq.alloc nD⟩ (fun i H' _ _ => T.names _) ?_ ?_
  · rintro i v H' hi ⟨as, hlen, hD, has, k2⟩
    have hi8 : i < 8 := by have := (List.getElem?_eq_some_iff.mp hi).1; exact this
    have hi9 : i < names8.length := hi8
    have hv : v = kV names8[i] := by
      rw [names8_V, List.getElem?_map, List.getElem?_eq_getElem hi9] at hi
      exact (Option.some.inj hi).symm
    subst hv
    refine ⟨rfl, _, rfl, line16 (by show 0 ≤ 1000000; decide), fun p np => ?_⟩
    have npD : D ≠ p := ne_of_none hD np
    refine ⟨_, names8[i], rfl, (by rw [upd_ne npD]; exact hD), ?_, as ++ [p], by simp [hlen], ?_, fun a ha => ?_, ?_⟩
    · rw [List.length_zip, List.length_take, List.length_map]
      exact small1000 (by omega)
    · rw [upd_same]
      have hno : valV ((names8.take i).zip (as.map V.ref)) names8[i] = none := valV_no fun pq hpq e => by
        have h1 : pq.1 ∈ names8.take i := (List.of_mem_zip hpq).1
        rw [e] at h1
        obtain ⟨j, hj, ej⟩ := List.mem_iff_getElem.mp h1
        rw [List.length_take] at hj
        rw [List.getElem_take] at ej
        have := (List.getElem_inj names8_nd).mp ej
        omega
      rw [putK_new _ hno, List.take_succ_eq_append_getElem hi9, List.map_append, List.zip_append (by rw [List.length_take, List.length_map]; omega)]
      rfl
    · have k3 : Kq [] H' (upd H' p (.tup [])) := Kq.alloc np
      have nD2 : ∀ xs, (upd (upd H' p (.tup [])) D (.dK xs)) = (upd (upd H' p (.tup [])) D (.dK xs)) := fun _ => rfl
      have tupD : ∀ {l ys}, SqT K (upd H' p (.tup [])) l ys → ∀ o, SqT K (upd (upd H' p (.tup [])) D (.dK o)) l ys := fun {l ys} h o => by
        rcases h with (h | ⟨u, h⟩) | h
        · exact .inl (.inl (by rw [upd_ne (fun e => by rw [e, upd_ne npD, hD] at h; cases h)]; exact h))
        · exact .inl (.inr ⟨u, by rw [upd_ne (fun e => by rw [e, upd_ne npD, hD] at h; cases h)]; exact h⟩)
        · exact .inr h
      rcases List.mem_append.mp ha with ha | ha
      · exact tupD (k3.tup (has a ha)) _
      · rw [List.mem_singleton.mp ha]
        exact tupD (SqT.of upd_same) _
    · have nD' : H2 D = none := nD
      exact Kq.writeF (k2.trans (Kq.alloc np)) nD' (by rw [upd_ne npD]; exact hD)
  rintro H3 ⟨as, hlen, hD, has, k3⟩
  have hlen : as.length = 8 := hlen
  have nDH : H D = none := kw.fr D nD
  have gx3 := k3.get gx
  have nxD : D ≠ x := ne_of_none gx nD |>.symm
  -- the rest
  refine ⟨_, rfl, x, _, dx, _, rfl, gx3, T.c_Editor, T.a_Editor_tapes, (by show 1 < 1000; decide), ?_⟩
  refine ⟨_, rfl, x, _, dx, _, rfl, upd_same, T.c_Editor, T.a_Editor_recorded, (by show 2 < 1000; decide), ?_⟩
  refine ⟨line16 (by show 0 ≤ 1000000; decide), fun pr npr => ?_⟩
  have npx : x ≠ pr := fun e => by subst e; rw [upd_same] at npr; cases npr
  refine ⟨_, rfl, x, _, dx, _, rfl, (by rw [upd_ne npx]; exact upd_same), T.c_Editor, T.a_Editor_pressed, (by show 3 < 1000; decide), ?_⟩
  refine ⟨line16 (by show 0 ≤ 1000000; decide), fun un nun => ?_⟩
  have nux : x ≠ un := fun e => by subst e; rw [upd_same] at nun; cases nun
  refine ⟨_, rfl, x, _, dx, _, rfl, (by rw [upd_ne nux]; exact upd_same), T.c_Editor, T.a_Editor_units, (by show 4 < 1000; decide), ?_⟩
  refine ⟨line16 (by show 0 ≤ 1000000; decide), fun ud nud => ?_⟩
  have ndx : x ≠ ud := fun e => by subst e; rw [upd_same] at nud; cases nud
  refine ⟨_, rfl, x, _, dx, _, rfl, (by rw [upd_ne ndx]; exact upd_same), T.c_Editor, T.a_Editor_undone, (by show 5 < 1000; decide), ?_⟩
  rw [edF_make]
  have g1 : ∀ o, (upd H3 x o) x = some o := fun o => upd_same
  have nprH : H3 pr = none := by
    by_cases e : pr = x
    · exact absurd e (Ne.symm npx)
    · rw [upd_ne e, upd_ne e] at npr; exact npr
  have e1 : un ≠ pr := fun e => by subst e; rw [upd_ne (Ne.symm nux), upd_same] at nun; cases nun
  have e2 : ud ≠ un := fun e => by subst e; rw [upd_ne (Ne.symm ndx), upd_same] at nud; cases nud
  have e3 : ud ≠ pr := fun e => by subst e; rw [upd_ne (Ne.symm ndx), upd_ne e2, upd_ne (Ne.symm ndx), upd_same] at nud; cases nud
  have nunH : H3 un = none := by rw [upd_ne (Ne.symm nux), upd_ne e1, upd_ne (Ne.symm nux), upd_ne (Ne.symm nux)] at nun; exact nun
  have nudH : H3 ud = none := by rw [upd_ne (Ne.symm ndx), upd_ne e2, upd_ne (Ne.symm ndx), upd_ne e3, upd_ne (Ne.symm ndx), upd_ne (Ne.symm ndx)] at nud; exact nud
  have dpr : D ≠ pr := ne_of_none hD nprH
  have dun : D ≠ un := ne_of_none hD nunH
  have dud : D ≠ ud := ne_of_none hD nudH
  have hm : ∀ {o : HO}, x ∈ [x] := fun {o} => by simp
  have k4 := (((((((Kq.write (S := [x]) (o := _) gx3 (by simp)).trans (Kq.write (S := [x]) (o := _) upd_same (by simp))).trans (Kq.alloc (o := .lst []) npr)).trans (Kq.write (S := [x]) (o := _) ((upd_ne npx).trans upd_same) (by simp))).trans (Kq.alloc (o := .lst []) nun)).trans (Kq.write (S := [x]) (o := _) ((upd_ne nux).trans upd_same) (by simp))).trans (Kq.alloc (o := .lst []) nud)).trans (Kq.write (S := [x]) (o := .ins (He.ga K "Editor") dx (edF q D .non pr un ud)) ((upd_ne ndx).trans upd_same) (by simp))
  refine kt hg D pr un ud _ nDH ?_ ?_ ?_ (kw.trans (k3.of.trans k4)) ?_
  · exact kw.fr _ (k3.fr _ nprH)
  · exact kw.fr _ (k3.fr _ nunH)
  · exact kw.fr _ (k3.fr _ nudH)
  refine ⟨⟨dx, q, [], [], [], upd_same, k4.page1 gx3 (k3.page aq) hqx, ?_, .nil, ?_, .nil, ?_, .nil⟩, ⟨_, k4.gets hD (by simp [nxD]), ?_, fun n hn => ?_⟩, ⟨fun n _ => by simp [EdSt.new], fun n _ k hk => by simp [EdSt.new] at hk⟩, ?_, good_ok hne hg, e1.symm, e3.symm, e2.symm, fun k hk => by simp [EdSt.new] at hk, fun u hu => by simp [EdSt.new] at hu, fun u hu => by simp [EdSt.new] at hu, fun n hn => by simp [EdSt.new] at hn⟩
  · show _ = some (HO.lst [])
    rw [upd_ne (Ne.symm npx), upd_ne e3.symm, upd_ne (Ne.symm npx), upd_ne e1.symm, upd_ne (Ne.symm npx), upd_same]
  · show _ = some (HO.lst [])
    rw [upd_ne (Ne.symm nux), upd_ne e2.symm, upd_ne (Ne.symm nux), upd_same]
  · show _ = some (HO.lst [])
    rw [upd_ne (Ne.symm ndx), upd_same]
  · rw [List.take_of_length_le (by decide +kernel), List.map_fst_zip (by rw [List.length_map, hlen]; decide +kernel)]
  · have h1 : n < names8.length := hn
    have h2 : n < (as.map V.ref).length := by rw [List.length_map]; omega
    have h3 := valV_zip h1 h2 names8_nd
    rw [names8_at hn] at h3
    refine ⟨as[n]'(by omega), ?_, [], k4.tup1 gx3 (has _ (List.getElem_mem _)), .nil⟩
    rw [List.take_of_length_le (by decide +kernel), h3, List.getElem_map]
  · exact k4.tab _ (k3.tab _ (kw.tab _ hT))
end
end KT
set_option Elab.async false
set_option linter.all false
set_option maxRecDepth 100000
set_option maxHeartbeats 4000000
namespace KT
open PySem PySem.Spec PyProof.Rows L2 GxR
variable [GT]
/-- what is fresh may be written -/
theorem Kq.fresh {S : List Addr} {H H1 H2 : Hp} (a : Kq [] H H1) (b : Kq S H1 H2) (h : ∀ c ∈ S, H c = none) : Kq [] H H2 :=
  ⟨fun c o q n m => b.at_ c o (a.get q n) n (fun z => absurd (h c z) (by rw [q]; simp)), fun p q => b.tab p (a.tab p q), fun c q => a.fr c (b.fr c q), fun p m q => b.tabS p m (a.tabS p m q)⟩
theorem PlAt.kf {K : PySem.W.Frag} {S : List Addr} {H H1 : Hp} {x t y : Addr} {tp : Nat → List Ky} {st : PSt} (h : PlAt K H x t y tp st) (k : Kf S H H1) (nx : x ∉ S) (ny : y ∉ S) (nt : t ∉ S) : PlAt K H1 x t y tp st := by
  obtain ⟨dx, p, as, h1, h2, h3, h4⟩ := h.ex
  exact ⟨⟨dx, p, as, k.q.at_ _ _ h1 rfl nx, k.page h2, k.q.at_ _ _ h3 rfl ny, k.keys h4⟩, k.tapes h.tapes nt, h.tok, k.q.tab _ h.sign, h.ok, h.small, h.low⟩
theorem Kf.mono {S S' : List Addr} {H H1 : Hp} (k : Kf S H H1) (h : ∀ b ∈ S, b ∈ S') (w : ∀ b ∈ S', ∃ o, H b = some o ∧ mutO o = true) (w' : ∀ b ∈ S', ∃ o, H1 b = some o ∧ mutO o = true) : Kf S' H H1 := ⟨k.q.mono h, w, w'⟩
/-- one list is written -/
theorem Kf.one {H : Hp} {l : Addr} {xs ys : List V} (h : H l = some (.lst xs)) : Kf [l] H (upd H l (.lst ys)) :=
  Kf.write h (by simp) rfl fun b hb => by rw [List.mem_singleton.mp hb]; exact ⟨_, h, rfl⟩
theorem recV_none {o : Option Nat} (h : recV o = .non) : o = none := by
  cases o with
  | none => rfl
  | some n => cases h
def doneE (ed : EdSt) (ky : Ky) (g : Pg) : EdSt :=
  { page := g, tapes := ed.tapes, taped := ed.taped, pressed := if ed.taped.isSome = true then ed.pressed ++ [ky] else ed.pressed,
    units := if g.rows = ed.page.rows then ed.units else ed.units ++ [(ed.page, g)], undone := if g.rows = ed.page.rows then ed.undone else [] }
def runK (ed : EdSt) (ky : Ky) : Res := doK ed.tapes 20 ky ⟨ed.page, [], 0⟩
structure EdSt.Small (ed : EdSt) : Prop where
  p : ed.pressed.length ≤ 900000
  u : ed.units.length ≤ 900000
  d : ed.undone.length ≤ 900000
theorem smallM {n : Nat} (h : n ≤ 1000000) : n < sizeLine := Nat.lt_of_le_of_lt h (by rw [sizeLine_eq]; decide)
section
variable {P : Program} {w : World} {K : PySem.W.Frag} {mg : Str → Option Value} {base : Heap}
def sp_Player___init__ (K : PySem.W.Frag) : Sp := fun vs H Q _ => ∃ x dx p t, vs = [.ref x, .ref p, .ref t] ∧ H x = some (.ins (He.ga K "Player") dx []) ∧ ∀ y H', H y = none → Kq [x] H H' → H' x = some (.ins (He.ga K "Player") dx (playerF p t y 0)) → H' y = some (.lst []) → Q .non H'
theorem sc_Player___init__ : FnScope ["self", "page", "tapes"] ["self", "page", "tapes"] (defScope s_Player___init__) := ⟨rfl, rfl, rfl, by decide +kernel, rfl, by decide +kernel, by decide +kernel⟩
theorem ok_Player___init__ (T : Tx w K mg) : Fk P w K mg base 1 (Ad K d_Player___init__.at_) ["self", "page", "tapes"] (sp_Player___init__ K) := by
  refine mkF T.f_Player___init__ sc_Player___init__ rfl (fun _ _ _ _ _ _ us hl => match us, hl with | [_, _, _], _ => rfl) (fun vs H Q E h => by obtain ⟨_, _, _, _, rfl, _⟩ := h; rfl) (fun cdv A outer s H vs Q E hcd hcode hr h => ?_)
  refine ⟨_, (pss_cons (ps_fld (pv 0) (pv 1) rfl)
      (pss_cons (ps_fld (pv 0) (pv 2) rfl)
      (pss_cons (ps_fld (pv 0) (pe_lst pa_nil) rfl)
      (pss_one (ps_fld (pv 0) pe_int rfl))))), ?_⟩
  obtain ⟨x, dx, p, t, rfl, hx, k⟩ := h
  refine ⟨_, rfl, _, rfl, x, _, dx, _, rfl, hx, T.c_Player, T.a_Player_page, (by show 0 < 1000; decide), ?_⟩
  refine ⟨_, rfl, _, rfl, x, _, dx, _, rfl, upd_same, T.c_Player, T.a_Player_tapes, (by show 1 < 1000; decide), ?_⟩
  refine ⟨line16 (by show 0 ≤ 1000000; decide), fun y ny => ?_⟩
  have nxy : x ≠ y := fun e => by subst e; rw [upd_same] at ny; cases ny
  refine ⟨_, rfl, x, _, dx, _, rfl, (by rw [upd_ne nxy]; exact upd_same), T.c_Player, T.a_Player_typed, (by show 2 < 1000; decide), ?_⟩
  refine ⟨_, rfl, x, _, dx, _, rfl, upd_same, T.c_Player, T.a_Player_things, (by show 3 < 1000; decide), ?_⟩
  rw [playerF_make]
  refine k y _ ?_ ((((Kq.write (S := [x]) (o := _) hx (by simp)).trans (Kq.write (S := [x]) (o := _) upd_same (by simp))).trans (Kq.alloc (o := .lst []) ny)).trans ((Kq.write (S := [x]) (o := _) ((upd_ne nxy).trans upd_same) (by simp)).trans (Kq.write (S := [x]) (o := .ins (He.ga K "Player") dx (playerF p t y 0)) upd_same (by simp)))) upd_same ?_
  · rw [upd_ne (Ne.symm nxy), upd_ne (Ne.symm nxy)] at ny; exact ny
  · rw [upd_ne (Ne.symm nxy), upd_ne (Ne.symm nxy), upd_same]
def sp_Player (K : PySem.W.Frag) : Sp := fun vs H Q _ => ∃ p t g tp, vs = [.ref p, .ref t] ∧ PageAt K H p g ∧ g.Ok ∧ TapesAt K H t tp ∧ TpOk tp ∧ TabG H (tS K) ∧ ∀ x y H', Kq [] H H' → H x = none → H y = none → x ≠ y → PlAt K H' x t y tp ⟨g, [], 0⟩ → Q (.ref x) H'
theorem new_Player {E : XK} : ∀ vs H Q, sp_Player K vs H Q E → ∀ x dx, H x = none → H dx = none → dx ≠ x →
    sp_Player___init__ K (.ref x :: vs) (upd (upd H dx (.own x)) x (.ins (He.ga K "Player") dx [])) (fun v H2 => v = .non ∧ Q (.ref x) H2) E := by
  rintro vs H Q ⟨p, t, g, tp, rfl, hp, hg, ht, hto, hT, k⟩ x dx nx ndx ne
  refine ⟨x, dx, p, t, rfl, upd_same, fun y H' ny k' h1 h2 => ⟨rfl, ?_⟩⟩
  have k0 : Kq [] H (upd (upd H dx (.own x)) x (.ins (He.ga K "Player") dx [])) := Kq.made nx ndx ne
  have kk : Kq [] H H' := k0.fresh k' fun c hc => by rw [List.mem_singleton.mp hc]; exact nx
  have nxy : x ≠ y := fun e => by subst e; rw [upd_same] at ny; cases ny
  exact k x y H' kk nx (k0.fr y ny) nxy ⟨⟨dx, p, [], h1, kk.page hp, h2, .nil⟩, kk.tapes ht, hto, kk.tab _ hT, hg, Nat.le_refl _, Nat.zero_le _⟩
def sp_ed_press (K : PySem.W.Frag) : Sp := fun vs H Q E => ∃ m ed a ky, vs = [.ref m.e, .ref a] ∧ EdAt K H m ed ∧ ed.Small ∧ KeyAt K H a ky ∧ ky.Ok ∧
  (runK ed ky = .long → ∀ H', Kq [] H H' → E (.ref (He.ga K "TooLong")) none H') ∧
  (∀ b st m' H', runK ed ky = .fin b st → m'.e = m.e → m'.t = m.t → m'.pr = m.pr → m'.un = m.un → (m'.ud = m.ud ∨ H m'.ud = none) → Kf m.l H H' → EdAt K H' m' (doneE ed ky st.page) → Q (.bl b) H')
theorem sc_Editor_press : FnScope ["self", "key", "player", "fits"] ["self", "key"] (defScope s_Editor_press) := ⟨rfl, rfl, rfl, by decide +kernel, rfl, by decide +kernel, by decide +kernel⟩
theorem ok_Editor_press (T : Tx w K mg) (B : TabB base mg (cS K) (tS K)) : Fk P w K mg base 70 (Ad K d_Editor_press.at_) ["self", "key"] (sp_ed_press K) := by
  have F_Player___init__ := ok_Player___init__ (P := P) (base := base) T
  have F_Player_do := ok_player (P := P) (base := base) T 20
  have F_check_key := ok_check_key (P := P) (base := base) T B
  refine mkF T.f_Editor_press sc_Editor_press rfl (fun _ _ _ _ _ _ us hl => match us, hl with | [_, _], _ => rfl) (fun vs H Q E h => by obtain ⟨_, _, _, _, rfl, _⟩ := h; rfl) (fun cdv A outer s H vs Q E hcd hcode hr h => ?_)
  refine ⟨_, (pss_cons (ps_expr (pe_cF F_check_key (hr.mono (by decide)) T.g_check_key px (pa_cons (pv 1) pa_nil)))
      (pss_cons (ps_asg (pe_kF (spN := sp_Player K) T.k_Player F_Player___init__ (hr.mono (by decide)) T.g_Player px new_Player (pa_cons (pe_fld (pv 0) rfl) (pa_cons (pe_fld (pv 0) rfl) pa_nil))) (pg_name (i := 2) sc_Editor_press.nd rfl (.inl rfl)))
      (pss_cons (ps_asg (pe_mF _ (pv 2) T.c_Player T.m_Player_do F_Player_do (hr.mono (by decide)) px (pa_cons (pv 1) (pa_cons pe_int pa_nil))) (pg_name (i := 3) sc_Editor_press.nd rfl (.inl rfl)))
      (C8.pss_cut (ps_if (pt_cmpR op_notN (pe_fld (pv 0) rfl) pe_non (nomark _)) (pss_one (ps_expr (pe_bm PySem.F.plainAttrs_list PySem.F.slot_list_append PySem.F.type_list_append mt_append (pe_fld (pv 0) rfl) (pa_cons (pv 1) pa_nil)))) pss_nil)
      (C8.pss_cut (ps_if (pt_cmpR (op_neD hr.units) (pe_fld (pe_fld (pv 2) rfl) rfl) (pe_fld (pe_fld (pv 0) rfl) rfl) (nomark _)) (pss_cons (ps_expr (pe_bm PySem.F.plainAttrs_list PySem.F.slot_list_append PySem.F.type_list_append mt_append (pe_fld (pv 0) rfl) (pa_cons (pe_tup (pa_cons (pe_fld (pv 0) rfl) (pa_cons (pe_fld (pv 2) rfl) pa_nil))) pa_nil)))
      (pss_one (ps_fld (pv 0) (pe_lst pa_nil) rfl))) pss_nil)
      (pss_cons (ps_fld (pv 0) (pe_fld (pv 2) rfl) rfl)
      (pss_one (ps_ret (pv 3))))))))), ?_⟩
  obtain ⟨m, ed, a, ky, rfl, hE, hsm, hk, kok, kl, kf⟩ := h
  refine ⟨_, rfl, a, keyV ky, fun _ => true, rfl, hk, keyV_small kok, hE.sign, fun x e => act_ok T x e, fun _ H1 k1 => ?_, fun e => absurd ((keyB_ok kok).symm.trans e) (by simp)⟩
  have hE1 := hE.kq k1
  obtain ⟨dx1, p1, ap1, au1, ad1, g1, g2, _⟩ := hE1.ex
  refine ⟨_, rfl, m.e, _, dx1, _, _, rfl, g1, T.c_Editor, T.a_Editor_page, edF_page _ _ _ _ _ _, _, rfl, m.e, _, dx1, _, _, rfl, g1, T.c_Editor, T.a_Editor_tapes, edF_tapes _ _ _ _ _ _, p1, m.t, ed.page, ed.tapes, rfl, g2, hE.ok, hE1.tapes, hE1.tok, hE1.sign, fun x y H2 k2 nx ny nxy hP => ?_⟩
  obtain ⟨dx2, p2, as2, q1, _⟩ := hP.ex
  have nxH : H x = none := k1.fr x nx
  have nyH : H y = none := k1.fr y ny
  have fr : ∀ {H3}, Kf [x, y] H2 H3 → Kq [] H H3 := fun k3 => (k1.trans k2).fresh k3.q fun c hc => by
    simp only [List.mem_cons, List.not_mem_nil, or_false] at hc
    rcases hc with rfl | rfl
    · exact nxH
    · exact nyH
  refine ⟨_, rfl, x, _, _, rfl, q1, playerF_no_do _ _ _ _, _, rfl, x, m.t, y, ed.tapes, ⟨ed.page, [], 0⟩, a, ky, rfl, hP, Nat.zero_le _, Nat.le_refl _, (k1.trans k2).key hk, kok, fun el H3 k3 => kl el H3 (fr k3), fun b st H3 eb k3 hP3 h43 => ?_⟩
  have kk := fr k3
  have hE3 := hE.kq kk
  have outx : ∀ c ∈ m.l, c ≠ x := fun c hc e => by obtain ⟨o, h1, _⟩ := hE.wr c hc; rw [e, nxH] at h1; cases h1
  have outy : ∀ c ∈ m.l, c ≠ y := fun c hc e => by obtain ⟨o, h1, _⟩ := hE.wr c hc; rw [e, nyH] at h1; cases h1
  have kf0 : Kf m.l H H3 := Kf.of kk hE.wr
  -- taping
  refine ⟨fun σ' H' => σ' = [some (.ref m.e), some (.ref a), some (.ref x), some (.bl b)] ∧ Kf m.l H H' ∧ EdAt K H' m { ed with pressed := if ed.taped.isSome = true then ed.pressed ++ [ky] else ed.pressed } ∧ PlAt K H' x m.t y ed.tapes st, ?_, ?_⟩
  · obtain ⟨dx, p, ap, au, ad, h1, h2, h3, h4, h5, h6, h7, h8⟩ := hE3.ex
    refine ⟨_, rfl, m.e, _, dx, _, _, rfl, h1, T.c_Editor, T.a_Editor_recorded, edF_recorded _ _ _ _ _ _, rfl, _, rfl, ?_⟩
    refine iteN (fun hr => ?_) (fun hr => ?_)
    · have hs : ed.taped.isSome = true := by
        cases e : ed.taped with
        | none => exact absurd (show recV ed.taped = .non by rw [e]; rfl) hr
        | some n => rfl
      refine ⟨_, rfl, m.e, _, dx, _, _, rfl, h1, T.c_Editor, T.a_Editor_pressed, edF_pressed _ _ _ _ _ _, .inl ⟨rfl, _, SqL.of h3⟩, _, rfl, m.pr, _, _, rfl, rfl, h3, smallM (by rw [List.length_map, h4.len]; have := hsm.p; omega), ?_⟩
      have k4 := Kf.one (ys := ap.map V.ref ++ [V.ref a]) h3
      have ne1 : m.e ≠ m.pr := ne_of h1 h3 (by intro z; cases z)
      obtain ⟨kvs, ht1, ht2⟩ := hE3.tapes
      have ne2 : m.t ≠ m.pr := ne_of ht1 h3 (by intro z; cases z)
      refine ⟨rfl, kf0.trans (k4.mono (fun c hc => by rw [List.mem_singleton.mp hc]; simp [EdM.l]) hE3.wr ?_), ?_, hP3.kf k4 (by simp; exact (outx m.pr (by simp [EdM.l])).symm) (by simp; exact (outy m.pr (by simp [EdM.l])).symm) (by simp [ne2])⟩
      · intro c hc
        by_cases e : c = m.pr
        · rw [e, upd_same]; exact ⟨_, rfl, rfl⟩
        · rw [upd_ne e]; exact hE3.wr c hc
      · rw [if_pos hs]
        refine ⟨⟨dx, p, ap ++ [a], au, ad, (upd_ne ne1).trans h1, k4.page h2, ?_, (k4.keys h4).snoc (k4.key (kk.key hk)), (upd_ne hE.d1.symm).trans h5, h6.imp (fun _ _ z => k4.tup z) (fun _ _ z => k4.page z), (upd_ne hE.d2.symm).trans h7, h8.imp (fun _ _ z => k4.tup z) (fun _ _ z => k4.page z)⟩, k4.tapes hE3.tapes (by simp [ne2]), hE.tok, k4.q.tab _ hE3.sign, hE.ok, hE.d1, hE.d2, hE.d3, fun k' hk' => ?_, hE.uok, hE.dok, hE.rok⟩
        · rw [upd_same, List.map_append]; rfl
        · rcases List.mem_append.mp hk' with z | z
          · exact hE.pok k' z
          · rw [List.mem_singleton.mp z]; exact kok
    · have hs : ed.taped = none := recV_none hr
      refine ⟨rfl, kf0, ?_, hP3⟩
      rw [if_neg (by rw [hs]; simp)]
      exact hE3
  rintro σ' H4 ⟨rfl, k4, hE4, hP4⟩
  -- the units
  refine ⟨fun σ' H' => σ' = [some (.ref m.e), some (.ref a), some (.ref x), some (.bl b)] ∧ ∃ ud', (ud' = m.ud ∨ H ud' = none) ∧ Kf m.l H H' ∧ EdAt K H' ⟨m.e, m.t, m.pr, m.un, ud'⟩ { doneE ed ky st.page with page := ed.page } ∧ PlAt K H' x m.t y ed.tapes st, ?_, ?_⟩
  · obtain ⟨dx, p, ap, au, ad, h1, h2, h3, h4, h5, h6, h7, h8⟩ := hE4.ex
    obtain ⟨dy, p', as', q1, q2, q3, q4⟩ := hP4.ex
    refine ⟨_, rfl, x, _, dy, _, _, rfl, q1, T.c_Player, T.a_Player_page, playerF_page _ _ _ _, rd_rows T q2 fun t1 ht1 => ⟨_, rfl, m.e, _, dx, _, _, rfl, h1, T.c_Editor, T.a_Editor_page, edF_page _ _ _ _ _ _, rd_rows T h2 fun t2 ht2 => ⟨rowsD st.page.rows, rowsD ed.page.rows, dp_rows ht1, dp_rows ht2, shaped_rows hP4.ok.sig, shaped_rows hE.ok.sig, _, rfl, ?_⟩⟩⟩
    rw [eqv_rows]
    refine iteN (fun hne => ?_) (fun heq => ?_)
    · refine ⟨_, rfl, m.e, _, dx, _, _, rfl, h1, T.c_Editor, T.a_Editor_units, edF_units _ _ _ _ _ _, .inl ⟨rfl, _, SqL.of h5⟩, _, rfl, m.e, _, dx, _, _, rfl, h1, T.c_Editor, T.a_Editor_page, edF_page _ _ _ _ _ _, _, rfl, x, _, dy, _, _, rfl, q1, T.c_Player, T.a_Player_page, playerF_page _ _ _ _, line16 (by show 2 ≤ 1000000; decide), fun u nu => ?_⟩
      have ku : Kq [] H4 (upd H4 u (.tup [.ref p, .ref p'])) := Kq.alloc nu
      have au5 := ku.get h5
      have su : SqT K (upd H4 u (.tup [.ref p, .ref p'])) u [.ref p, .ref p'] := SqT.of upd_same
      have hE5 := hE4.kq ku
      have hP5 := hP4.kq ku
      have h15 := ku.get h1
      have h25 := ku.page h2
      have h75 := ku.get h7
      have h35 := ku.get h3
      have q25 := ku.page q2
      generalize (upd H4 u (.tup [.ref p, .ref p'])) = H5 at ku au5 su hE5 hP5 h15 h25 h75 h35 q25 ⊢
      refine ⟨m.un, _, _, rfl, rfl, au5, smallM (by rw [List.length_map, h6.len]; have := hsm.u; show ed.units.length ≤ 1000000; omega), ?_⟩
      have k6 := Kf.one (ys := au.map V.ref ++ [V.ref u]) au5
      have ne1 : m.e ≠ m.un := ne_of h15 au5 (by intro z; cases z)
      obtain ⟨kvs, ht1', ht2'⟩ := hE5.tapes
      have ne2 : m.t ≠ m.un := ne_of ht1' au5 (by intro z; cases z)
      have h16 : (upd H5 m.un (.lst (au.map V.ref ++ [V.ref u]))) m.e = _ := (upd_ne ne1).trans h15
      have a16 : (upd H5 m.un (.lst (au.map V.ref ++ [V.ref u]))) m.un = _ := upd_same
      have a36 : (upd H5 m.un (.lst (au.map V.ref ++ [V.ref u]))) m.pr = _ := (upd_ne hE.d1).trans h35
      have a76 : (upd H5 m.un (.lst (au.map V.ref ++ [V.ref u]))) m.ud = _ := (upd_ne hE.d3.symm).trans h75
      have hP6 := hP5.kf k6 (by simp; exact (outx m.un (by simp [EdM.l])).symm) (by simp; exact (outy m.un (by simp [EdM.l])).symm) (by simp [ne2])
      have t6 := k6.tapes hE5.tapes (by simp [ne2])
      have kq6 : Kq m.l H (upd H5 m.un (.lst (au.map V.ref ++ [V.ref u]))) := (k4.kq ku).q.trans (k6.q.mono fun c hc => by rw [List.mem_singleton.mp hc]; simp [EdM.l])
      have w6 : ∀ c ∈ m.l, ∃ o, (upd H5 m.un (.lst (au.map V.ref ++ [V.ref u]))) c = some o ∧ mutO o = true := fun c hc => by
        by_cases e : c = m.un
        · rw [e, upd_same]; exact ⟨_, rfl, rfl⟩
        · rw [upd_ne e]; exact hE5.wr c hc
      generalize (upd H5 m.un (.lst (au.map V.ref ++ [V.ref u]))) = H6 at k6 h16 a16 a36 a76 hP6 t6 kq6 w6 ⊢
      -- self.undone = []
      refine ⟨line16 (by show 0 ≤ 1000000; decide), fun ud' nud => ?_⟩
      have nud0 : H ud' = none := kq6.fr _ nud
      have k7 : Kq [] H6 (upd H6 ud' (.lst [])) := Kq.alloc nud
      refine ⟨_, rfl, m.e, _, dx, _, rfl, k7.get h16, T.c_Editor, T.a_Editor_undone, (by show 6 < 1000; decide), ?_⟩
      rw [edF_put_undone]
      have neud : m.e ≠ ud' := ne_of_none h16 nud
      have w7 : ∀ c ∈ m.l, ∃ o, (upd H6 ud' (.lst [])) c = some o ∧ mutO o = true := fun c hc => by
        obtain ⟨o, z1, z2⟩ := w6 c hc
        exact ⟨o, k7.get z1 (mut_noTbl z2), z2⟩
      have k8 : Kf m.l (upd H6 ud' (.lst [])) (upd (upd H6 ud' (.lst [])) m.e (.ins (He.ga K "Editor") dx (edF p m.t (recV ed.taped) m.pr m.un ud'))) := Kf.write (k7.get h16) (by simp [EdM.l]) (mut_ed _ _ _ _ _ _ _ _) w7
      have k8e : Kf [m.e] (upd H6 ud' (.lst [])) (upd (upd H6 ud' (.lst [])) m.e (.ins (He.ga K "Editor") dx (edF p m.t (recV ed.taped) m.pr m.un ud'))) := Kf.write (k7.get h16) (by simp) (mut_ed _ _ _ _ _ _ _ _) fun c hc => by rw [List.mem_singleton.mp hc]; exact w7 m.e (by simp [EdM.l])
      have kall : Kf [m.e] H6 (upd (upd H6 ud' (.lst [])) m.e (.ins (He.ga K "Editor") dx (edF p m.t (recV ed.taped) m.pr m.un ud'))) := Kf.cat k7 k8e fun c hc => by rw [List.mem_singleton.mp hc]; exact w6 m.e (by simp [EdM.l])
      have net : m.t ≠ m.e := fun e => by obtain ⟨kv, z1, _⟩ := t6; rw [e, h16] at z1; cases z1
      have neun : m.un ≠ m.e := fun e => by rw [e, h16] at a16; cases a16
      have nepr : m.pr ≠ m.e := fun e => by rw [e, h16] at a36; cases a36
      refine ⟨rfl, ud', .inr nud0, ⟨kq6.trans (k7.of.trans k8.q), hE.wr, k8.w'⟩, ?_, hP6.kf kall (by simp; exact (outx m.e (by simp [EdM.l])).symm) (by simp; exact (outy m.e (by simp [EdM.l])).symm) (by simp [net])⟩
      have tr : ∀ {l xs}, SqT K H5 l xs → SqT K (upd (upd H6 ud' (.lst [])) m.e (.ins (He.ga K "Editor") dx (edF p m.t (recV ed.taped) m.pr m.un ud'))) l xs := fun h => kall.tup (k6.tup h)
      have pg : ∀ {q g}, PageAt K H5 q g → PageAt K (upd (upd H6 ud' (.lst [])) m.e (.ins (He.ga K "Editor") dx (edF p m.t (recV ed.taped) m.pr m.un ud'))) q g := fun h => kall.page (k6.page h)
      have e1 : (doneE ed ky st.page).units = ed.units ++ [(ed.page, st.page)] := if_neg hne
      have e2 : (doneE ed ky st.page).undone = [] := if_neg hne
      refine ⟨⟨dx, p, ap, au ++ [u], [], upd_same, pg h25, kall.q.gets a36 (by simp [nepr]), (h4.imp (fun _ _ z => ku.tup z)).imp fun _ _ z => tr z, ?_, ?_, ?_, ?_⟩, kall.tapes t6 (by simp [net]), hE.tok, kall.q.tab _ (k6.q.tab _ hE5.sign), hE.ok, hE.d1, (ne_of_none a36 nud), (ne_of_none a16 nud), hE4.pok, fun v hv => ?_, fun v hv => ?_, hE.rok⟩
      · rw [List.map_append]
        exact kall.q.gets a16 (by simp [neun])
      · show UnitsAt K _ (au ++ [u]) (doneE ed ky st.page).units
        rw [e1]
        exact ((h6.imp (fun _ _ z => ku.tup z) (fun _ _ z => ku.page z)).imp (fun _ _ z => tr z) (fun _ _ z => pg z)).snoc (tr su) (pg h25) (pg q25)
      · show _ = some (HO.lst [])
        rw [upd_ne neud.symm, upd_same]
      · show UnitsAt K _ [] (doneE ed ky st.page).undone
        rw [e2]
        exact .nil
      · have hv : v ∈ (doneE ed ky st.page).units := hv
        rw [e1] at hv
        rcases List.mem_append.mp hv with z | z
        · exact hE.uok v z
        · rw [List.mem_singleton.mp z]; exact ⟨hE.ok, hP4.ok⟩
      · have hv : v ∈ (doneE ed ky st.page).undone := hv
        rw [e2] at hv
        simp at hv
    · refine ⟨rfl, m.ud, .inl rfl, k4, ?_, hP4⟩
      have e1 : (doneE ed ky st.page).units = ed.units := if_pos heq
      have e2 : (doneE ed ky st.page).undone = ed.undone := if_pos heq
      have e3 : { doneE ed ky st.page with page := ed.page } = { ed with pressed := if ed.taped.isSome = true then ed.pressed ++ [ky] else ed.pressed } := by
        show EdSt.mk ed.page ed.tapes ed.taped _ (doneE ed ky st.page).units (doneE ed ky st.page).undone = _
        rw [e1, e2]; rfl
      rw [e3]
      exact hE4
  rintro σ' H5 ⟨rfl, ud', hud, k5, hE5, hP5⟩
  -- self.page = player.page
  obtain ⟨dx, p, ap, au, ad, h1, h2, h3, h4, h5, h6, h7, h8⟩ := hE5.ex
  obtain ⟨dy, p', as', q1, q2, q3, q4⟩ := hP5.ex
  refine ⟨_, rfl, x, _, dy, _, _, rfl, q1, T.c_Player, T.a_Player_page, playerF_page _ _ _ _, _, rfl, m.e, _, dx, _, rfl, h1, T.c_Editor, T.a_Editor_page, (by show 6 < 1000; decide), ?_⟩
  rw [edF_put_page]
  have ke : Kf [m.e] H5 (upd H5 m.e (.ins (He.ga K "Editor") dx (edF p' m.t (recV ed.taped) m.pr m.un ud'))) := Kf.write h1 (by simp) (mut_ed _ _ _ _ _ _ _ _) fun c hc => by rw [List.mem_singleton.mp hc]; exact ⟨_, h1, mut_ed _ _ _ _ _ _ _ _⟩
  have net : m.t ≠ m.e := fun e => by obtain ⟨kv, z1, _⟩ := hE5.tapes; have z1 : H5 m.t = _ := z1; rw [e, h1] at z1; cases z1
  refine ⟨_, rfl, kf b st ⟨m.e, m.t, m.pr, m.un, ud'⟩ _ eb rfl rfl rfl rfl hud ⟨k5.q.trans (ke.q.mono fun c hc => by rw [List.mem_singleton.mp hc]; simp [EdM.l]), hE.wr, fun c hc => ?_⟩ ?_⟩
  · by_cases e : c = m.e
    · rw [e, upd_same]; exact ⟨_, rfl, mut_ed _ _ _ _ _ _ _ _⟩
    · rw [upd_ne e]; exact k5.w' c hc
  have g : ∀ {c o}, H5 c = some o → noTbl o = true → c ≠ m.e → (upd H5 m.e (.ins (He.ga K "Editor") dx (edF p' m.t (recV ed.taped) m.pr m.un ud'))) c = some o := fun h _ n => (upd_ne n).trans h
  refine ⟨⟨dx, p', ap, au, ad, upd_same, ke.page q2, g h3 rfl (ne_of h3 h1 (by intro z; cases z)), ke.keys h4, g h5 rfl (ne_of h5 h1 (by intro z; cases z)), h6.imp (fun _ _ z => ke.tup z) (fun _ _ z => ke.page z), g h7 rfl (ne_of h7 h1 (by intro z; cases z)), h8.imp (fun _ _ z => ke.tup z) (fun _ _ z => ke.page z)⟩,
    ke.tapes hE5.tapes (by simp [net]), hE.tok, ke.q.tab _ hE5.sign, hP5.ok, hE5.d1, hE5.d2, hE5.d3, hE5.pok, hE5.uok, hE5.dok, hE5.rok⟩
end
end KT
set_option Elab.async false
set_option linter.all false
set_option maxRecDepth 100000
set_option maxHeartbeats 4000000
namespace KT
open PySem PySem.Spec PyProof.Rows L2 GxR
variable [GT]
/-- a list == [] -/
theorem op_eqE {X : Cx} (hu : X.A.units < cLine) : OpR X (compareOp .Eq) (fun x y H Q => ∃ (a b : Addr) (xs : List V), x = .ref a ∧ y = .ref b ∧ SqL X.K H a xs ∧ SqL X.K H b [] ∧ Q (.bl xs.isEmpty) H) := by
  intro pins s σ H x y v u Q I rx ry h
  obtain ⟨a, b, xs, e1, e2, ha, hb, k⟩ := h
  subst e1 e2
  cases rx
  cases ry
  obtain ⟨is1, v1, t1, _⟩ := I.list ha
  obtain ⟨is2, v2, t2, _⟩ := I.list hb
  have l1 := v1.length
  have l2 := v2.length
  cases xs with
  | nil =>
    refine PySem.SeqAt.eq_listAt (e := fun _ => true) t1.isList t2.isList (by simp at l1 l2 ⊢; omega) hu (fun i h1 h2 => ?_) ⟨.bl true, H, I, ?_, k⟩
    · simp at l1; simp at h1; omega
    · have h0 : is1.toArray.size = 0 := by rw [List.size_toArray]; simpa using l1.symm
      rw [h0]; rfl
  | cons x xs =>
    exact PySem.SeqAt.eq_list_lengthsAt t1.isList t2.isList (by simp at l1 l2 ⊢; omega) hu ⟨.bl false, H, I, rfl, k⟩
end KT
set_option Elab.async false
set_option linter.all false
set_option maxRecDepth 100000
set_option maxHeartbeats 4000000
namespace KT
open PySem PySem.Spec PyProof.Rows L2 GxR
variable [GT]
section
variable {P : Program} {w : World} {K : PySem.W.Frag} {mg : Str → Option Value} {base : Heap}
theorem put_keys8 {kvs : List (Key × V)} {k : Key} {v : V} (h : k ∈ kvs.map (·.1)) : (putK kvs k v).map (·.1) = kvs.map (·.1) := by
  unfold putK
  have : (kvs.any fun kv => decide (kv.fst = k)) = true := by
    rw [List.any_eq_true]
    obtain ⟨p, hp, e⟩ := List.mem_map.mp h
    exact ⟨p, hp, decide_eq_true e⟩
  rw [if_pos this, List.map_map]
  refine List.map_congr_left fun p _ => ?_
  simp only [Function.comp]
  split <;> simp_all
theorem name_mem {n : Nat} (h : n < 8) : (.inr (nameS n) : Key) ∈ names8 := by
  rw [← names8_at h]
  exact List.getElem_mem _
theorem name_inj {i n : Nat} (h : nameS i = nameS n) : i = n := by
  have := S_inj h
  simp at this
  omega
def sp_check_name (K : PySem.W.Frag) : Sp := fun vs H Q E => ∃ v, vs = [v] ∧ flatV v = true ∧ (nameB v = true → Q .non H) ∧ (nameB v = false → E (.ref (He.ga K "BadName")) none H)
theorem sc_check_name : FnScope ["name"] ["name"] (defScope s_check_name) := ⟨rfl, rfl, rfl, by decide +kernel, rfl, by decide +kernel, by decide +kernel⟩
theorem ok_check_name (T : Tx w K mg) : Fk P w K mg base 1 (Ad K d_check_name.at_) ["name"] (sp_check_name K) := by
  refine mkF T.f_check_name sc_check_name rfl (fun _ _ _ _ _ _ us hl => match us, hl with | [_], _ => rfl) (fun vs H Q E h => by obtain ⟨_, rfl, _⟩ := h; rfl) (fun cdv A outer s H vs Q E hcd hcode hr h => ?_)
  have tk : Takes (CxD P w K mg base ["name"] d_check_name cdv A outer s H E) (fun cls d _ H => E cls d H) := takes_of rfl rfl rfl rfl
  refine ⟨_, (pss_one (ps_if (pt_cmpR op_notIn_seq (pv 0) (pe_glob (v := .ref (He.ga K "NAMES")) (by rfl) T.g_NAMES rfl) (by rfl)) (pss_one (ps_raise rfl tk (pmk_BadName T rfl))) pss_nil)), ?_⟩
  obtain ⟨v, rfl, hf, kt, kf⟩ := h
  refine ⟨_, rfl, _, _, rfl, .inr (T.names H), hf, by decide +kernel, _, rfl, ?_⟩
  cases hn : inV v namesV with
  | true => exact iteF (kt hn)
  | false => exact iteT (kf hn)
def sp_check_each (K : PySem.W.Frag) : Sp := fun vs H Q _ => ∃ a as ks m, vs = [.ref a, .int m, .ref (Ad K d_is_key.at_)] ∧ SqT K H a (as.map V.ref) ∧ KeysAt K H as ks ∧ (∀ k ∈ ks, k.Ok) ∧ (ks.length : Int) ≤ m ∧ TabG H (tS K) ∧ ∀ H', Kq [] H H' → Q .non H'
theorem sc_check_each : FnScope ["keys", "most", "belongs", "at", "key"] ["keys", "most", "belongs"] (defScope s_check_each) := ⟨rfl, rfl, rfl, by decide +kernel, rfl, by decide +kernel, by decide +kernel⟩
theorem ok_check_each (T : Tx w K mg) (B : TabB base mg (cS K) (tS K)) : Fk P w K mg base 4 (Ad K d_check_each.at_) ["keys", "most", "belongs"] (sp_check_each K) := by
  have F_is_key := ok_is_key (P := P) (base := base) T B
  refine mkF T.f_check_each sc_check_each rfl (fun _ _ _ _ _ _ us hl => match us, hl with | [_, _, _], _ => rfl) (fun vs H Q E h => by obtain ⟨_, _, _, _, rfl, _⟩ := h; rfl) (fun cdv A outer s H vs Q E hcd hcode hr h => ?_)
  have po : PassesOwn (model P w) (CxD P w K mg base ["keys", "most", "belongs", "at", "key"] d_check_each cdv A outer s H E).A (CxD P w K mg base ["keys", "most", "belongs", "at", "key"] d_check_each cdv A outer s H E).env (CxD P w K mg base ["keys", "most", "belongs", "at", "key"] d_check_each cdv A outer s H E).xe := passes_of rfl
  refine ⟨_, (pss_one (ps_for po rfl (pi_enumT (by rfl) T.n_enumerate (pa_cons (pv 0) pa_nil)) (pg_tup rfl (pgs_cons (pg_name (i := 3) sc_check_each.nd rfl (.inl rfl)) (pgs_cons (pg_name (i := 4) sc_check_each.nd rfl (.inl rfl)) pgs_nil))) (pss_one (ps_if ((pw_or (pt_cmpR op_ge (pv 3) (pv 1) (nomark _)) (pw_or1 (pt_not (pt_val (pe_callV (i := 2) hr px (pa_cons (pv 4) pa_nil))))))).pt (pss_one ps_never) pss_nil)))), ?_⟩
  obtain ⟨a, as, ks, m, rfl, ha, hk, hok, hm, hT, kQ⟩ := h
  refine ⟨_, rfl, a, _, rfl, ha, ?_⟩
  refine for_enumT (K := K) (a := a) (xs := as.map V.ref) (fun i σ H' => Kq [] H H' ∧ ∃ v1 v2, σ = [some (.ref a), some (.int m), some (.ref (Ad K d_is_key.at_)), v1, v2]) ⟨Kq.refl, none, none, rfl⟩ (fun i σ H' z => z.1.tup ha) ?_ ?_
  · rintro i x Tq σ H' hx ⟨k1, v1, v2, rfl⟩ nT
    have hi : i < as.length := by
      have := (List.getElem?_eq_some_iff.mp hx).1
      rwa [List.length_map] at this
    have hl := hk.len
    have hik : i < ks.length := by omega
    rw [List.getElem?_map, List.getElem?_eq_getElem hi] at hx
    cases hx
    have kT : Kq [] H' (upd H' Tq (.tup [.int (i : Nat), .ref as[i]])) := Kq.alloc nT
    have k2 := k1.trans kT
    have hki := (k2.keys hk).at_ hi hik
    have kok := hok _ (List.getElem_mem hik)
    refine ⟨Tq, _, rfl, SqT.of upd_same, rfl, _, _, rfl, _, _, rfl, rfl, ?_⟩
    refine ⟨_, rfl, _, rfl, _, _, rfl, rfl, _, rfl, iteD (fun h => absurd h (by omega)) (fun _ => ?_)⟩
    refine ⟨_, _, _, rfl, F_is_key, _, rfl, as[i], keyV ks[i], fun _ => true, rfl, hki, keyV_small kok, k2.tab _ hT, fun x e => act_ok T x e, fun H3 k3 => ?_⟩
    rw [keyB_ok kok]
    exact ⟨_, rfl, iteF ⟨k2.trans k3, _, _, rfl⟩⟩
  · rintro σ H' ⟨k1, v1, v2, rfl⟩
    exact kQ H' k1
def sp_check_keys (K : PySem.W.Frag) : Sp := fun vs H Q _ => ∃ a as ks, vs = [.ref a] ∧ SqT K H a (as.map V.ref) ∧ KeysAt K H as ks ∧ (∀ k ∈ ks, k.Ok) ∧ ks.length ≤ 30 ∧ TabG H (tS K) ∧ ∀ H', Kq [] H H' → Q .non H'
theorem sc_check_keys : FnScope ["keys"] ["keys"] (defScope s_check_keys) := ⟨rfl, rfl, rfl, by decide +kernel, rfl, by decide +kernel, by decide +kernel⟩
theorem ok_check_keys (T : Tx w K mg) (B : TabB base mg (cS K) (tS K)) : Fk P w K mg base 5 (Ad K d_check_keys.at_) ["keys"] (sp_check_keys K) := by
  obtain ⟨t_MOST_KEYS, h_MOST_KEYS⟩ := T.i_MOST_KEYS
  have F_check_each := ok_check_each (P := P) (base := base) T B
  refine mkF T.f_check_keys sc_check_keys rfl (fun _ _ _ _ _ _ us hl => match us, hl with | [_], _ => rfl) (fun vs H Q E h => by obtain ⟨_, _, _, rfl, _⟩ := h; rfl) (fun cdv A outer s H vs Q E hcd hcode hr h => ?_)
  refine ⟨_, (pss_one (ps_expr (pe_cF F_check_each (hr.mono (by decide)) T.g_check_each px (pa_cons (pv 0) (pa_cons (pe_glob (v := .int 30) (by rfl) h_MOST_KEYS ⟨_, rfl⟩) (pa_cons (pe_glob (v := .ref (Ad K d_is_key.at_)) rfl T.g_is_key rfl) pa_nil)))))), ?_⟩
  obtain ⟨a, as, ks, rfl, ha, hk, hok, h30, hT, kQ⟩ := h
  exact ⟨_, rfl, a, as, ks, 30, rfl, ha, hk, hok, by omega, hT, kQ⟩
def sp_ed_tape (K : PySem.W.Frag) : Sp := fun vs H Q _ => ∃ m ed n a as ks, vs = [.ref m.e, .str (nameS n), .ref a] ∧ EdAt K H m ed ∧ n < 8 ∧ SqT K H a (as.map V.ref) ∧ KeysAt K H as ks ∧ (∀ k ∈ ks, k.Ok) ∧ ks.length ≤ 30 ∧
  ∀ H', Kf [m.t] H H' → EdAt K H' m { ed with tapes := fun i => if i = n then ks else ed.tapes i } → Q .non H'
theorem sc_Editor_tape : FnScope ["self", "name", "keys"] ["self", "name", "keys"] (defScope s_Editor_tape) := ⟨rfl, rfl, rfl, by decide +kernel, rfl, by decide +kernel, by decide +kernel⟩
theorem ok_Editor_tape (T : Tx w K mg) (B : TabB base mg (cS K) (tS K)) : Fk P w K mg base 6 (Ad K d_Editor_tape.at_) ["self", "name", "keys"] (sp_ed_tape K) := by
  have F_check_keys := ok_check_keys (P := P) (base := base) T B
  have F_check_name := ok_check_name (P := P) (base := base) T
  refine mkF T.f_Editor_tape sc_Editor_tape rfl (fun _ _ _ _ _ _ us hl => match us, hl with | [_, _, _], _ => rfl) (fun vs H Q E h => by obtain ⟨_, _, _, _, _, _, rfl, _⟩ := h; rfl) (fun cdv A outer s H vs Q E hcd hcode hr h => ?_)
  refine ⟨_, (pss_cons (ps_expr (pe_cF F_check_name (hr.mono (by decide)) T.g_check_name px (pa_cons (pv 1) pa_nil)))
      (pss_cons (ps_expr (pe_cF F_check_keys (hr.mono (by decide)) T.g_check_keys px (pa_cons (pv 2) pa_nil)))
      (pss_one (ps_dput (hu_of hr) (pe_fld (pv 0) rfl) (pv 1) (pe_callTy call_tuple_of (by rfl) T.n_tuple (by decide +kernel) (pa_cons (pv 2) pa_nil)) rfl)))), ?_⟩
  obtain ⟨m, ed, n, a, as, ks, rfl, hE, hn, ha, hk, hok, h30, kQ⟩ := h
  refine ⟨_, rfl, _, rfl, rfl, fun _ => ?_, fun e => absurd ((nameB_ok hn).symm.trans e) (by simp)⟩
  refine ⟨_, rfl, a, as, ks, rfl, ha, hk, hok, h30, hE.sign, fun H1 k1 => ?_⟩
  have hE1 := hE.kq k1
  refine ⟨_, rfl, a, _, rfl, .inr ⟨k1.tup ha, ?_⟩⟩
  obtain ⟨dx, p, ap, au, ad, h1, h2, h3, h4, h5, h6, h7, h8⟩ := hE1.ex
  obtain ⟨kvs, t1, t2, t3⟩ := hE1.tapes
  have hl8 : kvs.length = 8 := by
    have := congrArg List.length t2
    rw [List.length_map] at this
    exact this
  refine ⟨_, rfl, m.e, _, dx, _, _, rfl, h1, T.c_Editor, T.a_Editor_tapes, edF_tapes _ _ _ _ _ _, _, rfl, m.t, _, rfl, .inl ⟨kvs, .inr (nameS n), t1, rfl, small1000 (by omega), rfl⟩, ?_⟩
  have kw : Kf [m.t] H1 (upd H1 m.t (.dK (putK kvs (.inr (nameS n)) (.ref a)))) := Kf.write t1 (by simp) rfl fun c hc => by rw [List.mem_singleton.mp hc]; exact ⟨_, t1, rfl⟩
  refine kQ _ (Kf.cat k1 kw fun c hc => ?_) ?_
  · obtain ⟨kv0, z1, _⟩ := hE.tapes
    rw [List.mem_singleton.mp hc]; exact ⟨_, z1, rfl⟩
  have ne : ∀ {c o}, H1 c = some o → (∀ kv, o ≠ .dK kv) → c ≠ m.t := fun h n e => by rw [e, t1] at h; cases h; exact n _ rfl
  refine ⟨⟨dx, p, ap, au, ad, kw.q.gets h1 (by simp; exact ne h1 (by simp)), kw.page h2, kw.q.gets h3 (by simp; exact ne h3 (by simp)), kw.keys h4, kw.q.gets h5 (by simp; exact ne h5 (by simp)), h6.imp (fun _ _ z => kw.tup z) (fun _ _ z => kw.page z), kw.q.gets h7 (by simp; exact ne h7 (by simp)), h8.imp (fun _ _ z => kw.tup z) (fun _ _ z => kw.page z)⟩, ?_, ⟨?_, ?_⟩, kw.q.tab _ hE1.sign, hE.ok, hE.d1, hE.d2, hE.d3, hE.pok, hE.uok, hE.dok, hE.rok⟩
  · refine ⟨_, upd_same, by rw [put_keys8 (by rw [t2]; exact name_mem hn)]; exact t2, fun i hi => ?_⟩
    show ∃ b, valV (putK kvs (.inr (nameS n)) (.ref a)) (.inr (nameS i)) = some (.ref b) ∧ TapeAt K _ b (if i = n then ks else ed.tapes i)
    rw [valV_put]
    by_cases e : i = n
    · subst e
      rw [if_pos rfl, if_pos rfl]
      exact ⟨a, rfl, as, kw.tup (k1.tup ha), kw.keys (k1.keys hk)⟩
    · rw [if_neg (fun z => e (name_inj (Sum.inr.inj z))), if_neg e]
      obtain ⟨b, b1, b2⟩ := t3 i hi
      exact ⟨b, b1, kw.tape b2⟩
  · intro i hi
    show (if i = n then ks else ed.tapes i).length ≤ 30
    split
    · exact h30
    · exact hE.tok.len i hi
  · intro i hi
    show ∀ k ∈ (if i = n then ks else ed.tapes i), k.Ok
    split
    · exact hok
    · exact hE.tok.ok i hi
def sp_ed_go_to (K : PySem.W.Frag) : Sp := fun vs H Q _ => ∃ m ed q g, vs = [.ref m.e, .ref q] ∧ EdAt K H m ed ∧ PageAt K H q g ∧ g.Ok ∧ ∀ H', Kf [m.e] H H' → EdAt K H' m { ed with page := { g with clip := ed.page.clip } } → Q .non H'
theorem sc_Editor_go_to : FnScope ["self", "page"] ["self", "page"] (defScope s_Editor_go_to) := ⟨rfl, rfl, rfl, by decide +kernel, rfl, by decide +kernel, by decide +kernel⟩
theorem ok_Editor_go_to (T : Tx w K mg) : Fk P w K mg base 3 (Ad K d_Editor_go_to.at_) ["self", "page"] (sp_ed_go_to K) := by
  have F_Page___init__ := ok_Page___init__ (P := P) (base := base) T
  refine mkF T.f_Editor_go_to sc_Editor_go_to rfl (fun _ _ _ _ _ _ us hl => match us, hl with | [_, _], _ => rfl) (fun vs H Q E h => by obtain ⟨_, _, _, _, rfl, _⟩ := h; rfl) (fun cdv A outer s H vs Q E hcd hcode hr h => ?_)
  refine ⟨_, (pss_one (ps_fld (pv 0) (pe_kF (spN := sp_Page K) T.k_Page F_Page___init__ (hr.mono (by decide)) T.g_Page px new_Page (pa_cons (pe_fld (pv 1) rfl) (pa_cons (pe_fld (pv 1) rfl) (pa_cons (pe_fld (pv 1) rfl) (pa_cons (pe_fld (pe_fld (pv 0) rfl) rfl) pa_nil))))) rfl)), ?_⟩
  obtain ⟨m, ed, q, g, rfl, hE, hq, hg, kQ⟩ := h
  obtain ⟨dx, p, ap, au, ad, h1, h2, h3, h4, h5, h6, h7, h8⟩ := hE.ex
  refine ⟨_, rfl, rd_rows T hq fun t ht => ⟨_, rfl, rd_row T hq ⟨_, rfl, rd_col T hq ⟨_, rfl, m.e, _, dx, _, _, rfl, h1, T.c_Editor, T.a_Editor_page, edF_page _ _ _ _ _ _, rd_clip T h2 ⟨t, _, _, _, { g with clip := ed.page.clip }, rfl, rfl, rfl, rfl, ht, fun q2 H2 k2 a2 => ?_⟩⟩⟩⟩⟩
  have h12 := k2.get h1
  refine ⟨_, rfl, m.e, _, dx, _, rfl, h12, T.c_Editor, T.a_Editor_page, (by show 6 < 1000; decide), ?_⟩
  rw [edF_put_page]
  have we : ∀ c ∈ [m.e], ∃ o, H2 c = some o ∧ mutO o = true := fun c hc => by rw [List.mem_singleton.mp hc]; exact ⟨_, h12, mut_ed _ _ _ _ _ _ _ _⟩
  have kw : Kf [m.e] H2 (upd H2 m.e (.ins (He.ga K "Editor") dx (edF q2 m.t (recV ed.taped) m.pr m.un m.ud))) := Kf.write h12 (by simp) (mut_ed _ _ _ _ _ _ _ _) we
  have ne : ∀ {c o}, H2 c = some o → (∀ C d f, o ≠ .ins C d f) → c ≠ m.e := fun h n e => by rw [e, h12] at h; cases h; exact n _ _ _ rfl
  have hE2 := hE.kq k2
  refine kQ _ (Kf.cat k2 kw fun c hc => by rw [List.mem_singleton.mp hc]; exact ⟨_, h1, mut_ed _ _ _ _ _ _ _ _⟩) ⟨⟨dx, q2, ap, au, ad, upd_same, kw.page a2, kw.q.gets (k2.get h3) (by simp; exact ne (k2.get h3) (by simp)), kw.keys (k2.keys h4), kw.q.gets (k2.get h5) (by simp; exact ne (k2.get h5) (by simp)), h6.imp (fun _ _ z => kw.tup (k2.tup z)) (fun _ _ z => kw.page (k2.page z)), kw.q.gets (k2.get h7) (by simp; exact ne (k2.get h7) (by simp)), h8.imp (fun _ _ z => kw.tup (k2.tup z)) (fun _ _ z => kw.page (k2.page z))⟩, kw.tapes hE2.tapes ?_, hE.tok, kw.q.tab _ hE2.sign, ⟨hg.many, hg.long, hg.row, hg.col, hE.ok.clip, hg.sig, hE.ok.csig⟩, hE.d1, hE.d2, hE.d3, hE.pok, hE.uok, hE.dok, hE.rok⟩
  obtain ⟨kvs, z1, _⟩ := hE2.tapes
  simp
  exact ne z1 (by simp)
theorem UnitsAt.last {K : PySem.W.Frag} {H : Hp} {as : List Addr} {us : List (Pg × Pg)} (h : UnitsAt K H as us) (hne : us ≠ []) :
    ∃ a p q as' us' u, as = as' ++ [a] ∧ us = us' ++ [u] ∧ UnitsAt K H as' us' ∧ SqT K H a [.ref p, .ref q] ∧ PageAt K H p u.1 ∧ PageAt K H q u.2 := by
  induction h with
  | nil => exact absurd rfl hne
  | @cons a p q u as us h h1 h2 r ih =>
    cases us with
    | nil =>
      cases r
      exact ⟨a, p, q, [], [], u, rfl, rfl, .nil, h, h1, h2⟩
    | cons u2 ur =>
      obtain ⟨a', p', q', as', us', u', e1, e2, h3, h4, h5, h6⟩ := ih (by simp)
      exact ⟨a', p', q', a :: as', u :: us', u', by rw [e1]; rfl, by rw [e2]; rfl, .cons h h1 h2 h3, h4, h5, h6⟩
theorem edF_no_goto (p t : Addr) (r : V) (pr un ud : Addr) : (edF p t r pr un ud).lookup ("go_to" : Str) = none := by kernel_rfl
def backE (ed : EdSt) : EdSt := match ed.units.getLast? with
  | none => ed
  | some u => { ed with page := { u.1 with clip := ed.page.clip }, units := ed.units.dropLast, undone := ed.undone ++ [u] }
def sp_ed_back (K : PySem.W.Frag) : Sp := fun vs H Q _ => ∃ m ed, vs = [.ref m.e] ∧ EdAt K H m ed ∧ ed.Small ∧ ∀ H', Kf m.l H H' → EdAt K H' m (backE ed) → Q (.bl (!ed.units.isEmpty)) H'
theorem sc_Editor_back : FnScope ["self", "unit"] ["self"] (defScope s_Editor_back) := ⟨rfl, rfl, rfl, by decide +kernel, rfl, by decide +kernel, by decide +kernel⟩
theorem ok_Editor_back (T : Tx w K mg) : Fk P w K mg base 4 (Ad K d_Editor_back.at_) ["self"] (sp_ed_back K) := by
  have F_Editor_go_to := ok_Editor_go_to (P := P) (base := base) T
  refine mkF T.f_Editor_back sc_Editor_back rfl (fun _ _ _ _ _ _ us hl => match us, hl with | [_], _ => rfl) (fun vs H Q E h => by obtain ⟨_, _, rfl, _⟩ := h; rfl) (fun cdv A outer s H vs Q E hcd hcode hr h => ?_)
  refine ⟨_, (pss_cons (ps_if (pt_cmpR (op_eqE hr.units0) (pe_fld (pv 0) rfl) (pe_lst pa_nil) (nomark _)) (pss_one (ps_ret pe_bl)) pss_nil)
      (pss_cons (ps_asg (pe_bm0 PySem.F.plainAttrs_list PySem.F.slot_list_pop PySem.F.type_list_pop mt_pop (pe_fld (pv 0) rfl)) (pg_name (i := 1) sc_Editor_back.nd rfl (.inl rfl)))
      (pss_cons (ps_expr (pe_bm PySem.F.plainAttrs_list PySem.F.slot_list_append PySem.F.type_list_append mt_append (pe_fld (pv 0) rfl) (pa_cons (pv 1) pa_nil)))
      (pss_cons (ps_expr (pe_mF _ (pv 0) T.c_Editor T.m_Editor_go_to F_Editor_go_to (hr.mono (by decide)) px (pa_cons (pe_ix ix_tup (pv 1) pe_int (fun _ _ => rfl)) pa_nil)))
      (pss_one (ps_ret pe_bl)))))), ?_⟩
  obtain ⟨m, ed, rfl, hE, hsm, kQ⟩ := h
  obtain ⟨dx, p, ap, au, ad, h1, h2, h3, h4, h5, h6, h7, h8⟩ := hE.ex
  refine ⟨_, rfl, m.e, _, dx, _, _, rfl, h1, T.c_Editor, T.a_Editor_units, edF_units _ _ _ _ _ _, line16 (by show 0 ≤ 1000000; decide), fun z nz => ?_⟩
  have k1 : Kq [] H (upd H z (.lst [])) := Kq.alloc nz
  refine ⟨m.un, z, au.map V.ref, rfl, rfl, SqL.of (k1.get h5), SqL.of upd_same, _, rfl, ?_⟩
  have hul := h6.len
  have hE1 := hE.kq k1
  by_cases hu : ed.units = []
  · have ha : au = [] := List.length_eq_zero_iff.mp (by rw [hul, hu]; rfl)
    rw [ha]
    refine iteT ?_
    have := kQ _ (Kf.of k1 hE.wr) (by unfold backE; rw [hu]; exact hE1)
    rw [hu] at this
    exact this
  have hne : au ≠ [] := fun e => by rw [e] at hul; exact hu (List.length_eq_zero_iff.mp (by rw [← hul]; rfl))
  rw [show (au.map V.ref).isEmpty = false by cases au <;> first | rfl | exact absurd rfl hne]
  refine iteF ?_
  obtain ⟨a, p1, q1, as', us', u, ea, eu, hr, ha, hp1, hq1⟩ := (h6.imp (fun _ _ z => k1.tup z) (fun _ _ z => k1.page z)).last hu
  have k1' := k1
  have g1 := k1.get h1
  have g3 := k1.get h3
  have g5 := k1.get h5
  have g7 := k1.get h7
  have hw1 := hE1.wr
  have gp := k1.page h2
  generalize (upd H z (.lst [])) = H1 at k1 k1' hE1 hr ha hp1 hq1 g1 g3 g5 g7 hw1 gp ⊢
  rw [ea] at g5
  refine ⟨_, rfl, m.e, _, dx, _, _, rfl, g1, T.c_Editor, T.a_Editor_units, edF_units _ _ _ _ _ _, .inl ⟨rfl, _, SqL.of g5⟩, m.un, _, .ref a, rfl, rfl, g5, by simp, ?_⟩
  have k2 : Kf m.l H1 (upd H1 m.un (.lst (((as' ++ [a]).map V.ref).dropLast))) := Kf.write g5 (by simp [EdM.l]) rfl hw1
  rw [show ((as' ++ [a]).map V.ref).dropLast = as'.map V.ref by simp] at k2 ⊢
  have neu : m.e ≠ m.un := ne_of g1 g5 (by intro z; cases z)
  have f1 : (upd H1 m.un (.lst (as'.map V.ref))) m.e = _ := (upd_ne neu).trans g1
  have f3 : (upd H1 m.un (.lst (as'.map V.ref))) m.pr = _ := (upd_ne hE.d1).trans g3
  have f5 : (upd H1 m.un (.lst (as'.map V.ref))) m.un = _ := upd_same
  have f7 : (upd H1 m.un (.lst (as'.map V.ref))) m.ud = _ := (upd_ne hE.d3.symm).trans g7
  have hw2 := k2.w'
  have ha2 := k2.tup ha
  obtain ⟨kvs, z1, z2⟩ := hE1.tapes
  have neT1 : m.t ≠ m.un := ne_of z1 g5 (by intro z; cases z)
  have neT2 : m.t ≠ m.ud := ne_of z1 g7 (by intro z; cases z)
  have tp2 := (Kf.one (ys := as'.map V.ref) g5).tapes hE1.tapes (by simp [neT1])
  generalize (upd H1 m.un (.lst (as'.map V.ref))) = H2 at k2 f1 f3 f5 f7 hw2 ha2 tp2 ⊢
  have hdl := h8.len
  refine ⟨_, rfl, m.e, _, dx, _, _, rfl, f1, T.c_Editor, T.a_Editor_undone, edF_undone _ _ _ _ _ _, .inl ⟨rfl, _, SqL.of f7⟩, _, rfl, m.ud, _, _, rfl, rfl, f7, smallM (by rw [List.length_map, hdl]; have := hsm.d; omega), ?_⟩
  have k3 : Kf m.l H2 (upd H2 m.ud (.lst (ad.map V.ref ++ [.ref a]))) := Kf.write f7 (by simp [EdM.l]) rfl hw2
  have ned : m.e ≠ m.ud := ne_of f1 f7 (by intro z; cases z)
  have b1 : (upd H2 m.ud (.lst (ad.map V.ref ++ [.ref a]))) m.e = _ := (upd_ne ned).trans f1
  have b3 : (upd H2 m.ud (.lst (ad.map V.ref ++ [.ref a]))) m.pr = _ := (upd_ne hE.d2).trans f3
  have b5 : (upd H2 m.ud (.lst (ad.map V.ref ++ [.ref a]))) m.un = _ := (upd_ne hE.d3).trans f5
  have b7 : (upd H2 m.ud (.lst (ad.map V.ref ++ [.ref a]))) m.ud = _ := upd_same
  have k23 := k2.trans k3
  have hu1 : u.1.Ok ∧ u.2.Ok := hE.uok u (by rw [eu]; simp)
  have tp3 := (Kf.one (ys := ad.map V.ref ++ [.ref a]) f7).tapes tp2 (by simp [neT2])
  have hE3 : EdAt K (upd H2 m.ud (.lst (ad.map V.ref ++ [.ref a]))) m { ed with units := us', undone := ed.undone ++ [u] } := by
    refine ⟨⟨dx, p, ap, as', ad ++ [a], b1, k23.page gp, b3, k23.keys (k1'.keys h4), b5, hr.imp (fun _ _ z => k23.tup z) (fun _ _ z => k23.page z), by rw [b7, List.map_append]; rfl, ?_⟩, tp3, hE.tok, k23.q.tab _ hE1.sign, hE.ok, hE.d1, hE.d2, hE.d3, hE.pok, fun v hv => hE.uok v (by rw [eu]; exact List.mem_append_left _ hv), fun v hv => ?_, hE.rok⟩
    · exact ((h8.imp (fun _ _ z => k1'.tup z) (fun _ _ z => k1'.page z)).imp (fun _ _ z => k23.tup z) (fun _ _ z => k23.page z)).snoc (k23.tup ha) (k23.page hp1) (k23.page hq1)
    · rcases List.mem_append.mp hv with z | z
      · exact hE.dok v z
      · rw [List.mem_singleton.mp z]; exact hu1
  have ha3 := k23.tup ha
  have hp3 := k23.page hp1
  generalize (upd H2 m.ud (.lst (ad.map V.ref ++ [.ref a]))) = H3 at k3 b1 b3 b5 b7 k23 tp3 hE3 ha3 hp3 ⊢
  refine ⟨_, rfl, m.e, dx, _, rfl, b1, edF_no_goto _ _ _ _ _ _, _, rfl, a, _, _, _, rfl, rfl, ha3, at_of (j := 0) rfl rfl, m, _, p1, u.1, rfl, hE3, hp3, hu1.1, fun H4 k4 hE4 => ?_⟩
  have e1 : backE ed = { ed with page := { u.1 with clip := ed.page.clip }, units := us', undone := ed.undone ++ [u] } := by
    unfold backE
    rw [eu, List.getLast?_append, List.getLast?_singleton]
    show EdSt.mk _ _ _ _ ((us' ++ [u]).dropLast) _ = _
    rw [List.dropLast_concat]
  have e2 : (!ed.units.isEmpty) = true := by rw [eu]; simp
  rw [e2] at kQ
  refine kQ H4 (Kf.cat k1' (k23.trans (k4.mono (fun c hc => by rw [List.mem_singleton.mp hc]; simp [EdM.l]) k23.w' hE4.wr)) hE.wr) ?_
  rw [e1]
  exact hE4
end
end KT
set_option Elab.async false
set_option linter.all false
set_option maxRecDepth 100000
set_option maxHeartbeats 4000000
namespace KT
open PySem PySem.Spec PyProof.Rows L2 GxR
variable [GT]
/-! ### the drawer of numbers -/
def DrAt (H : Hp) (h l : Addr) : Prop := ∃ (a c : Int) (xs : List Int), H h = some (.lst [.int a, .ref l, .int c]) ∧ H l = some (.lst (xs.map V.int)) ∧ h ≠ l
theorem DrAt.kq {H H1 : Hp} {h l : Addr} (d : DrAt H h l) (k : Kq [] H H1) : DrAt H1 h l := by
  obtain ⟨a, c, xs, h1, h2, ne⟩ := d
  exact ⟨a, c, xs, k.get h1, k.get h2, ne⟩
theorem DrAt.kf {S : List Addr} {H H1 : Hp} {h l : Addr} (d : DrAt H h l) (k : Kf S H H1) (n1 : h ∉ S) (n2 : l ∉ S) : DrAt H1 h l := by
  obtain ⟨a, c, xs, h1, h2, ne⟩ := d
  exact ⟨a, c, xs, k.q.gets h1 n1, k.q.gets h2 n2, ne⟩
theorem DrAt.wr {H : Hp} {h l : Addr} (d : DrAt H h l) : ∀ b ∈ [h, l], ∃ o, H b = some o ∧ mutO o = true := by
  obtain ⟨a, c, xs, h1, h2, ne⟩ := d
  intro b hb
  simp only [List.mem_cons, List.not_mem_nil, or_false] at hb
  rcases hb with rfl | rfl
  · exact ⟨_, h1, rfl⟩
  · exact ⟨_, h2, rfl⟩
theorem ints_at {xs : List Int} {j : Nat} (h : j < xs.length) : atI (xs.map V.int) (j : Int) = some (.int xs[j]) := at_of rfl (by rw [List.getElem?_map, List.getElem?_eq_getElem h]; rfl)
theorem ixN_nat {n j : Nat} (h : j < n) : ixN n (j : Int) = some j := by
  unfold ixN
  rw [if_pos (by omega), if_pos (by omega)]; rfl
theorem eqv_nil (xs : List PyData) : PyData.eqv (.list xs) (.list []) = xs.isEmpty := by
  cases xs <;> simp [PyData.eqv, PyData.eqvAll]
theorem dp_ints {K : PySem.W.Frag} {H : Hp} : ∀ (xs : List Int), DpAll K H (xs.map V.int) (xs.map PyData.int)
  | [] => .nil
  | x :: xs => .cons (.int x) (dp_ints xs)
theorem canLay_ints : ∀ xs : List Int, PyData.canLayAll0 (xs.map PyData.int) = true
  | [] => rfl
  | x :: r => by
    show (PyData.canLay0 (.int x) && PyData.canLayAll0 (r.map PyData.int)) = true
    rw [canLay_ints r]; rfl
theorem depth_ints : ∀ xs : List Int, PyData.depthAll (xs.map PyData.int) = 0
  | [] => rfl
  | x :: r => by
    show max 0 (PyData.depthAll (r.map PyData.int)) = 0
    rw [depth_ints r]; rfl
theorem shaped_ints (xs : List Int) : SeqAt.shaped (.list (xs.map PyData.int)) = true := by
  unfold SeqAt.shaped
  have h1 : PyData.canLay0 (.list (xs.map PyData.int)) = PyData.canLayAll0 (xs.map PyData.int) := by simp [PyData.canLay0]
  have h2 : PyData.depth (.list (xs.map PyData.int)) = PyData.depthAll (xs.map PyData.int) + 1 := by simp [PyData.depth]
  rw [h1, h2, canLay_ints, depth_ints]; rfl
section
variable {P : Program} {w : World} {K : PySem.W.Frag} {mg : Str → Option Value} {base : Heap}
def sp_mix (K : PySem.W.Frag) : Sp := fun vs H Q _ => ∃ (a : Addr) (ns : List Int) (i : Int), vs = [.ref a, .int i] ∧ SqL K H a (ns.map V.int) ∧ ∀ h l H', H h = none → H l = none → Kq [] H H' → DrAt H' h l → Q (.ref h) H'
theorem sc__law_mix : FnScope ["_law_script", "_law_seed", "_law_mixed", "_law_cell"] ["_law_script", "_law_seed"] (defScope s__law_mix) := ⟨rfl, rfl, rfl, by decide +kernel, rfl, by decide +kernel, by decide +kernel⟩
theorem ok__law_mix (T : Tx w K mg) : Fk P w K mg base 1 (Ad K d__law_mix.at_) ["_law_script", "_law_seed"] (sp_mix K) := by
  refine mkF T.f__law_mix sc__law_mix rfl (fun _ _ _ _ _ _ us hl => match us, hl with | [_, _], _ => rfl) (fun vs H Q E h => by obtain ⟨_, _, _, rfl, _⟩ := h; rfl) (fun cdv A outer s H vs Q E hcd hcode hr h => ?_)
  have po : PassesOwn (model P w) (CxD P w K mg base ["_law_script", "_law_seed", "_law_mixed", "_law_cell"] d__law_mix cdv A outer s H E).A (CxD P w K mg base ["_law_script", "_law_seed", "_law_mixed", "_law_cell"] d__law_mix cdv A outer s H E).env (CxD P w K mg base ["_law_script", "_law_seed", "_law_mixed", "_law_cell"] d__law_mix cdv A outer s H E).xe := passes_of rfl
  refine ⟨_, (pss_cons (ps_asg (pv 1) (pg_name (i := 2) sc__law_mix.nd rfl (.inl rfl)))
      (pss_cons (ps_for po rfl (pi_list (pv 0)) (pg_name (i := 3) sc__law_mix.nd rfl (.inl rfl)) (pss_one (ps_asg (pe_op op_mod (pe_op op_add (pe_op op_add (pe_op op_mul (pv 2) pe_int) (pe_op op_mod (pv 3) pe_int)) pe_int) pe_int) (pg_name (i := 2) sc__law_mix.nd rfl (.inl rfl)))))
      (pss_one (ps_ret (pe_lst (pa_cons (pv 2) (pa_cons (pe_callTy call_list_of (by rfl) T.n_list (by decide +kernel) (pa_cons (pv 0) pa_nil)) (pa_cons pe_int pa_nil)))))))), ?_⟩
  obtain ⟨a, ns, i, rfl, ha, k⟩ := h
  refine ⟨_, rfl, ?_⟩
  refine ⟨_, rfl, a, rfl, ⟨_, ha⟩, ?_⟩
  refine for_list (K := K) (a := a) (xs := ns.map V.int) (fun j σ H' => H' = H ∧ ∃ z c, σ = [some (.ref a), some (.int i), some (.int z), c]) ⟨rfl, _, _, rfl⟩ (fun j σ H' _ z => by rw [z.1]; exact ha) ?_ ?_
  · rintro j x σ H' hx ⟨rfl, z, c, rfl⟩
    rw [List.getElem?_map] at hx
    obtain ⟨y, _, rfl⟩ := Option.map_eq_some_iff.mp hx
    refine ⟨_, rfl, _, _, rfl, rfl, .inr ⟨by decide, by decide⟩, _, rfl, _, _, rfl, rfl, (by show (0 : Int) < 2147483629; decide), _, _, rfl, rfl, _, _, rfl, rfl, _, _, rfl, rfl, (by show (0 : Int) < 2147483647; decide), rfl, _, _, rfl⟩
  · rintro σ H' ⟨rfl, z, c, rfl⟩
    refine ⟨_, rfl, _, rfl, a, _, rfl, .inl ha, fun l nl => ⟨line16 (by show 3 ≤ 1000000; decide), fun h nh => ?_⟩⟩
    have ne : h ≠ l := fun e => by subst e; rw [upd_same] at nh; cases nh
    refine k h l _ (by rw [upd_ne ne] at nh; exact nh) nl ((Kq.alloc nl).trans (Kq.alloc nh)) ⟨z, 0, ns, upd_same, by rw [upd_ne ne.symm, upd_same], ne⟩
def sp_next (K : PySem.W.Frag) : Sp := fun vs H Q _ => ∃ (h l : Addr) (m : Nat), vs = [.ref h, .int m] ∧ DrAt H h l ∧ 1 ≤ m ∧ m < 1073741824 ∧ ∀ (r : Nat) H', r < m → Kf [h, l] H H' → DrAt H' h l → Q (.int r) H'
theorem sc__law_next : FnScope ["_law_h", "_law_many", "_law_at", "_law_cell"] ["_law_h", "_law_many"] (defScope s__law_next) := ⟨rfl, rfl, rfl, by decide +kernel, rfl, by decide +kernel, by decide +kernel⟩
theorem ok__law_next (T : Tx w K mg) : Fk P w K mg base 1 (Ad K d__law_next.at_) ["_law_h", "_law_many"] (sp_next K) := by
  refine mkF T.f__law_next sc__law_next rfl (fun _ _ _ _ _ _ us hl => match us, hl with | [_, _], _ => rfl) (fun vs H Q E h => by obtain ⟨_, _, _, rfl, _⟩ := h; rfl) (fun cdv A outer s H vs Q E hcd hcode hr h => ?_)
  refine ⟨_, (pss_cons (ps_asg (pe_op op_mod (pe_ix ix_list (pv 0) pe_int (fun _ _ => rfl)) (pe_callB (call_max2 rfl) (by rfl) T.n_max (by decide +kernel) (pa_cons pe_int (pa_cons (pe_callB call_len_seq (by rfl) T.n_len (by decide +kernel) (pa_cons (pe_ix ix_list (pv 0) pe_int (fun _ _ => rfl)) pa_nil)) pa_nil)))) (pg_name (i := 2) sc__law_next.nd rfl (.inl rfl)))
      (C8.pss_cut (ps_asg (pe_ifExp (pt_cmpR (op_neD hr.units) (pe_ix ix_list (pv 0) pe_int (fun _ _ => rfl)) (pe_lst pa_nil) (nomark _)) (pe_ix ix_list (pe_ix ix_list (pv 0) pe_int (fun _ _ => rfl)) (pv 2) (fun _ _ => rfl)) pe_int) (pg_name (i := 3) sc__law_next.nd rfl (.inl rfl)))
      (pss_cons (ps_if (pt_cmpR op_ge (pv 3) (pe_op op_pow pe_int pe_int) (nomark _)) (pss_cons (ps_asg (pe_op op_fdivN (pv 3) (pv 1)) (pg_sub (pe_ix ix_list (pv 0) pe_int (fun _ _ => rfl)) (pv 2) set_list))
      (pss_one (ps_ret (pe_op op_mod (pv 3) (pv 1))))) pss_nil)
      (pss_cons (ps_asg (pe_op op_mod (pe_op op_add (pe_op op_add (pe_op op_mul (pe_ix ix_list (pv 0) pe_int (fun _ _ => rfl)) pe_int) (pe_op op_mul (pv 3) pe_int)) pe_int) pe_int) (pg_sub (pv 0) pe_int set_list))
      (pss_cons (ps_asg (pe_op op_add (pe_ix ix_list (pv 0) pe_int (fun _ _ => rfl)) pe_int) (pg_sub (pv 0) pe_int set_list))
      (pss_one (ps_ret (pe_op op_mod (pe_op op_fdivN (pe_ix ix_list (pv 0) pe_int (fun _ _ => rfl)) pe_int) (pv 1))))))))), ?_⟩
  obtain ⟨h, l, m, rfl, hD, hm, hm2, kQ⟩ := h
  have hD0 := hD
  obtain ⟨a, c, xs, h1, h2, ne⟩ := hD
  refine ⟨_, rfl, h, _, _, .int c, rfl, rfl, SqL.of h1, at_of (j := 2) rfl rfl, _, rfl, h, _, _, .ref l, rfl, rfl, SqL.of h1, at_of (j := 1) rfl rfl, l, _, rfl, .inl (SqL.of h2), _, _, rfl, _, _, rfl, rfl, ?_, ?_⟩
  · split <;> omega
  rw [List.length_map]
  have hat : ∃ j : Nat, c % (if (xs.length : Int) > 1 then (xs.length : Int) else 1) = (j : Int) ∧ (xs ≠ [] → j < xs.length) := by
    have hp : (0 : Int) < (if (xs.length : Int) > 1 then (xs.length : Int) else 1) := by split <;> omega
    refine ⟨(c % (if (xs.length : Int) > 1 then (xs.length : Int) else 1)).toNat, ?_, fun hx => ?_⟩
    · rw [Int.toNat_of_nonneg (Int.emod_nonneg _ (by omega))]
    · have h1 := Int.emod_lt_of_pos c hp
      have h0 := Int.emod_nonneg c (b := (if (xs.length : Int) > 1 then (xs.length : Int) else 1)) (by omega)
      have : 0 < xs.length := List.length_pos_iff.mpr hx
      generalize c % (if (xs.length : Int) > 1 then (xs.length : Int) else 1) = r at *
      split at h1 <;> omega
  obtain ⟨j, ej, hj⟩ := hat
  refine ⟨fun σ' H' => ∃ z, σ' = [some (.ref h), some (.int m), some (.int j), some (.int z)] ∧ Kq [] H H' ∧ (xs = [] → z = 0), ?_, ?_⟩
  · refine ⟨_, rfl, h, _, _, .ref l, rfl, rfl, SqL.of h1, at_of (j := 1) rfl rfl, line16 (by show 0 ≤ 1000000; decide), fun p np => ?_⟩
    have k1 : Kq [] H (upd H p (.lst [])) := Kq.alloc np
    refine ⟨.list (xs.map .int), .list [], .lst (SqL.of (k1.get h2)) (dp_ints xs), .lst (SqL.of upd_same) .nil, shaped_ints xs, rfl, _, rfl, ?_⟩
    rw [eqv_nil]
    by_cases hx : xs = []
    · rw [show (xs.map PyData.int).isEmpty = true by rw [hx]; rfl]
      exact iteF ⟨0, by rw [← ej]; rfl, k1, fun _ => rfl⟩
    · rw [show (xs.map PyData.int).isEmpty = false by cases xs <;> first | rfl | exact absurd rfl hx]
      exact iteT ⟨_, rfl, h, _, _, .ref l, rfl, rfl, SqL.of (k1.get h1), at_of (j := 1) rfl rfl, _, rfl, l, _, _, _, rfl, rfl, SqL.of (k1.get h2), (by rw [ej]; exact ints_at (hj hx)), xs[j]'(hj hx), by rw [← ej]; rfl, k1, fun e => absurd e hx⟩
  rintro σ' H1 ⟨z, rfl, k1, hz⟩
  refine ⟨_, rfl, _, _, rfl, rfl, ⟨by decide, by decide, by decide⟩, _, _, rfl, rfl, _, rfl, ?_⟩
  refine iteD (fun hge => ?_) (fun hlt => ?_)
  · have hne : xs ≠ [] := fun e => by rw [hz e] at hge; exact absurd hge (by decide)
    have k2 : Kf [h, l] H1 (upd H1 l (.lst ((xs.map V.int).set j (.int (z.fdiv m))))) := Kf.write (k1.get h2) (by simp) rfl (hD0.kq k1).wr
    refine ⟨_, rfl, _, rfl, _, _, rfl, rfl, ⟨by omega, by omega⟩, _, rfl, h, _, _, .ref l, rfl, rfl, SqL.of (k1.get h1), at_of (j := 1) rfl rfl, _, rfl, l, _, _, j, rfl, rfl, k1.get h2, ixN_nat (by rw [List.length_map]; exact hj hne), ?_⟩
    refine ⟨_, rfl, _, rfl, _, _, rfl, rfl, by omega, ?_⟩
    have e0 : z % (m : Int) = ((z % (m : Int)).toNat : Int) := by rw [Int.toNat_of_nonneg (Int.emod_nonneg _ (by omega))]
    have e1 := Int.emod_lt_of_pos z (b := (m : Int)) (by omega)
    show Q (.int (z % (m : Int))) _
    rw [e0]
    refine kQ _ _ (by omega) (Kf.cat k1 k2 hD0.wr) ⟨a, c, xs.set j (z.fdiv m), (upd_ne ne).trans (k1.get h1), ?_, ne⟩
    rw [upd_same, List.map_set]
  · have g1 := k1.get h1
    have g2 := k1.get h2
    have d1 := hD0.kq k1
    refine ⟨_, rfl, h, _, _, .int a, rfl, rfl, SqL.of g1, at_of (j := 0) rfl rfl, _, _, rfl, rfl, .inr ⟨by decide, by decide⟩, _, rfl, _, _, rfl, rfl, .inr ⟨by decide, by decide⟩, _, _, rfl, rfl, _, _, rfl, rfl, _, _, rfl, rfl, (by show (0 : Int) < 2147483647; decide), _, rfl, h, _, _, 0, rfl, rfl, g1, rfl, ?_⟩
    have kA : Kf [h, l] H1 (upd H1 h (.lst [.int ((a * 48271 + z * 69621 + 11) % 2147483647), .ref l, .int c])) := Kf.write g1 (by simp) rfl d1.wr
    refine ⟨_, rfl, h, _, _, .int c, rfl, rfl, SqL.of upd_same, at_of (j := 2) rfl rfl, _, _, rfl, rfl, _, rfl, h, _, _, 2, rfl, rfl, upd_same, rfl, ?_⟩
    have kB : Kf [h, l] (upd H1 h (.lst [.int ((a * 48271 + z * 69621 + 11) % 2147483647), .ref l, .int c])) (upd (upd H1 h (.lst [.int ((a * 48271 + z * 69621 + 11) % 2147483647), .ref l, .int c])) h (.lst [.int ((a * 48271 + z * 69621 + 11) % 2147483647), .ref l, .int (c + 1)])) := Kf.write upd_same (by simp) rfl kA.w'
    refine ⟨_, rfl, h, _, _, .int ((a * 48271 + z * 69621 + 11) % 2147483647), rfl, rfl, SqL.of upd_same, at_of (j := 0) rfl rfl, _, _, rfl, rfl, ⟨by decide, by decide⟩, _, rfl, _, _, rfl, rfl, by omega, ?_⟩
    show Q (.int (((a * 48271 + z * 69621 + 11) % 2147483647).fdiv 7 % (m : Int))) _
    generalize ((a * 48271 + z * 69621 + 11) % 2147483647).fdiv 7 = u
    have e0 : u % (m : Int) = ((u % (m : Int)).toNat : Int) := by rw [Int.toNat_of_nonneg (Int.emod_nonneg _ (by omega))]
    have e1 := Int.emod_lt_of_pos u (b := (m : Int)) (by omega)
    rw [e0]
    exact kQ _ _ (by omega) (Kf.cat k1 (kA.trans kB) hD0.wr) ⟨_, c + 1, xs, upd_same, (upd_ne ne.symm).trans ((upd_ne ne.symm).trans g2), ne⟩
end
end KT
set_option Elab.async false
set_option linter.all false
set_option maxRecDepth 100000
set_option maxHeartbeats 4000000
namespace KT
open PySem PySem.Spec PyProof.Rows L2 GxR
variable [GT]
theorem kit_tl {K : PySem.W.Frag} {a : String} {b1 b2 : Bool} (h1 : kitB a "tuple" = some b1) (h2 : kitB a "list" = some b2) : W.kitAny K (.type a) [.type "tuple", .type "list"] = some (b1 || b2) := by
  simp only [PySem.W.kitAny, kit_ty h1, kit_ty h2]
  cases b1 <;> cases b2 <;> rfl
theorem ix_seqB {X : Cx} {K : PySem.W.Frag} (e : X.K = K) : IxR X (rIx K) := e ▸ ix_seq
theorem ix_listB {X : Cx} {K : PySem.W.Frag} (e : X.K = K) : IxR X (rIxL K) := e ▸ ix_list
theorem ix_tupB {X : Cx} {K : PySem.W.Frag} (e : X.K = K) : IxR X (rIxT K) := e ▸ ix_tup
theorem op_in_seqB {X : Cx} {K : PySem.W.Frag} (e : X.K = K) : OpR X (compareOp .In) (rIn K false) := e ▸ op_in_seq
theorem call_len_seqB {X : Cx} {K : PySem.W.Frag} (e : X.K = K) : CallR X (Value.builtin "len") fun xs H Q => ∃ p ys, xs = [V.ref p] ∧ (SqL K H p ys ∨ SqT K H p ys) ∧ Q (V.int ↑ys.length) H := e ▸ call_len_seq
/-- alike, n deep -/
inductive Al (K : PySem.W.Frag) (H : Hp) : Nat → V → V → Prop where
  | non (n : Nat) : Al K H n .non .non
  | int (n : Nat) (i : Int) : Al K H n (.int i) (.int i)
  | str (n : Nat) (s : Str) : Al K H n (.str s) (.str s)
  | bl (n : Nat) (b : Bool) : Al K H n (.bl b) (.bl b)
  | lst {n : Nat} {a b : Addr} {xs ys : List V} (h1 : H a = some (.lst xs)) (h2 : H b = some (.lst ys)) (hl : xs.length = ys.length) (hb : xs.length ≤ 1000) (h : ∀ (i : Nat) (x y : V), xs[i]? = some x → ys[i]? = some y → Al K H n x y) : Al K H (n + 1) (.ref a) (.ref b)
  | tup {n : Nat} {a b : Addr} {xs ys : List V} (h1 : SqT K H a xs) (h2 : SqT K H b ys) (hl : xs.length = ys.length) (hb : xs.length ≤ 1000) (h : ∀ (i : Nat) (x y : V), xs[i]? = some x → ys[i]? = some y → Al K H n x y) : Al K H (n + 1) (.ref a) (.ref b)
theorem Al.kq {K : PySem.W.Frag} {H H1 : Hp} (k : Kq [] H H1) {n : Nat} {x y : V} (h : Al K H n x y) : Al K H1 n x y := by
  induction h with
  | non n => exact .non n
  | int n i => exact .int n i
  | str n s => exact .str n s
  | bl n b => exact .bl n b
  | lst h1 h2 hl hb _ ih => exact .lst (k.get h1) (k.get h2) hl hb ih
  | tup h1 h2 hl hb _ ih => exact .tup (k.tup h1) (k.tup h2) hl hb ih
section
variable {P : Program} {w : World} {K : PySem.W.Frag} {mg : Str → Option Value} {base : Heap}
def sp_alike (K : PySem.W.Frag) : Nat → Sp
  | 0 => fun _ _ _ _ => False
  | n + 1 => fun vs H Q _ => ∃ x y, vs = [x, y] ∧ Al K H n x y ∧ ∀ H', Kq [] H H' → Q (.bl true) H'
theorem paired_tl : Paired ClsV [.ty "tuple", .ty "list"] [.type "tuple", .type "list"] := .cons (.ty _) (.cons (.ty _) .nil)
theorem sc__law_alike : FnScope ["_law_found", "_law_due", "_law_k"] ["_law_found", "_law_due"] (defScope s__law_alike) := ⟨rfl, rfl, rfl, by decide +kernel, rfl, by decide +kernel, by decide +kernel⟩
theorem ok__law_alike (T : Tx w K mg) {n k : Nat} (F__law_alike : Fk P w K mg base k (Ad K d__law_alike.at_) ["_law_found", "_law_due"] (sp_alike K n)) : Fk P w K mg base (k + 1) (Ad K d__law_alike.at_) ["_law_found", "_law_due"] (sp_alike K (n + 1)) := by
  refine mkF T.f__law_alike sc__law_alike rfl (fun _ _ _ _ _ _ us hl => match us, hl with | [_, _], _ => rfl) (fun vs H Q E h => by obtain ⟨_, _, rfl, _⟩ := h; rfl) (fun cdv A outer s H vs Q E hcd hcode hr h => ?_)
  refine ⟨_, (pss_cons (ps_if (pt_val (pe_callB call_isiT (by rfl) T.n_isinstance (by decide +kernel) (pa_cons (pv 1) (pa_cons (pe_tup (pa_cons (pe_bltn (v := .ty "tuple") (by rfl) T.n_tuple (by decide +kernel) rfl) (pa_cons (pe_bltn (v := .ty "list") (by rfl) T.n_list (by decide +kernel) rfl) pa_nil))) pa_nil)))) (pss_cons (ps_if ((pw_or (pt_not (pt_val (pe_callB call_isiT (by rfl) T.n_isinstance (by decide +kernel) (pa_cons (pv 0) (pa_cons (pe_tup (pa_cons (pe_bltn (v := .ty "tuple") (by rfl) T.n_tuple (by decide +kernel) rfl) (pa_cons (pe_bltn (v := .ty "list") (by rfl) T.n_list (by decide +kernel) rfl) pa_nil))) pa_nil))))) (pw_or1 (pt_cmpR op_ne (pe_callB call_isi (by rfl) T.n_isinstance (by decide +kernel) (pa_cons (pv 0) (pa_cons (pe_bltn (v := .ty "list") (by rfl) T.n_list (by decide +kernel) rfl) pa_nil))) (pe_callB call_isi (by rfl) T.n_isinstance (by decide +kernel) (pa_cons (pv 1) (pa_cons (pe_bltn (v := .ty "list") (by rfl) T.n_list (by decide +kernel) rfl) pa_nil))) (nomark _))))).pt (pss_one (ps_ret pe_bl)) pss_nil)
      (pss_cons (ps_if (pt_cmpR op_ne (pe_callB call_len_seq (by rfl) T.n_len (by decide +kernel) (pa_cons (pv 0) pa_nil)) (pe_callB call_len_seq (by rfl) T.n_len (by decide +kernel) (pa_cons (pv 1) pa_nil)) (nomark _)) (pss_one (ps_ret pe_bl)) pss_nil)
      (pss_one (ps_ret (pe_cmpR (op_eqD hr.units) (pe_lc (own := [("_law_k", 2)]) (by rfl) sc__law_alike.nd (pi_range1 (by rfl) T.n_range (pa_cons (pe_callB call_len_seq (by rfl) T.n_len (by decide +kernel) (pa_cons (pv 1) pa_nil)) pa_nil)) (blkOk_by (own := [("_law_k", 2)]) (N := ["_law_found", "_law_due", "_law_k"]) (sc := defScope s__law_alike) (by decide +kernel)) (fun _ _ _ _ _ => (pg_name (i := 2) sc__law_alike.nd rfl (.inl rfl))) (fun _ _ _ _ _ => (pts_one (pt_not (pt_val (pe_cF F__law_alike hr T.g__law_alike passL (pa_cons (pe_ix (ix_seqB (K := K) rfl) (pv 0) (pv 2) (fun _ _ => rfl)) (pa_cons (pe_ix (ix_seqB (K := K) rfl) (pv 1) (pv 2) (fun _ _ => rfl)) pa_nil))))))) (fun _ _ _ _ _ => (pv 2))) (pe_lst pa_nil) (nomark _)))))) pss_nil)
      (pss_cons (ps_if (pt_cmpR op_isN (pv 1) pe_non (nomark _)) (pss_one (ps_ret (pe_cmpR op_isN (pv 0) pe_non (nomark _)))) pss_nil)
      (pss_cons (ps_if (pt_val (pe_callB call_isi (by rfl) T.n_isinstance (by decide +kernel) (pa_cons (pv 1) (pa_cons (pe_bltn (v := .ty "str") (by rfl) T.n_str (by decide +kernel) rfl) pa_nil)))) (pss_one (ps_ret (pe_and (pe_callB call_isi (by rfl) T.n_isinstance (by decide +kernel) (pa_cons (pv 0) (pa_cons (pe_bltn (v := .ty "str") (by rfl) T.n_str (by decide +kernel) rfl) pa_nil))) (pe_one (pe_cmpR op_eq (pv 0) (pv 1) (nomark _)))))) pss_nil)
      (pss_cons (ps_if ((pw_or (pt_val (pe_callB call_isi (by rfl) T.n_isinstance (by decide +kernel) (pa_cons (pv 1) (pa_cons (pe_bltn (v := .ty "bool") (by rfl) T.n_bool (by decide +kernel) rfl) pa_nil)))) (pw_or1 (pt_val (pe_callB call_isi (by rfl) T.n_isinstance (by decide +kernel) (pa_cons (pv 0) (pa_cons (pe_bltn (v := .ty "bool") (by rfl) T.n_bool (by decide +kernel) rfl) pa_nil))))))).pt (pss_one (ps_ret (pe_and (pe_callB call_isi (by rfl) T.n_isinstance (by decide +kernel) (pa_cons (pv 1) (pa_cons (pe_bltn (v := .ty "bool") (by rfl) T.n_bool (by decide +kernel) rfl) pa_nil))) (pe_and (pe_callB call_isi (by rfl) T.n_isinstance (by decide +kernel) (pa_cons (pv 0) (pa_cons (pe_bltn (v := .ty "bool") (by rfl) T.n_bool (by decide +kernel) rfl) pa_nil))) (pe_one (pe_cmpR op_eq (pv 0) (pv 1) (nomark _))))))) pss_nil)
      (pss_one (ps_ret (pe_and (pe_callB call_isi (by rfl) T.n_isinstance (by decide +kernel) (pa_cons (pv 0) (pa_cons (pe_bltn (v := .ty "int") (by rfl) T.n_int (by decide +kernel) rfl) pa_nil))) (pe_one (pe_cmpR op_eq (pv 0) (pv 1) (nomark _)))))))))), ?_⟩
  obtain ⟨x, y, rfl, hA, kQ⟩ := h
  refine ⟨_, rfl, line16 (by show 2 ≤ 1000000; decide), fun tp ntp => ?_⟩
  have k1 : Kq [] H (upd H tp (.tup [.ty "tuple", .ty "list"])) := Kq.alloc ntp
  have htp : (upd H tp (.tup [.ty "tuple", .ty "list"])) tp = some (.tup [.ty "tuple", .ty "list"]) := upd_same
  have hA1 := hA.kq k1
  generalize (upd H tp (.tup [.ty "tuple", .ty "list"])) = H1 at k1 htp hA1 ⊢
  cases hA1 with
  | non n =>
    refine ⟨_, tp, _, _, _, _, rfl, htp, paired_tl, (.base .non), kit_tl (b1 := false) (b2 := false) (by decide +kernel) (by decide +kernel), _, rfl, iteF ⟨_, rfl, rfl, _, rfl, iteT ⟨_, rfl, rfl, kQ _ k1⟩⟩⟩
  | str n s =>
    refine ⟨_, tp, _, _, _, _, rfl, htp, paired_tl, (.base (.str _)), kit_tl (b1 := false) (b2 := false) (by decide +kernel) (by decide +kernel), _, rfl, iteF ⟨_, rfl, rfl, _, rfl, iteF ⟨_, rfl, _, _, _, _, true, rfl, .ty _, .base (.str _), kit_ty (by decide +kernel), _, rfl, iteT ?_⟩⟩⟩
    refine ⟨_, rfl, _, _, _, _, true, rfl, .ty _, .base (.str _), kit_ty (by decide +kernel), _, rfl, iteT ⟨_, rfl, _, rfl, rfl, ?_⟩⟩
    rw [decide_eq_true rfl]; exact kQ _ k1
  | int n i =>
    refine ⟨_, tp, _, _, _, _, rfl, htp, paired_tl, (.base (.int _)), kit_tl (b1 := false) (b2 := false) (by decide +kernel) (by decide +kernel), _, rfl, iteF ⟨_, rfl, rfl, _, rfl, iteF ⟨_, rfl, _, _, _, _, false, rfl, .ty _, .base (.int _), kit_ty (by decide +kernel), _, rfl, iteF ?_⟩⟩⟩
    refine ⟨_, rfl, _, _, _, _, false, rfl, .ty _, .base (.int _), kit_ty (by decide +kernel), _, rfl, iteF ⟨_, rfl, _, _, _, _, false, rfl, .ty _, .base (.int _), kit_ty (by decide +kernel), _, rfl, iteF ?_⟩⟩
    refine ⟨_, rfl, _, _, _, _, true, rfl, .ty _, .base (.int _), kit_ty (by decide +kernel), _, rfl, iteT ⟨_, rfl, _, rfl, rfl, ?_⟩⟩
    rw [decide_eq_true rfl]; exact kQ _ k1
  | bl n b =>
    refine ⟨_, tp, _, _, _, _, rfl, htp, paired_tl, (.base (.bl _)), kit_tl (b1 := false) (b2 := false) (by decide +kernel) (by decide +kernel), _, rfl, iteF ⟨_, rfl, rfl, _, rfl, iteF ⟨_, rfl, _, _, _, _, false, rfl, .ty _, .base (.bl _), kit_ty (by decide +kernel), _, rfl, iteF ?_⟩⟩⟩
    refine ⟨_, rfl, _, _, _, _, true, rfl, .ty _, .base (.bl _), kit_ty (by decide +kernel), _, rfl, iteT ?_⟩
    refine ⟨_, rfl, _, _, _, _, true, rfl, .ty _, .base (.bl _), kit_ty (by decide +kernel), _, rfl, iteT ?_⟩
    refine ⟨_, rfl, _, _, _, _, true, rfl, .ty _, .base (.bl _), kit_ty (by decide +kernel), _, rfl, iteT ⟨_, rfl, _, rfl, rfl, ?_⟩⟩
    rw [decide_eq_true rfl]; exact kQ _ k1
  | lst h1 h2 hl hb hh =>
    rename_i n a b xs ys
    refine ⟨_, tp, _, _, _, _, rfl, htp, paired_tl, .base (.lst h2), kit_tl (b1 := false) (b2 := true) (by decide +kernel) (by decide +kernel), _, rfl, iteT ?_⟩
    refine ⟨_, rfl, line16 (by show 2 ≤ 1000000; decide), fun tp2 ntp2 => ?_⟩
    have k2 : Kq [] H1 (upd H1 tp2 (.tup [.ty "tuple", .ty "list"])) := Kq.alloc ntp2
    refine ⟨_, tp2, _, _, _, _, rfl, upd_same, paired_tl, .base (.lst (k2.get h1)), kit_tl (b1 := false) (b2 := true) (by decide +kernel) (by decide +kernel), _, rfl, iteF ?_⟩
    generalize (upd H1 tp2 (.tup [.ty "tuple", .ty "list"])) = H2 at k2 ⊢
    refine ⟨_, rfl, _, _, _, _, true, rfl, .ty _, .base (.lst (k2.get h1)), kit_ty (by decide +kernel), _, rfl, _, _, _, _, true, rfl, .ty _, .base (.lst (k2.get h2)), kit_ty (by decide +kernel), rfl, _, rfl, iteN (fun z => absurd rfl z) (fun _ => ?_)⟩
    refine ⟨_, rfl, a, _, rfl, .inl (SqL.of (k2.get h1)), _, rfl, b, _, rfl, .inl (SqL.of (k2.get h2)), rfl, _, rfl, iteN (fun z => absurd (by rw [hl]) z) (fun _ => ?_)⟩
    refine ⟨_, rfl, b, _, rfl, .inl (SqL.of (k2.get h2)), _, rfl, by omega, by omega, fun D nD => ?_⟩
    refine lc_range (lo := 0) (n := (ys.length : Int).toNat) (fun i H' => Kq [] H2 H' ∧ H' D = some (.lst [])) ⟨Kq.alloc nD, upd_same⟩ ?_ ?_
    · rintro i H' hi ⟨k3, hD⟩
      have hi : i < ys.length := by simpa using hi
      have hix : i < xs.length := by omega
      have k23 := k2.trans k3
      refine ⟨rfl, _, rfl, _, rfl, .inl ⟨a, xs, _, xs[i], rfl, rfl, SqL.of (k23.get h1), at_of (j := i) (by omega) (List.getElem?_eq_getElem hix), _, rfl, _, rfl, .inl ⟨b, ys, _, ys[i], rfl, rfl, SqL.of (k23.get h2), at_of (j := i) (by omega) (List.getElem?_eq_getElem hi), _, _, rfl, (hh i _ _ (List.getElem?_eq_getElem hix) (List.getElem?_eq_getElem hi)).kq k23, fun H3 k4 => ⟨_, rfl, ?_⟩⟩⟩⟩
      exact iteF ⟨k3.trans k4, k4.get hD⟩
    · rintro H' ⟨k3, hD⟩
      refine ⟨line16 (by show 0 ≤ 1000000; decide), fun p np => ?_⟩
      have k4 : Kq [] H' (upd H' p (.lst [])) := Kq.alloc np
      refine ⟨.list [], .list [], .lst (SqL.of (k4.get hD)) .nil, .lst (SqL.of upd_same) .nil, rfl, rfl, ?_⟩
      exact kQ _ ((k1.trans k2).trans (k3.trans k4))
  | tup h1 h2 hl hb hh =>
    rename_i n a b xs ys
    refine ⟨_, tp, _, _, _, _, rfl, htp, paired_tl, tyx_tup h2, kit_tl (b1 := true) (b2 := false) (by decide +kernel) (by decide +kernel), _, rfl, iteT ?_⟩
    refine ⟨_, rfl, line16 (by show 2 ≤ 1000000; decide), fun tp2 ntp2 => ?_⟩
    have k2 : Kq [] H1 (upd H1 tp2 (.tup [.ty "tuple", .ty "list"])) := Kq.alloc ntp2
    refine ⟨_, tp2, _, _, _, _, rfl, upd_same, paired_tl, tyx_tup (k2.tup h1), kit_tl (b1 := true) (b2 := false) (by decide +kernel) (by decide +kernel), _, rfl, iteF ?_⟩
    generalize (upd H1 tp2 (.tup [.ty "tuple", .ty "list"])) = H2 at k2 ⊢
    refine ⟨_, rfl, _, _, _, _, false, rfl, .ty _, tyx_tup (k2.tup h1), kit_ty (by decide +kernel), _, rfl, _, _, _, _, false, rfl, .ty _, tyx_tup (k2.tup h2), kit_ty (by decide +kernel), rfl, _, rfl, iteN (fun z => absurd rfl z) (fun _ => ?_)⟩
    refine ⟨_, rfl, a, _, rfl, .inr (k2.tup h1), _, rfl, b, _, rfl, .inr (k2.tup h2), rfl, _, rfl, iteN (fun z => absurd (by rw [hl]) z) (fun _ => ?_)⟩
    refine ⟨_, rfl, b, _, rfl, .inr (k2.tup h2), _, rfl, by omega, by omega, fun D nD => ?_⟩
    refine lc_range (lo := 0) (n := (ys.length : Int).toNat) (fun i H' => Kq [] H2 H' ∧ H' D = some (.lst [])) ⟨Kq.alloc nD, upd_same⟩ ?_ ?_
    · rintro i H' hi ⟨k3, hD⟩
      have hi : i < ys.length := by simpa using hi
      have hix : i < xs.length := by omega
      have k23 := k2.trans k3
      refine ⟨rfl, _, rfl, _, rfl, .inr <| .inl ⟨a, xs, _, xs[i], rfl, rfl, k23.tup h1, at_of (j := i) (by omega) (List.getElem?_eq_getElem hix), _, rfl, _, rfl, .inr <| .inl ⟨b, ys, _, ys[i], rfl, rfl, k23.tup h2, at_of (j := i) (by omega) (List.getElem?_eq_getElem hi), _, _, rfl, (hh i _ _ (List.getElem?_eq_getElem hix) (List.getElem?_eq_getElem hi)).kq k23, fun H3 k4 => ⟨_, rfl, ?_⟩⟩⟩⟩
      exact iteF ⟨k3.trans k4, k4.get hD⟩
    · rintro H' ⟨k3, hD⟩
      refine ⟨line16 (by show 0 ≤ 1000000; decide), fun p np => ?_⟩
      have k4 : Kq [] H' (upd H' p (.lst [])) := Kq.alloc np
      refine ⟨.list [], .list [], .lst (SqL.of (k4.get hD)) .nil, .lst (SqL.of upd_same) .nil, rfl, rfl, ?_⟩
      exact kQ _ ((k1.trans k2).trans (k3.trans k4))
theorem cps_aab : (Str.ofString "aab, ").cps.toList = [97, 97, 98, 44, 32] := by decide +kernel
end
end KT
set_option Elab.async false
set_option linter.all false
set_option maxRecDepth 100000
set_option maxHeartbeats 4000000
namespace KT
open PySem PySem.Spec PyProof.Rows L2 GxR
variable [GT]
theorem Kf.ints {S : List Addr} {H H1 : Hp} (k : Kf S H H1) {b : Addr} {o : HO} (h : H b = some o) (m : b ∉ S) (n : noTbl o = true := by rfl) : H1 b = some o := k.q.gets h m n
def everyS : Str := Str.ofString " !\"#$&'()*+,-./0123456789:;<=>?@ABCDEFGHIJKLMNOPQRSTUVWXYZ[\\]^_`abcdefghijklmnopqrstuvwxyz{|}~"
theorem every_ok : everyS.cps.toList.length = 94 ∧ ∀ c ∈ everyS.cps.toList, okSign c := by decide +kernel
theorem every_len : everyS.length = 94 := by decide +kernel
def aabS : Str := Str.ofString "aab, "
theorem aab_ok : aabS.cps.toList = [97, 97, 98, 44, 32] := by decide +kernel
theorem cps_at {l : List Nat} {j : Nat} {c : Nat} {i : Int} (e : i = (j : Int)) (h : l[j]? = some c) : atI l i = some c := by subst e; exact atI_nat h
section
variable {P : Program} {w : World} {K : PySem.W.Frag} {mg : Str → Option Value} {base : Heap}
theorem ok_alike (T : Tx w K mg) : ∀ n, Fk P w K mg base (n + 1) (Ad K d__law_alike.at_) ["_law_found", "_law_due"] (sp_alike K n)
  | 0 => mkF T.f__law_alike sc__law_alike rfl (fun _ _ _ _ _ _ us hl => match us, hl with | [_, _], _ => rfl) (fun _ _ _ _ h => h.elim) (fun _ _ _ _ _ _ _ _ _ _ _ h => h.elim)
  | n + 1 => ok__law_alike T (ok_alike T n)
def sp_sign (K : PySem.W.Frag) : Sp := fun vs H Q _ => ∃ (h l : Addr), vs = [.ref h] ∧ DrAt H h l ∧ ∀ (c : Nat) H', okSign c → Kf [h, l] H H' → DrAt H' h l → Q (.str (S [c])) H'
theorem sc__law_sign : FnScope ["_law_h", "_law_every"] ["_law_h"] (defScope s__law_sign) := ⟨rfl, rfl, rfl, by decide +kernel, rfl, by decide +kernel, by decide +kernel⟩
theorem ok__law_sign (T : Tx w K mg) : Fk P w K mg base 2 (Ad K d__law_sign.at_) ["_law_h"] (sp_sign K) := by
  have F__law_next := ok__law_next (P := P) (base := base) T
  refine mkF T.f__law_sign sc__law_sign rfl (fun _ _ _ _ _ _ us hl => match us, hl with | [_], _ => rfl) (fun vs H Q E h => by obtain ⟨_, _, rfl, _⟩ := h; rfl) (fun cdv A outer s H vs Q E hcd hcode hr h => ?_)
  refine ⟨_, (pss_cons (ps_asg pe_str (pg_name (i := 1) sc__law_sign.nd rfl (.inl rfl)))
      (pss_one (ps_ret (pe_ix ix_list (pe_lst (pa_cons (pe_ix ix_str pe_str (pe_cF F__law_next (hr.mono (by decide)) T.g__law_next px (pa_cons (pv 0) (pa_cons pe_int pa_nil))) (fun _ _ => rfl)) (pa_cons (pe_ix ix_str (pv 1) (pe_cF F__law_next (hr.mono (by decide)) T.g__law_next px (pa_cons (pv 0) (pa_cons (pe_callB call_len_str (by rfl) T.n_len (by decide +kernel) (pa_cons (pv 1) pa_nil)) pa_nil))) (fun _ _ => rfl)) pa_nil))) (pe_op op_fdivN (pe_cF F__law_next (hr.mono (by decide)) T.g__law_next px (pa_cons (pv 0) (pa_cons pe_int pa_nil))) pe_int) (fun _ _ => rfl))))), ?_⟩
  obtain ⟨h, l, rfl, hD, kQ⟩ := h
  refine ⟨_, rfl, h, l, 5, rfl, hD, by decide, by decide, fun r1 H1 hr1 k1 hD1 => ?_⟩
  have h1 : r1 < aabS.cps.toList.length := by rw [aab_ok]; exact hr1
  refine ⟨aabS, _, _, rfl, rfl, line16 (by decide +kernel), cps_at rfl (List.getElem?_eq_getElem h1), ?_⟩
  refine ⟨_, rfl, _, rfl, _, rfl, everyS, rfl, line16 (by decide +kernel), h, l, 94, ?_, hD1, by decide, by decide, fun r2 H2 hr2 k2 hD2 => ?_⟩
  · rw [every_len]
  have h2 : r2 < everyS.cps.toList.length := by rw [every_ok.1]; exact hr2
  refine ⟨everyS, _, _, rfl, rfl, line16 (by decide +kernel), cps_at rfl (List.getElem?_eq_getElem h2), line16 (by show 2 ≤ 1000000; decide), fun p np => ?_⟩
  have c1 : okSign (aabS.cps.toList[r1]) := by
    have : ∀ c ∈ aabS.cps.toList, okSign c := by rw [aab_ok]; decide
    exact this _ (List.getElem_mem _)
  have c2 : okSign (everyS.cps.toList[r2]) := every_ok.2 _ (List.getElem_mem _)
  generalize aabS.cps.toList[r1] = a1 at c1 ⊢
  generalize everyS.cps.toList[r2] = a2 at c2 ⊢
  have k3 : Kq [] H2 (upd H2 p (.lst [.str ⟨#[a1]⟩, .str ⟨#[a2]⟩])) := Kq.alloc np
  refine ⟨_, rfl, h, l, 4, rfl, hD2.kq k3, by decide, by decide, fun r3 H3 hr3 k4 hD3 => ?_⟩
  have g : H3 p = some (.lst [.str ⟨#[a1]⟩, .str ⟨#[a2]⟩]) := by
    obtain ⟨_, _, _, d1, d2, _⟩ := hD2
    exact k4.q.gets upd_same (by simp; exact ⟨(ne_of_none d1 np).symm, (ne_of_none d2 np).symm⟩)
  have kk : Kf [h, l] H H3 := ((k1.trans k2).kq k3).trans k4
  have hr : (r3 : Int).fdiv 3 = 0 ∨ (r3 : Int).fdiv 3 = 1 := by
    have : ∀ n : Nat, n < 4 → (n : Int).fdiv 3 = 0 ∨ (n : Int).fdiv 3 = 1 := by decide
    exact this r3 hr3
  rcases hr with e | e
  · exact ⟨_, _, rfl, rfl, (by show (3 : Int) ≠ 0 ∧ (3 : Int).natAbs < 1073741824; decide), p, _, _, .str ⟨#[a1]⟩, rfl, rfl, SqL.of g, at_of (j := 0) e rfl, kQ a1 H3 c1 kk hD3⟩
  · exact ⟨_, _, rfl, rfl, (by show (3 : Int) ≠ 0 ∧ (3 : Int).natAbs < 1073741824; decide), p, _, _, .str ⟨#[a2]⟩, rfl, rfl, SqL.of g, at_of (j := 1) e rfl, kQ a2 H3 c2 kk hD3⟩
end
end KT
set_option Elab.async false
set_option linter.all false
set_option maxRecDepth 100000
set_option maxHeartbeats 4000000
namespace KT
open PySem PySem.Spec PyProof.Rows L2 GxR
variable [GT]
theorem empty_eq : Str.ofString "" = S [] := by decide +kernel
theorem joinL_one : ∀ cs : Ln, TL.joinL [] (cs.map fun c => [c]) = cs
  | [] => rfl
  | [c] => rfl
  | c :: d :: r => by
    have := joinL_one (d :: r)
    show [c] ++ ([] ++ TL.joinL [] ((d :: r).map fun c => [c])) = c :: d :: r
    rw [this]; rfl
theorem join_signs (cs : Ln) : Txt.join (Str.ofString "") (cs.map fun c => S [c]) = S cs := by
  rw [empty_eq]
  refine TL.ext_tl ?_
  rw [TL.join_eq, TL.tl_join]
  rw [show ((cs.map fun c => S [c]).map TL.tl) = cs.map fun c => [c] by rw [List.map_map]; rfl]
  exact joinL_one cs
theorem signs_len (cs : Ln) : ((cs.map fun c => S [c]).map (·.length)).sum = cs.length := by
  induction cs with
  | nil => rfl
  | cons c r ih =>
    simp only [List.map_cons, List.sum_cons, List.length_cons, ih]
    rw [S_len]; simp [Nat.add_comm]
theorem good_row {l : Ln} (h : l.length ≤ 60) (hs : ∀ c ∈ l, okSign c) : goodRow l = true := by
  unfold goodRow
  rw [decide_eq_true h]
  refine List.all_eq_true.mpr fun c hc => ?_
  rw [signB_eq]
  exact decide_eq_true (hs c hc)
theorem DrAt.upd {H : Hp} {h l D : Addr} {o : HO} (d : DrAt H h l) (n1 : D ≠ h) (n2 : D ≠ l) : DrAt (upd H D o) h l := by
  obtain ⟨a, c, xs, h1, h2, ne⟩ := d
  exact ⟨a, c, xs, (upd_ne n1.symm).trans h1, (upd_ne n2.symm).trans h2, ne⟩
section
variable {P : Program} {w : World} {K : PySem.W.Frag} {mg : Str → Option Value} {base : Heap}
def sp_text (K : PySem.W.Frag) : Sp := fun vs H Q _ => ∃ (h l : Addr), vs = [.ref h] ∧ DrAt H h l ∧ ∀ ls H', ls ≠ [] → goodB ls = true → Kf [h, l] H H' → DrAt H' h l → Q (.str (textS ls)) H'
theorem sc__law_text : FnScope ["_law_h", "_law_n", "_law_rows", "_law_k", "_law_many"] ["_law_h"] (defScope s__law_text) := ⟨rfl, rfl, rfl, by decide +kernel, rfl, by decide +kernel, by decide +kernel⟩
theorem ok__law_text (T : Tx w K mg) : Fk P w K mg base 3 (Ad K d__law_text.at_) ["_law_h"] (sp_text K) := by
  have F__law_next := ok__law_next (P := P) (base := base) T
  have F__law_sign := ok__law_sign (P := P) (base := base) T
  refine mkF T.f__law_text sc__law_text rfl (fun _ _ _ _ _ _ us hl => match us, hl with | [_], _ => rfl) (fun vs H Q E h => by obtain ⟨_, _, rfl, _⟩ := h; rfl) (fun cdv A outer s H vs Q E hcd hcode hr h => ?_)
  have po : PassesOwn (model P w) (CxD P w K mg base ["_law_h", "_law_n", "_law_rows", "_law_k", "_law_many"] d__law_text cdv A outer s H E).A (CxD P w K mg base ["_law_h", "_law_n", "_law_rows", "_law_k", "_law_many"] d__law_text cdv A outer s H E).env (CxD P w K mg base ["_law_h", "_law_n", "_law_rows", "_law_k", "_law_many"] d__law_text cdv A outer s H E).xe := passes_of rfl
  refine ⟨_, (pss_cons (ps_asg (pe_lst pa_nil) (pg_name (i := 2) sc__law_text.nd rfl (.inl rfl)))
      (pss_cons (ps_for po rfl (pi_range1 (by rfl) T.n_range (pa_cons (pe_op op_add pe_int (pe_cF F__law_next (hr.mono (by decide)) T.g__law_next px (pa_cons (pv 0) (pa_cons (pe_ix ix_list (pe_lst (pa_cons pe_int (pa_cons pe_int (pa_cons pe_int pa_nil)))) (pe_cF F__law_next (hr.mono (by decide)) T.g__law_next px (pa_cons (pv 0) (pa_cons pe_int pa_nil))) (fun _ _ => rfl)) pa_nil)))) pa_nil)) (pg_name (i := 3) sc__law_text.nd rfl (.inl rfl)) (pss_cons (ps_asg (pe_ix ix_list (pe_lst (pa_cons (pe_cF F__law_next (hr.mono (by decide)) T.g__law_next px (pa_cons (pv 0) (pa_cons pe_int pa_nil))) (pa_cons (pe_cF F__law_next (hr.mono (by decide)) T.g__law_next px (pa_cons (pv 0) (pa_cons pe_int pa_nil))) (pa_cons (pe_op op_sub pe_int (pe_cF F__law_next (hr.mono (by decide)) T.g__law_next px (pa_cons (pv 0) (pa_cons pe_int pa_nil)))) pa_nil)))) (pe_ix ix_list (pe_lst (pa_cons pe_int (pa_cons pe_int (pa_cons pe_int (pa_cons pe_int (pa_cons pe_int (pa_cons pe_int pa_nil))))))) (pe_cF F__law_next (hr.mono (by decide)) T.g__law_next px (pa_cons (pv 0) (pa_cons pe_int pa_nil))) (fun _ _ => rfl)) (fun _ _ => rfl)) (pg_name (i := 4) sc__law_text.nd rfl (.inl rfl)))
      (pss_one (ps_expr (pe_bm PySem.F.plainAttrs_list PySem.F.slot_list_append PySem.F.type_list_append mt_append (pv 2) (pa_cons (pe_join pe_str (pe_lc (own := [("_law_n", 1)]) (by rfl) sc__law_text.nd (pi_range1 (by rfl) T.n_range (pa_cons (pv 4) pa_nil)) (blkOk_by (own := [("_law_n", 1)]) (N := ["_law_h", "_law_n", "_law_rows", "_law_k", "_law_many"]) (sc := defScope s__law_text) (by decide +kernel)) (fun _ _ _ _ _ => (pg_name (i := 1) sc__law_text.nd rfl (.inl rfl))) (fun _ _ _ _ _ => pts_nil) (fun _ _ _ _ _ => (pe_cF F__law_sign (hr.mono (by decide)) T.g__law_sign passL (pa_cons (pv 0) pa_nil))))) pa_nil))))))
      (pss_one (ps_ret (pe_join pe_str (pv 2)))))), ?_⟩
  obtain ⟨h, l, rfl, hD, kQ⟩ := h
  refine ⟨line16 (by show 0 ≤ 1000000; decide), fun R nR => ?_⟩
  have k0 : Kq [] H (upd H R (.lst [])) := Kq.alloc nR
  have hR0 : (upd H R (.lst [])) R = some (.lst []) := upd_same
  have hD0 := hD.kq k0
  have nRh : R ≠ h := by obtain ⟨_, _, _, d1, d2, _⟩ := hD; exact (ne_of_none d1 nR).symm
  have nRl : R ≠ l := by obtain ⟨_, _, _, d1, d2, _⟩ := hD; exact (ne_of_none d2 nR).symm
  generalize (upd H R (.lst [])) = H1 at k0 hR0 hD0 ⊢
  refine ⟨_, rfl, line16 (by show 3 ≤ 1000000; decide), fun p np => ?_⟩
  have k1 : Kq [] H1 (upd H1 p (.lst [.int 3, .int 5, .int 12])) := Kq.alloc np
  refine ⟨_, rfl, h, l, 3, rfl, hD0.kq k1, by decide, by decide, fun r1 H2 hr1 k2 hD2 => ?_⟩
  have hp2 : H2 p = some (.lst [.int 3, .int 5, .int 12]) := by
    obtain ⟨_, _, _, d1, d2, _⟩ := hD0
    exact k2.q.gets upd_same (by simp; exact ⟨(ne_of_none d1 np).symm, (ne_of_none d2 np).symm⟩)
  have hX : ∃ X : Nat, ([.int 3, .int 5, .int 12] : List V)[r1]? = some (.int X) ∧ 1 ≤ X ∧ X ≤ 12 := match r1, hr1 with
    | 0, _ => ⟨3, rfl, by decide, by decide⟩
    | 1, _ => ⟨5, rfl, by decide, by decide⟩
    | 2, _ => ⟨12, rfl, by decide, by decide⟩
  obtain ⟨X, eX, X1, X12⟩ := hX
  refine ⟨p, _, _, .int X, rfl, rfl, SqL.of hp2, at_of rfl eX, h, l, X, rfl, hD2, X1, by omega, fun r2 H3 hr2 k3 hD3 => ?_⟩
  refine ⟨_, _, rfl, rfl, _, rfl, by omega, by omega, ?_⟩
  have k13 : Kf [h, l] H H3 := ((Kf.of k0 hD.wr).kq k1).trans (k2.trans k3)
  have hR3 : H3 R = some (.lst []) := k3.q.gets (k2.q.gets (k1.get hR0) (by simp [nRh, nRl])) (by simp [nRh, nRl])
  refine for_range (lo := 0) (n := (1 + (r2 : Int)).toNat) (fun i σ H' => Kq [h, l] H H' ∧ DrAt H' h l ∧ ∃ ls v3 v4, σ = [some (.ref h), none, some (.ref R), v3, v4] ∧ H' R = some (.lst (rowsV ls)) ∧ ls.length = i ∧ ls.all goodRow = true) ⟨k13.q, hD3, [], none, none, rfl, hR3, rfl, rfl⟩ ?_ ?_
  · rintro i σ H' hi ⟨kq, hD4, ls, v3, v4, rfl, hR4, hlen, hall⟩
    refine ⟨_, rfl, h, l, 8, rfl, hD4, by decide, by decide, fun ra Ha hra ka hDa => ⟨_, rfl, h, l, 20, rfl, hDa, by decide, by decide, fun rb Hb hrb kb hDb => ⟨_, rfl, h, l, 3, rfl, hDb, by decide, by decide, fun rc Hc hrc kc hDc => ⟨_, _, rfl, rfl, line16 (by show 3 ≤ 1000000; decide), fun pa npa => ⟨line16 (by show 6 ≤ 1000000; decide), fun pb npb => ?_⟩⟩⟩⟩⟩
    have kA : Kq [] Hc (upd Hc pa (.lst [.int ra, .int rb, .int (60 - rc)])) := Kq.alloc npa
    have kB : Kq [] (upd Hc pa (.lst [.int ra, .int rb, .int (60 - rc)])) (upd (upd Hc pa (.lst [.int ra, .int rb, .int (60 - rc)])) pb (.lst [.int 0, .int 0, .int 0, .int 1, .int 1, .int 2])) := Kq.alloc npb
    have gA : (upd (upd Hc pa (.lst [.int ra, .int rb, .int (60 - rc)])) pb (.lst [.int 0, .int 0, .int 0, .int 1, .int 1, .int 2])) pa = some (.lst [.int ra, .int rb, .int (60 - rc)]) := kB.get upd_same
    have gB : (upd (upd Hc pa (.lst [.int ra, .int rb, .int (60 - rc)])) pb (.lst [.int 0, .int 0, .int 0, .int 1, .int 1, .int 2])) pb = some (.lst [.int 0, .int 0, .int 0, .int 1, .int 1, .int 2]) := upd_same
    have kAB := kA.trans kB
    have hDd := hDc.kq kAB
    have nn : pa ≠ h ∧ pa ≠ l ∧ pb ≠ h ∧ pb ≠ l := by
      obtain ⟨_, _, _, d1, d2, _⟩ := hDc
      exact ⟨(ne_of_none d1 npa).symm, (ne_of_none d2 npa).symm, (ne_of_none (kA.get d1) npb).symm, (ne_of_none (kA.get d2) npb).symm⟩
    obtain ⟨n1, n2, n3, n4⟩ := nn
    refine ⟨_, rfl, h, l, 6, rfl, hDd, by decide, by decide, fun rd Hd hrd kd hDd' => ?_⟩
    have gA' := kd.q.gets gA (by simp [n1, n2])
    have gB' := kd.q.gets gB (by simp [n3, n4])
    have hY : ∃ Y : Nat, ([.int 0, .int 0, .int 0, .int 1, .int 1, .int 2] : List V)[rd]? = some (.int Y) ∧ Y < 3 := match rd, hrd with
      | 0, _ => ⟨0, rfl, by decide⟩
      | 1, _ => ⟨0, rfl, by decide⟩
      | 2, _ => ⟨0, rfl, by decide⟩
      | 3, _ => ⟨1, rfl, by decide⟩
      | 4, _ => ⟨1, rfl, by decide⟩
      | 5, _ => ⟨2, rfl, by decide⟩
    obtain ⟨Y, eY, hY3⟩ := hY
    have hZ : ∃ Z : Nat, ([.int ra, .int rb, .int (60 - rc)] : List V)[Y]? = some (.int Z) ∧ Z ≤ 60 := match Y, hY3 with
      | 0, _ => ⟨ra, rfl, by omega⟩
      | 1, _ => ⟨rb, rfl, by omega⟩
      | 2, _ => ⟨60 - rc, by show some (V.int (60 - (rc : Int))) = _; congr 2; omega, by omega⟩
    obtain ⟨Z, eZ, hZ60⟩ := hZ
    refine ⟨pb, _, _, .int Y, rfl, rfl, SqL.of gB', at_of rfl eY, pa, _, _, .int Z, rfl, rfl, SqL.of gA', at_of rfl eZ, ?_⟩
    have kk : Kf [h, l] H' Hd := ((ka.trans (kb.trans kc)).kq kAB).trans kd
    have hR5 : Hd R = some (.lst (rowsV ls)) := kk.q.gets hR4 (by simp [nRh, nRl])
    have kqd : Kq [h, l] H Hd := kq.trans kk.q
    refine ⟨_, rfl, .inl ⟨rfl, _, SqL.of hR5⟩, ⟨_, rfl⟩, _, rfl, _, rfl, by omega, by omega, fun D nD => ?_⟩
    have nDh : D ≠ h ∧ D ≠ l ∧ D ≠ R := by
      obtain ⟨_, _, _, d1, d2, _⟩ := hDd'
      exact ⟨(ne_of_none d1 nD).symm, (ne_of_none d2 nD).symm, (ne_of_none hR5 nD).symm⟩
    obtain ⟨nDh, nDl, nDR⟩ := nDh
    refine lc_range (lo := 0) (n := (Z : Int).toNat) (fun i H2 => Kq [h, l] Hd H2 ∧ DrAt H2 h l ∧ ∃ cs : Ln, cs.length = i ∧ (∀ c ∈ cs, okSign c) ∧ H2 D = some (.lst (cs.map fun c => .str (S [c])))) ⟨(Kq.alloc nD), hDd'.kq (Kq.alloc nD), [], rfl, by simp, upd_same⟩ ?_ ?_
    · rintro j H2 hj ⟨kj, hDj, cs, hcl, hcs, hDD⟩
      refine ⟨rfl, ?_⟩
      unfold tYes
      dsimp only
      rw [if_pos rfl]
      refine ⟨_, rfl, h, l, rfl, hDj, fun c H3 hc k3 hD3 => ?_⟩
      have g : H3 D = some (.lst (cs.map fun c => .str (S [c]))) := k3.q.gets hDD (by simp [nDh, nDl])
      refine ⟨_, g, ?_, (kj.trans k3.q).writeF nD g, hD3.upd nDh nDl, cs ++ [c], by simp [hcl], fun d hd => ?_, ?_⟩
      · rw [List.length_map]; exact small1000 (by omega)
      · rcases List.mem_append.mp hd with z | z
        · exact hcs d z
        · rw [List.mem_singleton.mp z]; exact hc
      · rw [upd_same, List.map_append]; rfl
    · rintro H2 ⟨kj, hDj, cs, hcl, hcs, hDD⟩
      have hcl : cs.length = Z := by omega
      refine ⟨Str.ofString "", D, cs.map fun c => S [c], rfl, rfl, .inl (SqL.of (by rw [List.map_map]; exact hDD)), ?_, ?_⟩
      · rw [signs_len, List.length_map, empty_eq, S_len]; simp; omega
      rw [join_signs]
      have hR6 : H2 R = some (.lst (rowsV ls)) := kj.gets hR5 (by simp [nRh, nRl])
      refine ⟨R, _, _, rfl, rfl, hR6, small1000 (by rw [rowsV_len]; omega), ?_⟩
      refine ⟨(kqd.trans kj).writeF nR hR6, hDj.upd nRh nRl, ls ++ [cs], _, _, rfl, ?_, by simp [hlen], ?_⟩
      · rw [upd_same, ← rowsV_app]; rfl
      · rw [List.all_append, hall]
        simp only [List.all_cons, List.all_nil, Bool.and_true, Bool.true_and]
        exact good_row (by omega) hcs
  · rintro σ H' ⟨kq, hD4, ls, v3, v4, rfl, hR4, hlen, hall⟩
    refine ⟨⟨_, rfl⟩, _, rfl, nl, R, ls.map S, rfl, rfl, .inl (SqL.of (by rw [List.map_map]; exact hR4)), ?_, ?_⟩
    · have hs : ∀ ls : List Ln, ls.all goodRow = true → ((ls.map S).map (·.length)).sum ≤ ls.length * 60 := by
        intro ls
        induction ls with
        | nil => intro _; simp
        | cons a r ih =>
          intro h
          simp only [List.all_cons, Bool.and_eq_true] at h
          have h2 := ih h.2
          have h1 : a.length ≤ 60 := by
            have := h.1
            unfold goodRow at this
            simp only [Bool.and_eq_true, decide_eq_true_eq] at this
            exact this.1
          simp only [List.map_cons, List.sum_cons, List.length_cons, S_len]
          omega
      have h3 := hs _ hall
      have h5 : nl.length = 1 := by rw [nl_eq]; rfl
      rw [List.length_map, h5]
      omega
    · exact kQ ls H' (by intro e; rw [e] at hlen; simp at hlen; omega) (by unfold goodB; rw [hall, decide_eq_true (by omega)]; rfl) ⟨kq, hD.wr, hD4.wr⟩ hD4
end
end KT
set_option Elab.async false
set_option linter.all false
set_option maxRecDepth 100000
set_option maxHeartbeats 4000000
namespace KT
open PySem PySem.Spec PyProof.Rows L2 GxR
variable [GT]
theorem runK_single (ed : EdSt) {ky : Ky} (h : ky.single = true) : ∃ st, runK ed ky = .fin (ed.page.does ky).isSome st ∧ st.page = (ed.page.does ky).getD ed.page := by
  unfold runK
  rw [doK_eq]
  have ha : addT ⟨ed.page, [], 0⟩ = some ⟨ed.page, [], 1⟩ := rfl
  rw [ha]
  have hp : ∀ st, playR ed.tapes (under ed.tapes 20) ky st = singleR ky st := fun st => by cases ky <;> first | rfl | cases h
  show ∃ st, playR ed.tapes (under ed.tapes 20) ky ⟨ed.page, [], 1⟩ = _ ∧ _
  rw [hp]
  unfold singleR
  cases hd : ed.page.does ky with
  | none => exact ⟨_, rfl, rfl⟩
  | some g => exact ⟨_, rfl, rfl⟩
def sp_Editor (K : PySem.W.Frag) : Sp := fun vs H Q E => ∃ ls, vs = [.str (textS ls)] ∧ ls ≠ [] ∧ goodB ls = true ∧ TabG H (tS K) ∧ ∀ m H', (∀ b ∈ m.l, H b = none) → Kq [] H H' → EdAt K H' m (EdSt.new ls) → Q (.ref m.e) H'
theorem good_parts {ls : List Ln} (hg : goodB ls = true) : ls.length ≤ 12 ∧ (∀ l ∈ ls, l.length ≤ 60) ∧ ∀ l ∈ ls, 10 ∉ l := by
  unfold goodB at hg
  simp only [Bool.and_eq_true, decide_eq_true_eq, List.all_eq_true] at hg
  have hrow : ∀ l ∈ ls, l.length ≤ 60 ∧ l.all signB = true := fun l hl => by
    have := hg.2 l hl
    unfold goodRow at this
    simp only [Bool.and_eq_true, decide_eq_true_eq] at this
    exact this
  exact ⟨hg.1, fun l hl => (hrow l hl).1, fun l hl => good_no10 (hrow l hl).2⟩
section
variable {P : Program} {w : World} {K : PySem.W.Frag} {mg : Str → Option Value} {base : Heap}
theorem new_Editor {E : XK} : ∀ vs H Q, sp_Editor K vs H Q E → ∀ x dx, H x = none → H dx = none → dx ≠ x →
    sp_Editor___init__ K (.ref x :: vs) (upd (upd H dx (.own x)) x (.ins (He.ga K "Editor") dx [])) (fun v H2 => v = .non ∧ Q (.ref x) H2) E := by
  rintro vs H Q ⟨ls, rfl, hne, hg, hT, k⟩ x dx nx ndx ne
  obtain ⟨h12, h60, h10⟩ := good_parts hg
  have k0 : Kq [] H (upd (upd H dx (.own x)) x (.ins (He.ga K "Editor") dx [])) := Kq.made nx ndx ne
  refine ⟨x, dx, ls, rfl, upd_same, hne, h10, fun l hl => Nat.le_trans (h60 l hl) (by decide), Nat.le_trans h12 (by decide), k0.tab _ hT, fun _ t pr un ud H' n1 n2 n3 n4 kq hE => ⟨rfl, k ⟨x, t, pr, un, ud⟩ H' ?_ (k0.fresh kq fun c hc => by rw [List.mem_singleton.mp hc]; exact nx) hE⟩, fun e => by rw [hg] at e; cases e⟩
  intro b hb
  simp only [EdM.l, List.mem_cons, List.not_mem_nil, or_false] at hb
  rcases hb with rfl | rfl | rfl | rfl | rfl
  · exact nx
  · exact k0.fr _ n1
  · exact k0.fr _ n2
  · exact k0.fr _ n3
  · exact k0.fr _ n4
/-- no address in both -/
def Dj (A B : List Addr) : Prop := ∀ a ∈ A, a ∉ B
theorem Dj.fresh {A B : List Addr} {H : Hp} (h : ∀ a ∈ A, H a = none) (hb : ∀ b ∈ B, H b ≠ none) : Dj A B := fun a ha hb' => hb a hb' (h a ha)
theorem Dj.step {A A' B : List Addr} {H : Hp} (d : Dj A B) (h : ∀ a ∈ A', a ∈ A ∨ H a = none) (hb : ∀ b ∈ B, H b ≠ none) : Dj A' B := fun a ha hb' => by
  rcases h a ha with z | z
  · exact d a z hb'
  · exact hb a hb' z
theorem Dj.symm {A B : List Addr} (d : Dj A B) : Dj B A := fun a ha hb => d a hb ha
theorem DrAt.some {H : Hp} {h l : Addr} (d : DrAt H h l) : ∀ b ∈ [h, l], H b ≠ none := fun b hb => by
  obtain ⟨o, e, _⟩ := d.wr b hb
  rw [e]; simp
theorem EdAt.some {K : PySem.W.Frag} {H : Hp} {m : EdM} {ed : EdSt} (h : EdAt K H m ed) : ∀ b ∈ m.l, H b ≠ none := fun b hb => by
  obtain ⟨o, e, _⟩ := h.wr b hb
  rw [e]; simp
def sp_law (K : PySem.W.Frag) : Sp := fun vs H Q _ => ∃ (a : Addr) (ns : List Int), vs = [.ref a] ∧ SqL K H a (ns.map V.int) ∧ TabG H (tS K) ∧ ∀ H', Q (.bl true) H'
end
end KT
set_option Elab.async false
set_option linter.all false
set_option maxRecDepth 100000
set_option maxHeartbeats 4000000
namespace KT
open PySem PySem.Spec PyProof.Rows L2 GxR
variable [GT]
def wordsV : List V := [.str "put", .str "put", .str "rub", .str "left", .str "right", .str "right", .str "up", .str "down", .str "home", .str "end", .str "find", .str "take", .str "lay", .str "break"]
theorem words_at {r : Nat} (h : r < 14) : ∃ wd : Str, wordsV[r]? = some (.str wd) ∧ (wd = "put" ∨ wd = "find" ∨ (wd ≠ "put" ∧ wd ≠ "find" ∧ ∃ ky : Ky, ky.Ok ∧ ky.single = true ∧ keyV ky = [.str wd])) := match r, h with
  | 0, _ => ⟨_, rfl, .inl rfl⟩
  | 1, _ => ⟨_, rfl, .inl rfl⟩
  | 2, _ => ⟨_, rfl, .inr (.inr ⟨by decide +kernel, by decide +kernel, .rub, trivial, rfl, rfl⟩)⟩
  | 3, _ => ⟨_, rfl, .inr (.inr ⟨by decide +kernel, by decide +kernel, .left, trivial, rfl, rfl⟩)⟩
  | 4, _ => ⟨_, rfl, .inr (.inr ⟨by decide +kernel, by decide +kernel, .right, trivial, rfl, rfl⟩)⟩
  | 5, _ => ⟨_, rfl, .inr (.inr ⟨by decide +kernel, by decide +kernel, .right, trivial, rfl, rfl⟩)⟩
  | 6, _ => ⟨_, rfl, .inr (.inr ⟨by decide +kernel, by decide +kernel, .up, trivial, rfl, rfl⟩)⟩
  | 7, _ => ⟨_, rfl, .inr (.inr ⟨by decide +kernel, by decide +kernel, .down, trivial, rfl, rfl⟩)⟩
  | 8, _ => ⟨_, rfl, .inr (.inr ⟨by decide +kernel, by decide +kernel, .home, trivial, rfl, rfl⟩)⟩
  | 9, _ => ⟨_, rfl, .inr (.inr ⟨by decide +kernel, by decide +kernel, .end_, trivial, rfl, rfl⟩)⟩
  | 10, _ => ⟨_, rfl, .inr (.inl rfl)⟩
  | 11, _ => ⟨_, rfl, .inr (.inr ⟨by decide +kernel, by decide +kernel, .take, trivial, rfl, rfl⟩)⟩
  | 12, _ => ⟨_, rfl, .inr (.inr ⟨by decide +kernel, by decide +kernel, .lay, trivial, rfl, rfl⟩)⟩
  | 13, _ => ⟨_, rfl, .inr (.inr ⟨by decide +kernel, by decide +kernel, .brk, trivial, rfl, rfl⟩)⟩
section
variable {P : Program} {w : World} {K : PySem.W.Frag} {mg : Str → Option Value} {base : Heap}
def sp_single (K : PySem.W.Frag) : Sp := fun vs H Q _ => ∃ (h l : Addr), vs = [.ref h] ∧ DrAt H h l ∧ ∀ a ky H', ky.Ok → ky.single = true → Kf [h, l] H H' → DrAt H' h l → KeyAt K H' a ky → Q (.ref a) H'
theorem sc__law_single : FnScope ["_law_h", "_law_k", "_law_words", "_law_word"] ["_law_h"] (defScope s__law_single) := ⟨rfl, rfl, rfl, by decide +kernel, rfl, by decide +kernel, by decide +kernel⟩
theorem ok__law_single (T : Tx w K mg) : Fk P w K mg base 3 (Ad K d__law_single.at_) ["_law_h"] (sp_single K) := by
  have F__law_next := ok__law_next (P := P) (base := base) T
  have F__law_sign := ok__law_sign (P := P) (base := base) T
  refine mkF T.f__law_single sc__law_single rfl (fun _ _ _ _ _ _ us hl => match us, hl with | [_], _ => rfl) (fun vs H Q E h => by obtain ⟨_, _, rfl, _⟩ := h; rfl) (fun cdv A outer s H vs Q E hcd hcode hr h => ?_)
  refine ⟨_, (pss_cons (ps_asg (pe_lst (pa_cons pe_str (pa_cons pe_str (pa_cons pe_str (pa_cons pe_str (pa_cons pe_str (pa_cons pe_str (pa_cons pe_str (pa_cons pe_str (pa_cons pe_str (pa_cons pe_str (pa_cons pe_str (pa_cons pe_str (pa_cons pe_str (pa_cons pe_str pa_nil))))))))))))))) (pg_name (i := 2) sc__law_single.nd rfl (.inl rfl)))
      (pss_cons (ps_asg (pe_ix ix_list (pv 2) (pe_cF F__law_next (hr.mono (by decide)) T.g__law_next px (pa_cons (pv 0) (pa_cons pe_int pa_nil))) (fun _ _ => rfl)) (pg_name (i := 3) sc__law_single.nd rfl (.inl rfl)))
      (pss_cons (ps_if (pt_cmpR op_eq (pv 3) pe_str (nomark _)) (pss_one (ps_ret (pe_tup (pa_cons (pv 3) (pa_cons (pe_cF F__law_sign (hr.mono (by decide)) T.g__law_sign px (pa_cons (pv 0) pa_nil)) pa_nil))))) pss_nil)
      (pss_cons (ps_if (pt_cmpR op_eq (pv 3) pe_str (nomark _)) (pss_one (ps_ret (pe_tup (pa_cons (pv 3) (pa_cons (pe_join pe_str (pe_lc (own := [("_law_k", 1)]) (by rfl) sc__law_single.nd (pi_range1 (by rfl) T.n_range (pa_cons (pe_op op_add pe_int (pe_cF F__law_next (hr.mono (by decide)) T.g__law_next px (pa_cons (pv 0) (pa_cons (pe_ix ix_list (pe_lst (pa_cons pe_int (pa_cons pe_int (pa_cons pe_int pa_nil)))) (pe_cF F__law_next (hr.mono (by decide)) T.g__law_next px (pa_cons (pv 0) (pa_cons pe_int pa_nil))) (fun _ _ => rfl)) pa_nil)))) pa_nil)) (blkOk_by (own := [("_law_k", 1)]) (N := ["_law_h", "_law_k", "_law_words", "_law_word"]) (sc := defScope s__law_single) (by decide +kernel)) (fun _ _ _ _ _ => (pg_name (i := 1) sc__law_single.nd rfl (.inl rfl))) (fun _ _ _ _ _ => pts_nil) (fun _ _ _ _ _ => (pe_cF F__law_sign (hr.mono (by decide)) T.g__law_sign passL (pa_cons (pv 0) pa_nil))))) pa_nil))))) pss_nil)
      (pss_one (ps_ret (pe_tup (pa_cons (pv 3) pa_nil)))))))), ?_⟩
  obtain ⟨h, l, rfl, hD, kQ⟩ := h
  refine ⟨line16 (by show 14 ≤ 1000000; decide), fun W nW => ?_⟩
  have k0 : Kq [] H (upd H W (.lst wordsV)) := Kq.alloc nW
  have hW : (upd H W (.lst wordsV)) W = some (.lst wordsV) := upd_same
  have hD0 := hD.kq k0
  have nWd : W ≠ h ∧ W ≠ l := by obtain ⟨_, _, _, d1, d2, _⟩ := hD; exact ⟨(ne_of_none d1 nW).symm, (ne_of_none d2 nW).symm⟩
  refine ⟨_, rfl, _, rfl, h, l, 14, rfl, hD0, by decide, by decide, fun r H1 hr k1 hD1 => ?_⟩
  have hW1 := k1.q.gets hW (by simp [nWd])
  have kk1 := (Kf.of k0 hD.wr).trans k1
  obtain ⟨wd, ewd, hwd⟩ := words_at hr
  refine ⟨W, _, _, .str wd, rfl, rfl, SqL.of hW1, at_of rfl ewd, ?_⟩
  refine ⟨_, rfl, rfl, _, rfl, iteD (fun e => ?_) (fun ne => ?_)⟩
  · have e : wd = "put" := V.str.inj e
    subst e
    refine ⟨_, rfl, _, rfl, h, l, rfl, hD1, fun c H2 hc k2 hD2 => ⟨line16 (by show 2 ≤ 1000000; decide), fun q nq => ?_⟩⟩
    have k3 : Kq [] H2 (upd H2 q (.tup [.str "put", .str (S [c])])) := Kq.alloc nq
    exact kQ q (.put [c]) _ ⟨rfl, fun d hd => by rw [List.mem_singleton.mp hd]; exact hc⟩ rfl ((kk1.trans k2).kq k3) (hD2.kq k3) (SqT.of upd_same)
  refine ⟨_, rfl, rfl, _, rfl, iteD (fun e => ?_) (fun ne2 => ?_)⟩
  · have e : wd = "find" := V.str.inj e
    subst e
    refine ⟨_, rfl, ⟨_, rfl⟩, _, rfl, line16 (by show 3 ≤ 1000000; decide), fun p np => ?_⟩
    have k2 : Kq [] H1 (upd H1 p (.lst [.int 1, .int 2, .int 4])) := Kq.alloc np
    refine ⟨_, rfl, h, l, 3, rfl, hD1.kq k2, by decide, by decide, fun r1 H2 hr1 k3 hD2 => ?_⟩
    have hp2 : H2 p = some (.lst [.int 1, .int 2, .int 4]) := by
      obtain ⟨_, _, _, d1, d2, _⟩ := hD1
      exact k3.q.gets upd_same (by simp; exact ⟨(ne_of_none d1 np).symm, (ne_of_none d2 np).symm⟩)
    have hX : ∃ X : Nat, ([.int 1, .int 2, .int 4] : List V)[r1]? = some (.int X) ∧ 1 ≤ X ∧ X ≤ 4 := match r1, hr1 with
      | 0, _ => ⟨1, rfl, by decide, by decide⟩
      | 1, _ => ⟨2, rfl, by decide, by decide⟩
      | 2, _ => ⟨4, rfl, by decide, by decide⟩
    obtain ⟨X, eX, X1, X4⟩ := hX
    refine ⟨p, _, _, .int X, rfl, rfl, SqL.of hp2, at_of rfl eX, h, l, X, rfl, hD2, X1, by omega, fun r2 H3 hr2 k4 hD3 => ?_⟩
    refine ⟨_, _, rfl, rfl, _, rfl, by omega, by omega, fun D nD => ?_⟩
    have nDh : D ≠ h ∧ D ≠ l := by
      obtain ⟨_, _, _, d1, d2, _⟩ := hD3
      exact ⟨(ne_of_none d1 nD).symm, (ne_of_none d2 nD).symm⟩
    obtain ⟨nDh, nDl⟩ := nDh
    refine lc_range (lo := 0) (n := (1 + (r2 : Int)).toNat) (fun i H2 => Kq [h, l] H3 H2 ∧ DrAt H2 h l ∧ ∃ cs : Ln, cs.length = i ∧ (∀ c ∈ cs, okSign c) ∧ H2 D = some (.lst (cs.map fun c => .str (S [c])))) ⟨(Kq.alloc nD), hD3.kq (Kq.alloc nD), [], rfl, by simp, upd_same⟩ ?_ ?_
    · rintro j H2 hj ⟨kj, hDj, cs, hcl, hcs, hDD⟩
      refine ⟨rfl, ?_⟩
      unfold tYes
      dsimp only
      rw [if_pos rfl]
      refine ⟨_, rfl, h, l, rfl, hDj, fun c H3 hc k3 hD3 => ?_⟩
      have g : H3 D = some (.lst (cs.map fun c => .str (S [c]))) := k3.q.gets hDD (by simp [nDh, nDl])
      refine ⟨_, g, ?_, (kj.trans k3.q).writeF nD g, hD3.upd nDh nDl, cs ++ [c], by simp [hcl], fun d hd => ?_, ?_⟩
      · rw [List.length_map]; exact small1000 (by omega)
      · rcases List.mem_append.mp hd with z | z
        · exact hcs d z
        · rw [List.mem_singleton.mp z]; exact hc
      · rw [upd_same, List.map_append]; rfl
    · rintro H4 ⟨kj, hDj, cs, hcl, hcs, hDD⟩
      refine ⟨Str.ofString "", D, cs.map fun c => S [c], rfl, rfl, .inl (SqL.of (by rw [List.map_map]; exact hDD)), ?_, ?_⟩
      · rw [signs_len, List.length_map, empty_eq, S_len]; simp; omega
      rw [join_signs]
      refine ⟨line16 (by show 2 ≤ 1000000; decide), fun q nq => ?_⟩
      have k5 : Kq [] H4 (upd H4 q (.tup [.str "find", .str (S cs)])) := Kq.alloc nq
      have kf4 : Kf [h, l] H3 H4 := ⟨kj, hD3.wr, hDj.wr⟩
      exact kQ q (.find cs) _ ⟨by omega, by omega, hcs⟩ rfl ((((kk1.kq k2).trans (k3.trans k4)).trans kf4).kq k5) (hDj.kq k5) (SqT.of upd_same)
  · rcases hwd with e | e | ⟨_, _, ky, kok, ksg, ek⟩
    · exact absurd (by rw [e]) ne
    · exact absurd (by rw [e]) ne2
    refine ⟨_, rfl, line16 (by show 1 ≤ 1000000; decide), fun q nq => ?_⟩
    have k3 : Kq [] H1 (upd H1 q (.tup [.str wd])) := Kq.alloc nq
    refine kQ q ky _ kok ksg (kk1.kq k3) (hD1.kq k3) ?_
    unfold KeyAt
    rw [ek]
    exact SqT.of upd_same
end
end KT
set_option linter.all false
namespace KT
/-! ### every place of some rows -/
def posAll : Nat → List Ln → List (Nat × Nat)
  | _, [] => []
  | k, l :: ls => (List.range (l.length + 1)).map (fun n => (k, n)) ++ posAll (k + 1) ls
def off : List Ln → Nat → Nat
  | _, 0 => 0
  | [], _ + 1 => 0
  | l :: ls, r + 1 => l.length + 1 + off ls r
theorem off_succ : ∀ (ls : List Ln) (r : Nat), r < ls.length → off ls (r + 1) = off ls r + (ls.getD r []).length + 1
  | [], r, h => by simp at h
  | l :: ls, 0, _ => by show l.length + 1 + off ls 0 = 0 + l.length + 1; cases ls <;> simp [off]
  | l :: ls, r + 1, h => by
    have := off_succ ls r (by simpa using h)
    show l.length + 1 + off ls (r + 1) = l.length + 1 + off ls r + (ls.getD r []).length + 1
    omega
theorem pos_len : ∀ (k : Nat) (ls : List Ln), (posAll k ls).length = off ls ls.length
  | _, [] => rfl
  | k, l :: ls => by
    show ((List.range (l.length + 1)).map (fun n => (k, n)) ++ posAll (k + 1) ls).length = l.length + 1 + off ls ls.length
    rw [List.length_append, List.length_map, List.length_range, pos_len]
theorem pos_get : ∀ (ls : List Ln) (k r c : Nat), r < ls.length → c ≤ (ls.getD r []).length → (posAll k ls)[off ls r + c]? = some (k + r, c)
  | [], _, _, _, h, _ => by simp at h
  | l :: ls, k, 0, c, _, hc => by
    show ((List.range (l.length + 1)).map (fun n => (k, n)) ++ posAll (k + 1) ls)[0 + c]? = _
    have hc : c ≤ l.length := hc
    rw [List.getElem?_append_left (by rw [List.length_map, List.length_range]; omega), Nat.zero_add, List.getElem?_map, List.getElem?_range (by omega)]
    rfl
  | l :: ls, k, r + 1, c, h, hc => by
    show ((List.range (l.length + 1)).map (fun n => (k, n)) ++ posAll (k + 1) ls)[l.length + 1 + off ls r + c]? = _
    rw [List.getElem?_append_right (by rw [List.length_map, List.length_range]; omega), List.length_map, List.length_range, show l.length + 1 + off ls r + c - (l.length + 1) = off ls r + c by omega, pos_get ls (k + 1) r c (by simpa using h) hc]
    congr 2; omega
theorem pos_inv : ∀ (ls : List Ln) (k m r c : Nat), (posAll k ls)[m]? = some (r, c) → ∃ r', r = k + r' ∧ r' < ls.length ∧ c ≤ (ls.getD r' []).length ∧ m = off ls r' + c
  | [], _, _, _, _, h => by simp [posAll] at h
  | l :: ls, k, m, r, c, h => by
    have h : ((List.range (l.length + 1)).map (fun n => (k, n)) ++ posAll (k + 1) ls)[m]? = some (r, c) := h
    by_cases hm : m < l.length + 1
    · rw [List.getElem?_append_left (by rw [List.length_map, List.length_range]; omega), List.getElem?_map, List.getElem?_range (by omega)] at h
      have h : some (k, m) = some (r, c) := h
      cases h
      exact ⟨0, rfl, by simp, by show m ≤ l.length; omega, by simp [off]⟩
    · rw [List.getElem?_append_right (by rw [List.length_map, List.length_range]; omega), List.length_map, List.length_range] at h
      obtain ⟨r', h1, h2, h3, h4⟩ := pos_inv ls (k + 1) _ r c h
      refine ⟨r' + 1, by omega, by simp; omega, h3, ?_⟩
      show m = l.length + 1 + off ls r' + c
      omega
theorem posAll_snoc : ∀ (k : Nat) (ls : List Ln) (l : Ln), posAll k (ls ++ [l]) = posAll k ls ++ (List.range (l.length + 1)).map (fun n => (k + ls.length, n))
  | k, [], l => by simp [posAll]
  | k, a :: ls, l => by
    show (List.range (a.length + 1)).map (fun n => (k, n)) ++ posAll (k + 1) (ls ++ [l]) = _
    rw [posAll_snoc]
    show _ = (List.range (a.length + 1)).map (fun n => (k, n)) ++ posAll (k + 1) ls ++ _
    rw [List.append_assoc]
    congr 2
    simp only [List.length_cons]
    rw [show k + 1 + ls.length = k + (ls.length + 1) by omega]
/-! ### where a word stands -/
def standL (w l : Ln) (k : Nat) : List (Nat × Nat) := ((List.range l.length).filter (stands w l)).map fun n => (k, n)
def standAll (w : Ln) : Nat → List Ln → List (Nat × Nat)
  | _, [] => []
  | k, l :: ls => standL w l k ++ standAll w (k + 1) ls
theorem standAll_snoc (w : Ln) : ∀ (k : Nat) (ls : List Ln) (l : Ln), standAll w k (ls ++ [l]) = standAll w k ls ++ standL w l (k + ls.length)
  | k, [], l => by simp [standAll]
  | k, a :: ls, l => by
    show standL w a k ++ standAll w (k + 1) (ls ++ [l]) = standL w a k ++ standAll w (k + 1) ls ++ _
    rw [standAll_snoc, List.append_assoc]
    congr 3
    simp only [List.length_cons]; omega
def gtP (r c : Nat) (p : Nat × Nat) : Bool := decide (r < p.1) || (decide (r = p.1) && decide (c < p.2))
theorem firstAt_range (w l : Ln) : ∀ (n c : Nat), firstAt w l c n = ((List.range' c n).filter (stands w l)).head?
  | 0, c => rfl
  | n + 1, c => by
    unfold firstAt
    rw [List.range'_succ, List.filter_cons]
    by_cases h : stands w l c = true
    · rw [if_pos h, if_pos h]; rfl
    · rw [if_neg h, if_neg h, firstAt_range w l n (c + 1)]
theorem range_ge (n c : Nat) : (List.range n).filter (fun m => decide (c ≤ m)) = List.range' c (n - c) := by
  induction n with
  | zero => simp
  | succ n ih =>
    rw [List.range_succ, List.filter_append, ih]
    by_cases h : c ≤ n
    · rw [List.filter_cons_of_pos (by simp [h]), List.filter_nil, show n + 1 - c = (n - c) + 1 by omega, List.range'_concat, show c + 1 * (n - c) = n by omega]
    · rw [List.filter_cons_of_neg (by simp [h]), List.filter_nil, show n + 1 - c = 0 by omega, show n - c = 0 by omega]; rfl
theorem findL_eq {w l : Ln} {c : Nat} (hw : w ≠ []) : findL w l c = ((List.range l.length).filter (fun n => decide (c ≤ n) && stands w l n)).head? := by
  unfold findL
  rw [firstAt_range]
  have e : (List.range' c (l.length + 1 - c)).filter (stands w l) = (List.range' c (l.length - c)).filter (stands w l) := by
    by_cases h : c ≤ l.length
    · rw [show l.length + 1 - c = (l.length - c) + 1 by omega, List.range'_concat, List.filter_append, show c + 1 * (l.length - c) = l.length by omega]
      have : stands w l l.length = false := by
        unfold stands
        have : 0 < w.length := List.length_pos_iff.mpr hw
        rw [decide_eq_false (by omega)]; rfl
      rw [List.filter_cons_of_neg (by simp [this]), List.filter_nil, List.append_nil]
    · rw [show l.length + 1 - c = 0 by omega, show l.length - c = 0 by omega]
  rw [e, ← range_ge, List.filter_filter]
  congr 2
  funext n
  rw [Bool.and_comm]
theorem head_map {α β : Type} (f : α → β) (l : List α) : (l.map f).head? = l.head?.map f := by cases l <;> rfl
theorem head_app {α : Type} (a b : List α) : (a ++ b).head? = match a.head? with | some x => some x | none => b.head? := by cases a <;> rfl
theorem seek_row (w l : Ln) (ls : List Ln) (k c : Nat) : seek w (l :: ls) k c = match findL w l c with | some j => some (k, j) | none => seek w ls (k + 1) 0 := rfl
theorem seek_all {w : Ln} (hw : w ≠ []) (r c : Nat) : ∀ (ls : List Ln) (k : Nat), r < k → ((standAll w k ls).filter (gtP r c)).head? = seek w ls k 0
  | [], _, _ => rfl
  | l :: ls, k, hk => by
    show ((standL w l k ++ standAll w (k + 1) ls).filter (gtP r c)).head? = _
    rw [List.filter_append, head_app, seek_all hw r c ls (k + 1) (by omega)]
    have : ((standL w l k).filter (gtP r c)).head? = (findL w l 0).map fun n => (k, n) := by
      rw [findL_eq hw]
      unfold standL
      rw [List.filter_map, head_map, List.filter_filter]
      congr 2
      refine List.filter_congr fun n _ => ?_
      simp [gtP, hk]
    rw [this, seek_row]
    cases findL w l 0 <;> rfl
theorem seek_first {w : Ln} (hw : w ≠ []) (r c : Nat) : ∀ (ls : List Ln), ((standAll w r ls).filter (gtP r c)).head? = seek w ls r (c + 1)
  | [] => rfl
  | l :: ls => by
    show ((standL w l r ++ standAll w (r + 1) ls).filter (gtP r c)).head? = _
    rw [List.filter_append, head_app, seek_all hw r c ls (r + 1) (by omega)]
    have : ((standL w l r).filter (gtP r c)).head? = (findL w l (c + 1)).map fun n => (r, n) := by
      rw [findL_eq hw]
      unfold standL
      rw [List.filter_map, head_map, List.filter_filter]
      congr 2
      refine List.filter_congr fun n _ => ?_
      simp only [gtP, Function.comp]
      by_cases h : c < n
      · simp [h, Nat.succ_le_of_lt h]
      · simp [h]; omega
    rw [this, seek_row]
    cases findL w l (c + 1) <;> rfl
/-- in a row, a word that isn't empty stands where it is cut out -/
theorem stands_cut {w l : Ln} (hw : w ≠ []) (n : Nat) : stands w l n = decide ((l.drop n).take w.length = w) := by
  unfold stands
  by_cases h : (l.drop n).take w.length = w
  · have : 0 < w.length := List.length_pos_iff.mpr hw
    have hl : ((l.drop n).take w.length).length = w.length := by rw [h]
    rw [List.length_take, List.length_drop] at hl
    rw [decide_eq_true h, decide_eq_true (by omega)]; rfl
  · rw [decide_eq_false h, Bool.and_false]
/-! ### letters -/
theorem lets_all {l : Ln} {m : Nat} (h : (l.take m).all isLet = true) (hm : m ≤ l.length) : m ≤ lets l := by
  induction l generalizing m with
  | nil => simp at hm; omega
  | cons a r ih =>
    cases m with
    | zero => exact Nat.zero_le _
    | succ m =>
      simp only [List.take_succ_cons, List.all_cons, Bool.and_eq_true] at h
      have := ih h.2 (by simpa using hm)
      unfold lets at this ⊢
      rw [List.takeWhile_cons_of_pos h.1]
      simp only [List.length_cons]
      omega
theorem lets_not {l : Ln} {m : Nat} (h : ¬ (l.take m).all isLet = true) : lets l < m := by
  induction l generalizing m with
  | nil => simp at h
  | cons a r ih =>
    cases m with
    | zero => simp at h
    | succ m =>
      unfold lets
      by_cases ha : isLet a = true
      · rw [List.takeWhile_cons_of_pos ha]
        have := ih (m := m) (by intro z; apply h; simp only [List.take_succ_cons, List.all_cons, Bool.and_eq_true]; exact ⟨ha, z⟩)
        unfold lets at this
        simp only [List.length_cons]
        omega
      · rw [List.takeWhile_cons_of_neg ha]; simp
end KT
namespace KT
theorem pos_lt {ls : List Ln} {r c : Nat} (h : r < ls.length) (hc : c ≤ (ls.getD r []).length) : off ls r + c < (posAll 0 ls).length := by
  have := pos_get ls 0 r c h hc
  exact (List.getElem?_eq_some_iff.mp this).1
theorem pos_at {ls : List Ln} {r c : Nat} (h : r < ls.length) (hc : c ≤ (ls.getD r []).length) : (posAll 0 ls)[off ls r + c]? = some (r, c) := by
  rw [pos_get ls 0 r c h hc, Nat.zero_add]
theorem lr_math {g : Pg} (hg : g.Ok) (b : Bool) {a : Int} (ea : a = ((off g.rows g.row + g.col : Nat) : Int) + (bif b then -1 else 1)) :
    (∀ n : Nat, a = n → n < (posAll 0 g.rows).length → ∃ r c, (posAll 0 g.rows)[n]? = some (r, c) ∧ (bif b then g.left else g.right) = some (g.at_ r c)) ∧ ((a < 0 ∨ ((posAll 0 g.rows).length : Int) ≤ a) → (bif b then g.left else g.right) = none) := by
  have hr := hg.row
  have hc : g.col ≤ (g.rows.getD g.row []).length := hg.col
  have hlen := pos_len 0 g.rows
  cases b with
  | true =>
    have ea : a = ((off g.rows g.row + g.col : Nat) : Int) - 1 := by rw [ea]; show _ + (-1) = _; omega
    show (∀ n : Nat, a = n → n < (posAll 0 g.rows).length → ∃ r c, (posAll 0 g.rows)[n]? = some (r, c) ∧ g.left = some (g.at_ r c)) ∧ ((a < 0 ∨ ((posAll 0 g.rows).length : Int) ≤ a) → g.left = none)
    unfold Pg.left
    by_cases h0 : 0 < g.col
    · rw [if_pos h0]
      refine ⟨fun n en _ => ⟨g.row, g.col - 1, ?_, rfl⟩, fun h => ?_⟩
      · rw [show n = off g.rows g.row + (g.col - 1) by omega]
        exact pos_at hr (by omega)
      · have := pos_lt hr hc
        omega
    · rw [if_neg h0]
      by_cases h1 : g.row = 0
      · rw [if_pos h1]
        refine ⟨fun n en _ => ?_, fun _ => rfl⟩
        have : off g.rows g.row = 0 := by rw [h1]; cases g.rows <;> rfl
        omega
      · rw [if_neg h1]
        have hs := off_succ g.rows (g.row - 1) (by omega)
        rw [show g.row - 1 + 1 = g.row by omega] at hs
        refine ⟨fun n en _ => ⟨_, _, ?_, rfl⟩, fun h => ?_⟩
        · rw [show n = off g.rows (g.row - 1) + (g.rows.getD (g.row - 1) []).length by omega]
          exact pos_at (by omega) (Nat.le_refl _)
        · have := pos_lt hr hc
          omega
  | false =>
    have ea : a = ((off g.rows g.row + g.col : Nat) : Int) + 1 := ea
    show (∀ n : Nat, a = n → n < (posAll 0 g.rows).length → ∃ r c, (posAll 0 g.rows)[n]? = some (r, c) ∧ g.right = some (g.at_ r c)) ∧ ((a < 0 ∨ ((posAll 0 g.rows).length : Int) ≤ a) → g.right = none)
    unfold Pg.right Pg.line
    by_cases h0 : g.col < (g.rows.getD g.row []).length
    · rw [if_pos h0]
      have := pos_lt hr (Nat.succ_le_of_lt h0)
      refine ⟨fun n en _ => ⟨g.row, g.col + 1, ?_, rfl⟩, fun h => ?_⟩
      · rw [show n = off g.rows g.row + (g.col + 1) by omega]
        exact pos_at hr (by omega)
      · omega
    · rw [if_neg h0]
      have hs := off_succ g.rows g.row hr
      by_cases h1 : g.row + 1 = g.rows.length
      · rw [if_pos h1]
        refine ⟨fun n en hn => ?_, fun _ => rfl⟩
        rw [hlen, ← h1, hs] at hn
        omega
      · rw [if_neg h1]
        have := pos_lt (ls := g.rows) (r := g.row + 1) (c := 0) (by omega) (Nat.zero_le _)
        refine ⟨fun n en _ => ⟨_, _, ?_, rfl⟩, fun h => ?_⟩
        · rw [show n = off g.rows (g.row + 1) + 0 by omega]
          exact pos_at (by omega) (Nat.zero_le _)
        · omega
theorem posAll_len : ∀ (k : Nat) (ls : List Ln), (∀ l ∈ ls, l.length ≤ 60) → (posAll k ls).length ≤ ls.length * 61
  | _, [], _ => Nat.zero_le _
  | k, l :: ls, h => by
    have h1 := h l (by simp)
    have h2 := posAll_len (k + 1) ls fun x hx => h x (by simp [hx])
    show ((List.range (l.length + 1)).map (fun n => (k, n)) ++ posAll (k + 1) ls).length ≤ _
    rw [List.length_append, List.length_map, List.length_range]
    simp only [List.length_cons]
    omega
end KT
namespace KT
theorem standAll_len (w : Ln) : ∀ (k : Nat) (ls : List Ln), (∀ l ∈ ls, l.length ≤ 60) → (standAll w k ls).length ≤ ls.length * 60
  | _, [], _ => Nat.zero_le _
  | k, l :: ls, h => by
    have h1 := h l (by simp)
    have h2 := standAll_len w (k + 1) ls fun x hx => h x (by simp [hx])
    have h3 : (standL w l k).length ≤ l.length := by
      unfold standL
      rw [List.length_map]
      exact Nat.le_trans (List.length_filter_le _ _) (by rw [List.length_range]; omega)
    show (standL w l k ++ standAll w (k + 1) ls).length ≤ _
    rw [List.length_append]
    simp only [List.length_cons]
    omega
end KT
set_option Elab.async false
set_option linter.all false
set_option maxRecDepth 100000
set_option maxHeartbeats 4000000
namespace KT
open PySem PySem.Spec PyProof.Rows L2 GxR
variable [GT]
theorem small1000le {n : Nat} (h : n ≤ 1000) : n ≤ sizeLine := Nat.le_of_lt (small1000 h)
/-! ### the law's sheet -/
def sheet (lr pl : Addr) (cl : Str) (m : Int) (ka : Addr) : List (Key × V) := [(.inr "rows", .ref lr), (.inr "place", .ref pl), (.inr "clip", .str cl), (.inr "many", .int m), (.inr "keys", .ref ka)]
section
variable (lr pl lr' pl' : Addr) (cl cl' : Str) (m m' : Int) (ka ka' : Addr)
theorem sheet_merge : mergeK [] (sheet lr pl cl m ka) = sheet lr pl cl m ka := by kernel_rfl
theorem sheet_rows : valV (sheet lr pl cl m ka) (.inr "rows") = some (.ref lr) := by kernel_rfl
theorem sheet_place : valV (sheet lr pl cl m ka) (.inr "place") = some (.ref pl) := by kernel_rfl
theorem sheet_clip : valV (sheet lr pl cl m ka) (.inr "clip") = some (.str cl) := by kernel_rfl
theorem sheet_many : valV (sheet lr pl cl m ka) (.inr "many") = some (.int m) := by kernel_rfl
theorem sheet_keys : valV (sheet lr pl cl m ka) (.inr "keys") = some (.ref ka) := by kernel_rfl
theorem put_rows : putK (sheet lr pl cl m ka) (.inr "rows") (.ref lr') = sheet lr' pl cl m ka := by kernel_rfl
theorem put_place : putK (sheet lr pl cl m ka) (.inr "place") (.ref pl') = sheet lr pl' cl m ka := by kernel_rfl
theorem put_clip : putK (sheet lr pl cl m ka) (.inr "clip") (.str cl') = sheet lr pl cl' m ka := by kernel_rfl
theorem put_many : putK (sheet lr pl cl m ka) (.inr "many") (.int m') = sheet lr pl cl m' ka := by kernel_rfl
theorem put_keys : putK (sheet lr pl cl m ka) (.inr "keys") (.ref ka') = sheet lr pl cl m ka' := by kernel_rfl
end
theorem dget {H : Hp} {s : Addr} {kvs : List (Key × V)} {z : Str} {v : V} (h : H s = some (.dK kvs)) (e : valV kvs (.inr z) = some v) : DGet H s (.str z) (some v) := .inl ⟨kvs, .inr z, .inl h, rfl, e.symm⟩
theorem dput {H : Hp} {s : Addr} {kvs kvs' : List (Key × V)} {z : Str} {v : V} (h : H s = some (.dK kvs)) (hl : kvs.length ≤ 1000) (e : putK kvs (.inr z) v = kvs') : DPut H s (.str z) v (upd H s (.dK kvs')) := .inl ⟨kvs, .inr z, h, rfl, small1000 hl, by rw [e]⟩
structure ShM where
  s : Addr
  lr : Addr
  ka : Addr
def ShM.l (m : ShM) : List Addr := [m.s, m.lr, m.ka]
def ShAt (K : PySem.W.Frag) (H : Hp) (sm : ShM) (g : Pg) (m : Int) (kl : List Ky) : Prop := ∃ pl as, H sm.s = some (.dK (sheet sm.lr pl (S g.clip) m sm.ka)) ∧ H sm.lr = some (.lst (rowsV g.rows)) ∧ H pl = some (.tup [.int g.row, .int g.col]) ∧ H sm.ka = some (.lst (as.map V.ref)) ∧ KeysAt K H as kl
theorem ShAt.kf {K : PySem.W.Frag} {S : List Addr} {H H1 : Hp} {sm : ShM} {g : Pg} {m : Int} {kl : List Ky} (h : ShAt K H sm g m kl) (k : Kf S H H1) (d : ∀ b ∈ sm.l, b ∉ S) : ShAt K H1 sm g m kl := by
  obtain ⟨pl, as, h1, h2, h3, h4, h5⟩ := h
  exact ⟨pl, as, k.q.gets h1 (d _ (by simp [ShM.l])), k.q.gets h2 (d _ (by simp [ShM.l])), k.get h3 rfl, k.q.gets h4 (d _ (by simp [ShM.l])), k.keys h5⟩
theorem ShAt.kq {K : PySem.W.Frag} {H H1 : Hp} {sm : ShM} {g : Pg} {m : Int} {kl : List Ky} (h : ShAt K H sm g m kl) (k : Kq [] H H1) : ShAt K H1 sm g m kl := h.kf (Kf.of (S := []) k (fun b hb => absurd hb (by simp))) (fun b _ => by simp)
theorem ShAt.wr {K : PySem.W.Frag} {H : Hp} {sm : ShM} {g : Pg} {m : Int} {kl : List Ky} (h : ShAt K H sm g m kl) : ∀ b ∈ [sm.s], ∃ o, H b = some o ∧ mutO o = true := by
  obtain ⟨pl, as, h1, _⟩ := h
  intro b hb
  rw [List.mem_singleton.mp hb]
  exact ⟨_, h1, rfl⟩
/-! ### two pairs of numbers -/
theorem op_gtP {X : Cx} (hu : X.A.units < cLine) : OpR X (compareOp .Gt) (fun x y H Q => ∃ (a b : Addr) (p q : Nat × Nat), x = .ref a ∧ y = .ref b ∧ H a = some (.tup [.int p.1, .int p.2]) ∧ H b = some (.tup [.int q.1, .int q.2]) ∧ Q (.bl (gtP q.1 q.2 p)) H) := by
  intro pins s σ H x y v u Q I rx ry h
  obtain ⟨a, b, p, q, e1, e2, ha, hb, k⟩ := h
  subst e1 e2
  cases rx
  cases ry
  obtain ⟨is1, v1, t1, _⟩ := I.tuple (SqT.of (K := X.K) ha)
  obtain ⟨is2, v2, t2, _⟩ := I.tuple (SqT.of (K := X.K) hb)
  have i1 : IntsAre is1 [(p.1 : Int), (p.2 : Int)] := L2.intsAre_of v1
  have i2 : IntsAre is2 [(q.1 : Int), (q.2 : Int)] := L2.intsAre_of v2
  have l1 := i1.length
  have l2 := i2.length
  have hR := Ob.RcOp.tuples_gt (A := X.A) (s := s) (e := fun j => ([(p.1 : Int), (p.2 : Int)].getD j 0) == ([(q.1 : Int), (q.2 : Int)].getD j 0)) (r := fun j => decide (([(p.1 : Int), (p.2 : Int)].getD j 0) > ([(q.1 : Int), (q.2 : Int)].getD j 0))) t1 t2 hu
    (fun j h1 h2 => by
      obtain ⟨t, e⟩ := i1.int_at j _ (List.getElem?_eq_getElem (by simpa using h1))
      obtain ⟨t', e'⟩ := i2.int_at j _ (List.getElem?_eq_getElem (by simpa using h2))
      rw [List.getElem_toArray, List.getElem_toArray, e, e']
      exact SeqAt.EqAt.int_int _ _ _ _)
    (fun j h1 h2 _ => by
      obtain ⟨t, e⟩ := i1.int_at j _ (List.getElem?_eq_getElem (by simpa using h1))
      obtain ⟨t', e'⟩ := i2.int_at j _ (List.getElem?_eq_getElem (by simpa using h2))
      rw [List.getElem_toArray, List.getElem_toArray, e, e']
      exact Ob.RcOp.gt_int _ _ _ _)
  have e : Ob.lexAt (fun j => ([(p.1 : Int), (p.2 : Int)].getD j 0) == ([(q.1 : Int), (q.2 : Int)].getD j 0)) (fun j => decide (([(p.1 : Int), (p.2 : Int)].getD j 0) > ([(q.1 : Int), (q.2 : Int)].getD j 0))) (decide (is1.toArray.size > is2.toArray.size)) 0 (min is1.toArray.size is2.toArray.size) = gtP q.1 q.2 p := by
    have s1 : is1.toArray.size = 2 := by simpa using l1
    have s2 : is2.toArray.size = 2 := by simpa using l2
    rw [s1, s2]
    simp only [Ob.lexAt, gtP, Nat.min_self]
    by_cases h1 : q.1 < p.1 <;> by_cases h2 : q.1 = p.1 <;> by_cases h3 : q.2 < p.2 <;> simp_all <;> omega
  rw [e] at hR
  exact hR _ _ _ _ ⟨.bl (gtP q.1 q.2 p), H, I, rfl, k⟩
/-! ### a comprehension over the signs of a text -/
theorem lc_signs {x : Str} {g : TG} {tt : TT} {te : TE} {vs : List Nat} {σ : L2.St} {H1 : Hp} {D : Addr} {Qd : Hp → Prop} (Pv : Nat → Hp → Prop) (h0 : Pv 0 (upd H1 D (.lst [])))
    (hs : ∀ (i c : Nat) (H : Hp), x.cps[i]? = some c → Pv i H → g (.str ⟨#[c]⟩) (wipe σ vs) H fun σ2 H2 => wipe σ2 vs = wipe σ vs ∧ tt σ2 H2 fun b H3 => if b = true then te σ2 H3 fun y H4 => ∃ acc, H4 D = some (HO.lst acc) ∧ acc.length < sizeLine ∧ Pv (i + 1) (upd H4 D (HO.lst (acc ++ [y]))) else Pv (i + 1) H3)
    (hd : ∀ H, Pv x.cps.size H → Qd H) : ∃ W : Nat → Nat → Hp → Prop, (∃ m, W 0 m (upd H1 D (HO.lst []))) ∧ ∀ (i m : Nat) (H : Hp), W i m H → (Its x).stop i H ∧ Qd H ∨ (Its x).go i H ∧ ∃ Nx : Hp → Prop, (∀ (H' : Hp), Nx H' → ∃ m', m' < m ∧ W (i + 1) m' H') ∧ ∀ (v : V) (H' : Hp), (Its x).yld i H v H' → g v (wipe σ vs) H' fun σ2 H2 => wipe σ2 vs = wipe σ vs ∧ tt σ2 H2 fun b H3 => if b = true then te σ2 H3 fun y H4 => ∃ acc, H4 D = some (HO.lst acc) ∧ acc.length < sizeLine ∧ Nx (upd H4 D (HO.lst (acc ++ [y]))) else Nx H3 := by
  refine ⟨fun i m H => i ≤ x.cps.size ∧ m = x.cps.size - i ∧ Pv i H, ⟨_, Nat.zero_le _, rfl, h0⟩, ?_⟩
  rintro i m H ⟨hi, rfl, hp⟩
  by_cases h : i < x.cps.size
  · refine .inr ⟨h, Pv (i + 1), fun H' z => ⟨_, by omega, h, rfl, z⟩, ?_⟩
    rintro v H' ⟨rfl, c, hc, rfl⟩
    exact hs i c _ hc hp
  · refine .inl ⟨by show x.cps.size ≤ i; omega, hd H ?_⟩
    have : i = x.cps.size := by omega
    rw [← this]; exact hp
section
variable {P : Program} {w : World} {K : PySem.W.Frag} {mg : Str → Option Value} {base : Heap}
def sp_state (K : PySem.W.Frag) : Sp := fun vs H Q _ => ∃ ls, vs = [.str (textS ls)] ∧ ls ≠ [] ∧ goodB ls = true ∧ ∀ s lr ka H', H s = none → H lr = none → H ka = none → Kq [] H H' → ShAt K H' ⟨s, lr, ka⟩ ⟨ls, 0, 0, []⟩ 0 [] → Q (.ref s) H'
theorem edF_no_text (p t : Addr) (r : V) (pr un ud : Addr) : (edF p t r pr un ud).lookup ("text" : Str) = none := by kernel_rfl
theorem edF_no_place (p t : Addr) (r : V) (pr un ud : Addr) : (edF p t r pr un ud).lookup ("place" : Str) = none := by kernel_rfl
theorem edF_no_clip (p t : Addr) (r : V) (pr un ud : Addr) : (edF p t r pr un ud).lookup ("clip" : Str) = none := by kernel_rfl
theorem edF_no_press (p t : Addr) (r : V) (pr un ud : Addr) : (edF p t r pr un ud).lookup ("press" : Str) = none := by kernel_rfl
theorem zip2 {R : V → V → Prop} {a b a' b' : V} (h0 : R a a') (h1 : R b b') : ∀ (i : Nat) (x y : V), ([a, b] : List V)[i]? = some x → ([a', b'] : List V)[i]? = some y → R x y
  | 0, x, y, hx, hy => by cases hx; cases hy; exact h0
  | 1, x, y, hx, hy => by cases hx; cases hy; exact h1
  | n + 2, x, y, hx, hy => by simp at hx
theorem zip3 {R : V → V → Prop} {a b c a' b' c' : V} (h0 : R a a') (h1 : R b b') (h2 : R c c') : ∀ (i : Nat) (x y : V), ([a, b, c] : List V)[i]? = some x → ([a', b', c'] : List V)[i]? = some y → R x y
  | 0, x, y, hx, hy => by cases hx; cases hy; exact h0
  | 1, x, y, hx, hy => by cases hx; cases hy; exact h1
  | 2, x, y, hx, hy => by cases hx; cases hy; exact h2
  | n + 3, x, y, hx, hy => by simp at hx
def sp_is (K : PySem.W.Frag) : Sp := fun vs H Q _ => ∃ m ed sm mm kl, vs = [.ref m.e, .ref sm.s] ∧ EdAt K H m ed ∧ ShAt K H sm ed.page mm kl ∧ ∀ H', Kq [] H H' → Q (.bl true) H'
def sp_set (K : PySem.W.Frag) : Sp := fun vs H Q _ => ∃ (sm : ShM) (g : Pg) (m : Int) (kl : List Ky) (low high : Nat) (L : List Ln) (ra pa : Addr) (r c : Nat), vs = [.ref sm.s, .int low, .int high, .ref ra, .ref pa] ∧ ShAt K H sm g m kl ∧ H ra = some (.lst (rowsV L)) ∧ H pa = some (.tup [.int r, .int c]) ∧ g.rows.length ≤ 12 ∧ L.length ≤ 2 ∧
  ∀ lr H', H lr = none → Kf [sm.s] H H' → ShAt K H' ⟨sm.s, lr, sm.ka⟩ ⟨g.rows.take low ++ L ++ g.rows.drop high, r, c, g.clip⟩ m kl → Q (.bl true) H'
end
end KT
set_option Elab.async false
set_option linter.all false
set_option maxRecDepth 100000
set_option maxHeartbeats 4000000
namespace KT
open PySem PySem.Spec PyProof.Rows L2 GxR
variable [GT]
/-! ### objects that are changed side by side -/
theorem edF_no_tape (p t : Addr) (r : V) (pr un ud : Addr) : (edF p t r pr un ud).lookup ("tape" : Str) = none := by kernel_rfl
theorem edF_no_tape_of (p t : Addr) (r : V) (pr un ud : Addr) : (edF p t r pr un ud).lookup ("tape_of" : Str) = none := by kernel_rfl
theorem edF_no_hand (p t : Addr) (r : V) (pr un ud : Addr) : (edF p t r pr un ud).lookup ("hand" : Str) = none := by kernel_rfl
theorem edF_no_record (p t : Addr) (r : V) (pr un ud : Addr) : (edF p t r pr un ud).lookup ("record" : Str) = none := by kernel_rfl
theorem edF_no_stop (p t : Addr) (r : V) (pr un ud : Addr) : (edF p t r pr un ud).lookup ("stop" : Str) = none := by kernel_rfl
theorem edF_no_back (p t : Addr) (r : V) (pr un ud : Addr) : (edF p t r pr un ud).lookup ("back" : Str) = none := by kernel_rfl
theorem edF_no_forth (p t : Addr) (r : V) (pr un ud : Addr) : (edF p t r pr un ud).lookup ("forth" : Str) = none := by kernel_rfl
theorem Kq.over {S S' : List Addr} {H H1 H2 : Hp} (a : Kq S H H1) (b : Kq S' H1 H2) (h : ∀ c ∈ S', c ∈ S ∨ H c = none) : Kq S H H2 :=
  ⟨fun c o q n m => b.at_ c o (a.at_ c o q n m) n (fun z => (h c z).elim m (fun e => absurd (q.symm.trans e) (by simp))), fun p q => b.tab p (a.tab p q), fun c q => a.fr c (b.fr c q), fun p m q => b.tabS p m (a.tabS p m q)⟩
theorem Kf.over {S S' : List Addr} {H H1 H2 : Hp} (a : Kf S H H1) (b : Kf S' H1 H2) (h : ∀ c ∈ S', c ∈ S ∨ H c = none) : Kf S H H2 :=
  ⟨a.q.over b.q h, a.w, fun c hc => by
    obtain ⟨o, h1, h2⟩ := a.w' c hc
    by_cases e : c ∈ S'
    · exact b.w' c e
    · exact ⟨o, b.q.at_ c o h1 (mut_noTbl h2) e, h2⟩⟩
theorem press_fr {m m' : EdM} {H : Hp} (f1 : m'.e = m.e) (f2 : m'.t = m.t) (f3 : m'.pr = m.pr) (f4 : m'.un = m.un) (f5 : m'.ud = m.ud ∨ H m'.ud = none) : ∀ b ∈ m'.l, b ∈ m.l ∨ H b = none := by
  intro c hc
  simp only [EdM.l, List.mem_cons, List.not_mem_nil, or_false] at hc
  rcases hc with rfl | rfl | rfl | rfl | rfl
  · exact .inl (by rw [f1]; simp [EdM.l])
  · exact .inl (by rw [f2]; simp [EdM.l])
  · exact .inl (by rw [f3]; simp [EdM.l])
  · exact .inl (by rw [f4]; simp [EdM.l])
  · rcases f5 with e | e
    · exact .inl (by rw [e]; simp [EdM.l])
    · exact .inr e
theorem doneE_p (ed : EdSt) (ky : Ky) (g : Pg) : (doneE ed ky g).pressed.length ≤ ed.pressed.length + 1 := by
  show (if ed.taped.isSome = true then ed.pressed ++ [ky] else ed.pressed).length ≤ _
  split
  · rw [List.length_append]; simp
  · omega
theorem doneE_u (ed : EdSt) (ky : Ky) (g : Pg) : (doneE ed ky g).units.length ≤ ed.units.length + 1 := by
  show (if g.rows = ed.page.rows then ed.units else ed.units ++ [(ed.page, g)]).length ≤ _
  split
  · omega
  · rw [List.length_append]; simp
theorem doneE_d (ed : EdSt) (ky : Ky) (g : Pg) : (doneE ed ky g).undone.length ≤ ed.undone.length := by
  show (if g.rows = ed.page.rows then ed.undone else []).length ≤ _
  split
  · omega
  · simp
theorem fresh_ne {H : Hp} {S : List Addr} (w : ∀ b ∈ S, H b ≠ none) {p : Addr} (h : H p = none) : p ∉ S := fun z => w p z h
theorem sh_fr {H : Hp} {so lr ka : Addr} (a : H so = none) (b : H lr = none) (c : H ka = none) : ∀ x ∈ (⟨so, lr, ka⟩ : ShM).l, H x = none := by
  intro x hx
  simp only [ShM.l, List.mem_cons, List.not_mem_nil, or_false] at hx
  rcases hx with rfl | rfl | rfl <;> assumption
theorem joinL_mem {s : List Nat} : ∀ {ls : List (List Nat)} {c : Nat}, c ∈ TL.joinL s ls → c ∈ s ∨ ∃ l ∈ ls, c ∈ l
  | [], c, h => by cases h
  | [l], c, h => .inr ⟨l, by simp, h⟩
  | l :: m :: r, c, h => by
    rcases List.mem_append.mp (show c ∈ l ++ (s ++ TL.joinL s (m :: r)) from h) with z | z
    · exact .inr ⟨l, by simp, z⟩
    · rcases List.mem_append.mp z with z | z
      · exact .inl z
      · exact (joinL_mem z).imp id fun ⟨x, h1, h2⟩ => ⟨x, by simp [List.mem_cons.mp h1], h2⟩
theorem textS_mem {ls : List Ln} (h : ∀ l ∈ ls, ∀ c ∈ l, okSign c) : ∀ c ∈ TL.tl (textS ls), c ≤ 126 := by
  intro c hc
  unfold textS at hc
  rw [TL.join_eq, TL.tl_join, S_tls, nl_eq] at hc
  rcases joinL_mem hc with z | ⟨l, h1, h2⟩
  · rw [List.mem_singleton.mp z]; omega
  · exact (h l h1 c h2).2
theorem strOk_text {ls : List Ln} (h : ∀ l ∈ ls, ∀ c ∈ l, okSign c) : PyData.strOk (textS ls) = true := by
  unfold PyData.strOk
  rw [Array.all_eq_true_iff_forall_mem]
  intro c hc
  have hc : c ∈ (textS ls).cps.toList := by simpa using hc
  refine decide_eq_true ?_
  have := textS_mem h c hc
  omega
end KT
set_option Elab.async false
set_option linter.all false
set_option maxRecDepth 100000
set_option maxHeartbeats 4000000
namespace KT
open PySem PySem.Spec PyProof.Rows L2 GxR
variable [GT]
def forthE (ed : EdSt) : EdSt := match ed.undone.getLast? with
  | none => ed
  | some u => { ed with page := { u.2 with clip := ed.page.clip }, undone := ed.undone.dropLast, units := ed.units ++ [u] }
section
variable {P : Program} {w : World} {K : PySem.W.Frag} {mg : Str → Option Value} {base : Heap}
def sp_ed_forth (K : PySem.W.Frag) : Sp := fun vs H Q _ => ∃ m ed, vs = [.ref m.e] ∧ EdAt K H m ed ∧ ed.Small ∧ ∀ H', Kf m.l H H' → EdAt K H' m (forthE ed) → Q (.bl (!ed.undone.isEmpty)) H'
end
end KT
set_option Elab.async false
set_option linter.all false
set_option maxRecDepth 100000
set_option maxHeartbeats 4000000
namespace KT
open PySem PySem.Spec PyProof.Rows L2 GxR
variable [GT]
theorem nameB_name {v : V} (h : nameB v = true) : ∃ n, n < 8 ∧ v = .str (nameS n) := by
  have e : namesV = [.str (nameS 0), .str (nameS 1), .str (nameS 2), .str (nameS 3), .str (nameS 4), .str (nameS 5), .str (nameS 6), .str (nameS 7)] := rfl
  unfold nameB inV at h
  rw [e] at h
  obtain ⟨x, hx, e2⟩ := List.any_eq_true.mp h
  have e2 : x = v := by
    cases x <;> cases v <;> simp_all [eqV]
  subst e2
  simp only [List.mem_cons, List.not_mem_nil, or_false] at hx
  rcases hx with rfl | rfl | rfl | rfl | rfl | rfl | rfl | rfl
  · exact ⟨0, by decide, rfl⟩
  · exact ⟨1, by decide, rfl⟩
  · exact ⟨2, by decide, rfl⟩
  · exact ⟨3, by decide, rfl⟩
  · exact ⟨4, by decide, rfl⟩
  · exact ⟨5, by decide, rfl⟩
  · exact ⟨6, by decide, rfl⟩
  · exact ⟨7, by decide, rfl⟩
theorem last_cut (xs : List V) : cutV xs (some (-30)) none = xs.drop (xs.length - 30) := by
  have e1 : HT.sIx xs.length 0 (some (-30)) = xs.length - 30 := by
    show (if (-30 : Int) < 0 then ((-30 : Int) + (xs.length : Int)).toNat else min (-30 : Int).toNat xs.length) = _
    rw [if_pos (by decide)]; omega
  have e2 : HT.sIx xs.length xs.length none = xs.length := rfl
  unfold cutV
  rw [e1, e2]
  exact List.take_of_length_le (by rw [List.length_drop]; exact Nat.le_refl _)
theorem edF_rec_none (p t : Addr) (pr un ud : Addr) (n : Nat) : putF "recorded" .non (edF p t (recV (some n)) pr un ud) = edF p t (recV none) pr un ud := edF_put_recorded _ _ _ _ _ _ _
theorem KeysAt.drop {K : PySem.W.Frag} {H : Hp} {as : List Addr} {ks : List Ky} (h : KeysAt K H as ks) (n : Nat) : KeysAt K H (as.drop n) (ks.drop n) := by
  induction h generalizing n with
  | nil => rw [List.drop_nil, List.drop_nil]; exact .nil
  | cons h r ih =>
    cases n with
    | zero => exact .cons h r
    | succ n => exact ih n
theorem nin_e {K : PySem.W.Frag} {H : Hp} {m : EdM} {ed : EdSt} {b : Addr} {o : HO} (hE : EdAt K H m ed) (h : H b = some o) (n : ∀ C d f, o ≠ .ins C d f) : b ∉ [m.e] := fun z => by
  obtain ⟨dx, p, ap, au, ad, h1, _⟩ := hE.ex
  rw [List.mem_singleton.mp z, h1] at h
  cases h
  exact n _ _ _ rfl
section
variable {P : Program} {w : World} {K : PySem.W.Frag} {mg : Str → Option Value} {base : Heap}
/-- what is no key is refused -/
def sp_noKey (K : PySem.W.Frag) : Sp := fun vs H _ E => ∃ e a xs act, vs = [.ref e, .ref a] ∧ SqT K H a xs ∧ (∀ x ∈ xs, smallV x) ∧ TabG H (tS K) ∧ (∀ k, xs = [k] → ActIs K k (act k)) ∧ keyB act xs = false ∧ ∀ H', Kq [] H H' → E (.ref (He.ga K "BadKey")) none H'
theorem ok_Editor_pressX (T : Tx w K mg) (B : TabB base mg (cS K) (tS K)) : Fk P w K mg base 70 (Ad K d_Editor_press.at_) ["self", "key"] (sp_noKey K) := by
  have F_Player___init__ := ok_Player___init__ (P := P) (base := base) T
  have F_Player_do := ok_player (P := P) (base := base) T 20
  have F_check_key := ok_check_key (P := P) (base := base) T B
  refine mkF T.f_Editor_press sc_Editor_press rfl (fun _ _ _ _ _ _ us hl => match us, hl with | [_, _], _ => rfl) (fun vs H Q E h => by obtain ⟨_, _, _, _, rfl, _⟩ := h; rfl) (fun cdv A outer s H vs Q E hcd hcode hr h => ?_)
  refine ⟨_, (pss_cons (ps_expr (pe_cF F_check_key (hr.mono (by decide)) T.g_check_key px (pa_cons (pv 1) pa_nil)))
      (pss_cons (ps_asg (pe_kF (spN := sp_Player K) T.k_Player F_Player___init__ (hr.mono (by decide)) T.g_Player px new_Player (pa_cons (pe_fld (pv 0) rfl) (pa_cons (pe_fld (pv 0) rfl) pa_nil))) (pg_name (i := 2) sc_Editor_press.nd rfl (.inl rfl)))
      (pss_cons (ps_asg (pe_mF _ (pv 2) T.c_Player T.m_Player_do F_Player_do (hr.mono (by decide)) px (pa_cons (pv 1) (pa_cons pe_int pa_nil))) (pg_name (i := 3) sc_Editor_press.nd rfl (.inl rfl)))
      (C8.pss_cut (ps_if (pt_cmpR op_notN (pe_fld (pv 0) rfl) pe_non (nomark _)) (pss_one (ps_expr (pe_bm PySem.F.plainAttrs_list PySem.F.slot_list_append PySem.F.type_list_append mt_append (pe_fld (pv 0) rfl) (pa_cons (pv 1) pa_nil)))) pss_nil)
      (C8.pss_cut (ps_if (pt_cmpR (op_neD hr.units) (pe_fld (pe_fld (pv 2) rfl) rfl) (pe_fld (pe_fld (pv 0) rfl) rfl) (nomark _)) (pss_cons (ps_expr (pe_bm PySem.F.plainAttrs_list PySem.F.slot_list_append PySem.F.type_list_append mt_append (pe_fld (pv 0) rfl) (pa_cons (pe_tup (pa_cons (pe_fld (pv 0) rfl) (pa_cons (pe_fld (pv 2) rfl) pa_nil))) pa_nil)))
      (pss_one (ps_fld (pv 0) (pe_lst pa_nil) rfl))) pss_nil)
      (pss_cons (ps_fld (pv 0) (pe_fld (pv 2) rfl) rfl)
      (pss_one (ps_ret (pv 3))))))))), ?_⟩
  obtain ⟨e, a, xs, act, rfl, ht, hs, hT, hact, hb, kE⟩ := h
  exact ⟨_, rfl, a, xs, act, rfl, ht, hs, hT, hact, (fun z => by rw [hb] at z; cases z), fun _ H' k' => kE H' k'⟩
def sp_ed_record (K : PySem.W.Frag) : Sp := fun vs H Q E => ∃ m ed v, vs = [.ref m.e, v] ∧ EdAt K H m ed ∧ flatV v = true ∧
  (nameB v = false → E (.ref (He.ga K "BadName")) none H) ∧ (nameB v = true → ed.taped ≠ none → E (.ref (He.ga K "Taping")) none H) ∧
  (∀ n pr H', v = .str (nameS n) → n < 8 → ed.taped = none → H pr = none → Kf m.l H H' → EdAt K H' ⟨m.e, m.t, pr, m.un, m.ud⟩ { ed with taped := some n, pressed := [] } → Q .non H')
theorem sc_Editor_record : FnScope ["self", "name"] ["self", "name"] (defScope s_Editor_record) := ⟨rfl, rfl, rfl, by decide +kernel, rfl, by decide +kernel, by decide +kernel⟩
theorem ok_Editor_record (T : Tx w K mg) : Fk P w K mg base 2 (Ad K d_Editor_record.at_) ["self", "name"] (sp_ed_record K) := by
  have F_check_name := ok_check_name (P := P) (base := base) T
  refine mkF T.f_Editor_record sc_Editor_record rfl (fun _ _ _ _ _ _ us hl => match us, hl with | [_, _], _ => rfl) (fun vs H Q E h => by obtain ⟨_, _, _, rfl, _⟩ := h; rfl) (fun cdv A outer s H vs Q E hcd hcode hr h => ?_)
  have tk : Takes (CxD P w K mg base ["self", "name"] d_Editor_record cdv A outer s H E) (fun cls d _ H => E cls d H) := takes_of rfl rfl rfl rfl
  refine ⟨_, (pss_cons (ps_expr (pe_cF F_check_name (hr.mono (by decide)) T.g_check_name px (pa_cons (pv 1) pa_nil)))
      (pss_cons (ps_if (pt_cmpR op_notN (pe_fld (pv 0) rfl) pe_non (nomark _)) (pss_one (ps_raise rfl tk (pmk_Taping T rfl))) pss_nil)
      (pss_cons (ps_fld (pv 0) (pv 1) rfl)
      (pss_one (ps_fld (pv 0) (pe_lst pa_nil) rfl))))), ?_⟩
  obtain ⟨m, ed, v, rfl, hE, hf, kb, kt, kQ⟩ := h
  refine ⟨_, rfl, v, rfl, hf, fun hn => ?_, kb⟩
  obtain ⟨n, hn8, rfl⟩ := nameB_name hn
  obtain ⟨dx, p, ap, au, ad, h1, h2, h3, h4, h5, h6, h7, h8⟩ := hE.ex
  refine ⟨_, rfl, m.e, _, dx, _, _, rfl, h1, T.c_Editor, T.a_Editor_recorded, edF_recorded _ _ _ _ _ _, rfl, _, rfl, ?_⟩
  refine iteN (fun hr => ?_) (fun hr => ?_)
  · exact kt hn fun e => hr (by rw [e]; rfl)
  have hs : ed.taped = none := recV_none hr
  refine ⟨_, rfl, _, rfl, m.e, _, dx, _, rfl, h1, T.c_Editor, T.a_Editor_recorded, (by show 6 < 1000; decide), ?_⟩
  rw [edF_put_recorded]
  have we : ∀ {H' : Hp} {o}, H' m.e = some o → mutO o = true → ∀ c ∈ [m.e], ∃ o, H' c = some o ∧ mutO o = true := fun e n c hc => by rw [List.mem_singleton.mp hc]; exact ⟨_, e, n⟩
  have k1 : Kf [m.e] H (upd H m.e (.ins (He.ga K "Editor") dx (edF p m.t (.str (nameS n)) m.pr m.un m.ud))) := Kf.write h1 (by simp) (mut_ed _ _ _ _ _ _ _ _) (we h1 (mut_ed _ _ _ _ _ _ _ _))
  have g1 : (upd H m.e (.ins (He.ga K "Editor") dx (edF p m.t (.str (nameS n)) m.pr m.un m.ud))) m.e = _ := upd_same
  generalize (upd H m.e (.ins (He.ga K "Editor") dx (edF p m.t (.str (nameS n)) m.pr m.un m.ud))) = H1 at k1 g1 ⊢
  refine ⟨line16 (by show 0 ≤ 1000000; decide), fun pr npr => ?_⟩
  have k2 : Kq [] H1 (upd H1 pr (.lst [])) := Kq.alloc npr
  have gp : (upd H1 pr (.lst [])) pr = some (.lst []) := upd_same
  have g2 := k2.get g1
  have npe : pr ≠ m.e := (ne_of_none g1 npr).symm
  generalize (upd H1 pr (.lst [])) = H2 at k2 gp g2 ⊢
  refine ⟨_, rfl, m.e, _, dx, _, rfl, g2, T.c_Editor, T.a_Editor_pressed, (by show 6 < 1000; decide), ?_⟩
  rw [edF_put_pressed]
  have k3 : Kf [m.e] H2 (upd H2 m.e (.ins (He.ga K "Editor") dx (edF p m.t (.str (nameS n)) pr m.un m.ud))) := Kf.write g2 (by simp) (mut_ed _ _ _ _ _ _ _ _) (we g2 (mut_ed _ _ _ _ _ _ _ _))
  have g3 : (upd H2 m.e (.ins (He.ga K "Editor") dx (edF p m.t (.str (nameS n)) pr m.un m.ud))) m.e = _ := upd_same
  generalize (upd H2 m.e (.ins (He.ga K "Editor") dx (edF p m.t (.str (nameS n)) pr m.un m.ud))) = H3 at k3 g3 ⊢
  have kall : Kf [m.e] H H3 := (k1.kq k2).trans k3
  have nprH : H pr = none := k1.q.fr pr npr
  obtain ⟨kvs, t1, _⟩ := hE.tapes
  refine kQ n pr H3 rfl hn8 hs nprH ⟨kall.q.mono (fun c hc => by rw [List.mem_singleton.mp hc]; simp [EdM.l]), hE.wr, fun c hc => ?_⟩ ⟨⟨dx, p, [], au, ad, g3, kall.page h2, k3.q.gets gp (by simp; exact npe), .nil, kall.q.gets h5 (nin_e hE h5 (by simp)), h6.imp (fun _ _ z => kall.tup z) (fun _ _ z => kall.page z), kall.q.gets h7 (nin_e hE h7 (by simp)), h8.imp (fun _ _ z => kall.tup z) (fun _ _ z => kall.page z)⟩, kall.tapes hE.tapes (nin_e hE t1 (by simp)), hE.tok, kall.q.tab _ hE.sign, hE.ok, (ne_of_none h5 nprH).symm, (ne_of_none h7 nprH).symm, hE.d3, by simp, hE.uok, hE.dok, fun n' e => by cases e; exact hn8⟩
  by_cases e : c = m.e
  · rw [e]; exact ⟨_, g3, mut_ed _ _ _ _ _ _ _ _⟩
  · obtain ⟨o, z1, z2⟩ := hE.wr c hc
    exact ⟨o, kall.q.gets z1 (by simp [e]) (mut_noTbl z2), z2⟩
def stopE (ed : EdSt) (n : Nat) : EdSt := { ed with taped := none, tapes := fun i => if i = n then ed.pressed.drop (ed.pressed.length - 30) else ed.tapes i }
def sp_ed_stop (K : PySem.W.Frag) : Sp := fun vs H Q E => ∃ m ed, vs = [.ref m.e] ∧ EdAt K H m ed ∧ (ed.taped = none → E (.ref (He.ga K "NotTaping")) none H) ∧
  (∀ n H', ed.taped = some n → Kf m.l H H' → EdAt K H' m (stopE ed n) → Q (.int ed.pressed.length) H')
theorem sc_Editor_stop : FnScope ["self"] ["self"] (defScope s_Editor_stop) := ⟨rfl, rfl, rfl, by decide +kernel, rfl, by decide +kernel, by decide +kernel⟩
theorem ok_Editor_stop (T : Tx w K mg) : Fk P w K mg base 1 (Ad K d_Editor_stop.at_) ["self"] (sp_ed_stop K) := by
  obtain ⟨t_MOST_KEYS, h_MOST_KEYS⟩ := T.i_MOST_KEYS
  refine mkF T.f_Editor_stop sc_Editor_stop rfl (fun _ _ _ _ _ _ us hl => match us, hl with | [_], _ => rfl) (fun vs H Q E h => by obtain ⟨_, _, rfl, _⟩ := h; rfl) (fun cdv A outer s H vs Q E hcd hcode hr h => ?_)
  have tk : Takes (CxD P w K mg base ["self"] d_Editor_stop cdv A outer s H E) (fun cls d _ H => E cls d H) := takes_of rfl rfl rfl rfl
  refine ⟨_, (pss_cons (ps_if (pt_cmpR op_isN (pe_fld (pv 0) rfl) pe_non (nomark _)) (pss_one (ps_raise rfl tk (pmk_NotTaping T rfl))) pss_nil)
      (pss_cons (ps_dput (hu_of hr) (pe_fld (pv 0) rfl) (pe_fld (pv 0) rfl) (pe_callTy call_tuple_of (by rfl) T.n_tuple (by decide +kernel) (pa_cons (pe_slice sl_list (pe_fld (pv 0) rfl) (po_some (pe_un un_neg (pe_glob (v := .int 30) (by rfl) h_MOST_KEYS ⟨_, rfl⟩))) po_none) pa_nil)) rfl)
      (pss_cons (ps_fld (pv 0) pe_non rfl)
      (pss_one (ps_ret (pe_callB call_len_seq (by rfl) T.n_len (by decide +kernel) (pa_cons (pe_fld (pv 0) rfl) pa_nil))))))), ?_⟩
  obtain ⟨m, ed, rfl, hE, kN, kQ⟩ := h
  obtain ⟨dx, p, ap, au, ad, h1, h2, h3, h4, h5, h6, h7, h8⟩ := hE.ex
  refine ⟨_, rfl, m.e, _, dx, _, _, rfl, h1, T.c_Editor, T.a_Editor_recorded, edF_recorded _ _ _ _ _ _, rfl, _, rfl, ?_⟩
  cases hs : ed.taped with
  | none => exact iteT (kN hs)
  | some n =>
  have hn8 := hE.rok n hs
  refine iteF ?_
  rw [hs] at h1
  have hl := h4.len
  refine ⟨_, rfl, m.e, _, dx, _, _, rfl, h1, T.c_Editor, T.a_Editor_pressed, edF_pressed _ _ _ _ _ _, _, rfl, _, rfl, m.pr, _, rfl, SqL.of h3, fun L nL => ?_⟩
  rw [last_cut, List.length_map, ← List.map_drop]
  have kL : Kq [] H (upd H L (.lst ((ap.drop (ap.length - 30)).map V.ref))) := Kq.alloc nL
  have gL : (upd H L (.lst ((ap.drop (ap.length - 30)).map V.ref))) L = _ := upd_same
  have hEL := hE.kq kL
  have g1 := kL.get h1
  generalize (upd H L (.lst ((ap.drop (ap.length - 30)).map V.ref))) = H1 at kL gL hEL g1 ⊢
  refine ⟨L, _, rfl, .inl ⟨SqL.of gL, fun T_ nT => ?_⟩⟩
  have kT : Kq [] H1 (upd H1 T_ (.tup ((ap.drop (ap.length - 30)).map V.ref))) := Kq.alloc nT
  have gT : TapeAt K (upd H1 T_ (.tup ((ap.drop (ap.length - 30)).map V.ref))) T_ (ed.pressed.drop (ed.pressed.length - 30)) := ⟨_, SqT.of upd_same, by rw [← hl]; exact (kT.keys (kL.keys h4)).drop _⟩
  have hET := hEL.kq kT
  have g2 := kT.get g1
  generalize (upd H1 T_ (.tup ((ap.drop (ap.length - 30)).map V.ref))) = H2 at kT gT hET g2 ⊢
  obtain ⟨kvs, t1, t2, t3⟩ := hET.tapes
  have hl8 : kvs.length = 8 := by
    have := congrArg List.length t2
    rw [List.length_map] at this
    exact this
  refine ⟨_, rfl, m.e, _, dx, _, _, rfl, g2, T.c_Editor, T.a_Editor_tapes, edF_tapes _ _ _ _ _ _, _, rfl, m.e, _, dx, _, _, rfl, g2, T.c_Editor, T.a_Editor_recorded, edF_recorded _ _ _ _ _ _, m.t, _, rfl, .inl ⟨kvs, .inr (nameS n), t1, rfl, small1000 (by omega), rfl⟩, ?_⟩
  have we : ∀ {H' : Hp} {o}, H' m.e = some o → mutO o = true → ∀ c ∈ [m.e], ∃ o, H' c = some o ∧ mutO o = true := fun e n c hc => by rw [List.mem_singleton.mp hc]; exact ⟨_, e, n⟩
  have kw : Kf [m.t] H2 (upd H2 m.t (.dK (putK kvs (.inr (nameS n)) (.ref T_)))) := Kf.write t1 (by simp) rfl fun c hc => by rw [List.mem_singleton.mp hc]; exact ⟨_, t1, rfl⟩
  have gtp : TapesAt K (upd H2 m.t (.dK (putK kvs (.inr (nameS n)) (.ref T_)))) m.t (stopE ed n).tapes := by
    refine ⟨_, upd_same, by rw [put_keys8 (by rw [t2]; exact name_mem hn8)]; exact t2, fun i hi => ?_⟩
    show ∃ b, valV (putK kvs (.inr (nameS n)) (.ref T_)) (.inr (nameS i)) = some (.ref b) ∧ TapeAt K _ b (if i = n then ed.pressed.drop (ed.pressed.length - 30) else ed.tapes i)
    rw [valV_put]
    by_cases e : i = n
    · subst e
      rw [if_pos rfl, if_pos rfl]
      exact ⟨T_, rfl, kw.tape gT⟩
    · rw [if_neg (fun z => e (name_inj (Sum.inr.inj z))), if_neg e]
      obtain ⟨b, b1, b2⟩ := t3 i hi
      exact ⟨b, b1, kw.tape b2⟩
  have ntm : m.t ∉ [m.e] := nin_e hET t1 (by simp)
  have net : m.e ∉ [m.t] := fun z => ntm (by rw [List.mem_singleton.mp z]; simp)
  have g3 := kw.q.gets g2 net
  have k02 := kL.trans kT
  have net' : ∀ {c o}, H c = some o → noTbl o = true → (∀ kv, o ≠ .dK kv) → c ∉ [m.t] := fun h t n z => by
    have := k02.get h t
    rw [List.mem_singleton.mp z, t1] at this
    cases this
    exact n _ rfl
  have k3 : Kf [m.t] H (upd H2 m.t (.dK (putK kvs (.inr (nameS n)) (.ref T_)))) := Kf.cat k02 kw fun c hc => by
    obtain ⟨kv0, z1, _⟩ := hE.tapes
    rw [List.mem_singleton.mp hc]; exact ⟨_, z1, rfl⟩
  generalize (upd H2 m.t (.dK (putK kvs (.inr (nameS n)) (.ref T_)))) = H3 at kw gtp g3 k3 ⊢
  refine ⟨_, rfl, m.e, _, dx, _, rfl, g3, T.c_Editor, T.a_Editor_recorded, (by show 6 < 1000; decide), ?_⟩
  rw [edF_rec_none]
  have k4 : Kf [m.e] H3 (upd H3 m.e (.ins (He.ga K "Editor") dx (edF p m.t (recV none) m.pr m.un m.ud))) := Kf.write g3 (by simp) (mut_ed _ _ _ _ _ _ _ _) (we g3 (mut_ed _ _ _ _ _ _ _ _))
  have g4 : (upd H3 m.e (.ins (He.ga K "Editor") dx (edF p m.t (recV none) m.pr m.un m.ud))) m.e = _ := upd_same
  generalize (upd H3 m.e (.ins (He.ga K "Editor") dx (edF p m.t (recV none) m.pr m.un m.ud))) = H4 at k4 g4 ⊢
  have g : ∀ {c o}, H c = some o → noTbl o = true → (∀ kv, o ≠ .dK kv) → (∀ C d f, o ≠ .ins C d f) → H4 c = some o := fun h t n1 n2 => k4.q.gets (k3.q.gets h (net' h t n1) t) (nin_e hE h n2) t
  have tu : ∀ {l xs}, SqT K H l xs → SqT K H4 l xs := fun h => k4.tup (k3.tup h)
  have pg : ∀ {q g}, PageAt K H q g → PageAt K H4 q g := fun h => k4.page (k3.page h)
  have g5 := g h3 rfl (by simp) (by simp)
  refine ⟨_, rfl, m.e, _, dx, _, _, rfl, g4, T.c_Editor, T.a_Editor_pressed, edF_pressed _ _ _ _ _ _, m.pr, _, rfl, .inl (SqL.of g5), ?_⟩
  rw [List.length_map, hl]
  have tok : TpOk (stopE ed n).tapes := by
    refine ⟨fun i hi => ?_, fun i hi => ?_⟩
    · show (if i = n then ed.pressed.drop (ed.pressed.length - 30) else ed.tapes i).length ≤ 30
      split
      · rw [List.length_drop]; omega
      · exact hE.tok.len i hi
    · show ∀ k ∈ (if i = n then ed.pressed.drop (ed.pressed.length - 30) else ed.tapes i), k.Ok
      split
      · exact fun k hk => hE.pok k (List.mem_of_mem_drop hk)
      · exact hE.tok.ok i hi
  have kt4 := k4.tapes gtp ntm
  refine kQ n H4 hs ⟨(k3.q.mono (fun c hc => by rw [List.mem_singleton.mp hc]; simp [EdM.l])).trans (k4.q.mono (fun c hc => by rw [List.mem_singleton.mp hc]; simp [EdM.l])), hE.wr, fun c hc => ?_⟩ ⟨⟨dx, p, ap, au, ad, g4, pg h2, g5, h4.imp (fun _ _ z => tu z), g h5 rfl (by simp) (by simp), h6.imp (fun _ _ z => tu z) (fun _ _ z => pg z), g h7 rfl (by simp) (by simp), h8.imp (fun _ _ z => tu z) (fun _ _ z => pg z)⟩, kt4, tok, k4.q.tab _ (k3.q.tab _ hE.sign), hE.ok, hE.d1, hE.d2, hE.d3, hE.pok, hE.uok, hE.dok, fun n' e => by cases e⟩
  by_cases e1 : c = m.e
  · rw [e1]; exact ⟨_, g4, mut_ed _ _ _ _ _ _ _ _⟩
  · by_cases e2 : c = m.t
    · obtain ⟨kv, z1, _⟩ := kt4
      rw [e2]; exact ⟨_, z1, rfl⟩
    · obtain ⟨o, z1, z2⟩ := hE.wr c hc
      exact ⟨o, k4.q.gets (k3.q.gets z1 (by simp [e2]) (mut_noTbl z2)) (by simp [e1]) (mut_noTbl z2), z2⟩
end
end KT
set_option Elab.async false
set_option linter.all false
set_option maxRecDepth 100000
set_option maxHeartbeats 4000000
namespace KT
open PySem PySem.Spec PyProof.Rows L2 GxR
variable [GT]
section
variable {P : Program} {w : World} {K : PySem.W.Frag} {mg : Str → Option Value} {base : Heap}
def sp_ed_hand (K : PySem.W.Frag) : Sp := fun vs H Q E => ∃ m ed a ky, vs = [.ref m.e, .ref a] ∧ EdAt K H m ed ∧ KeyAt K H a ky ∧ ky.Ok ∧
  (runK ed ky = .long → ∀ H', Kq [] H H' → E (.ref (He.ga K "TooLong")) none H') ∧
  (∀ b st y as H', runK ed ky = .fin b st → H y = none → Kq [] H H' → H' y = some (.lst (as.map V.ref)) → KeysAt K H' as st.typed → st.typed.length ≤ 400 → Q (.ref y) H')
theorem sc_Editor_hand : FnScope ["self", "key", "player"] ["self", "key"] (defScope s_Editor_hand) := ⟨rfl, rfl, rfl, by decide +kernel, rfl, by decide +kernel, by decide +kernel⟩
theorem ok_Editor_hand (T : Tx w K mg) (B : TabB base mg (cS K) (tS K)) : Fk P w K mg base 70 (Ad K d_Editor_hand.at_) ["self", "key"] (sp_ed_hand K) := by
  have F_Player___init__ := ok_Player___init__ (P := P) (base := base) T
  have F_Player_do := ok_player (P := P) (base := base) T 20
  have F_check_key := ok_check_key (P := P) (base := base) T B
  refine mkF T.f_Editor_hand sc_Editor_hand rfl (fun _ _ _ _ _ _ us hl => match us, hl with | [_, _], _ => rfl) (fun vs H Q E h => by obtain ⟨_, _, _, _, rfl, _⟩ := h; rfl) (fun cdv A outer s H vs Q E hcd hcode hr h => ?_)
  refine ⟨_, (pss_cons (ps_expr (pe_cF F_check_key (hr.mono (by decide)) T.g_check_key px (pa_cons (pv 1) pa_nil)))
      (pss_cons (ps_asg (pe_kF (spN := sp_Player K) T.k_Player F_Player___init__ (hr.mono (by decide)) T.g_Player px new_Player (pa_cons (pe_fld (pv 0) rfl) (pa_cons (pe_fld (pv 0) rfl) pa_nil))) (pg_name (i := 2) sc_Editor_hand.nd rfl (.inl rfl)))
      (pss_cons (ps_expr (pe_mF _ (pv 2) T.c_Player T.m_Player_do F_Player_do (hr.mono (by decide)) px (pa_cons (pv 1) (pa_cons pe_int pa_nil))))
      (pss_one (ps_ret (pe_fld (pv 2) rfl)))))), ?_⟩
  obtain ⟨m, ed, a, ky, rfl, hE, hk, kok, kl, kf⟩ := h
  refine ⟨_, rfl, a, keyV ky, fun _ => true, rfl, hk, keyV_small kok, hE.sign, fun x e => act_ok T x e, fun _ H1 k1 => ?_, fun e => absurd ((keyB_ok kok).symm.trans e) (by simp)⟩
  have hE1 := hE.kq k1
  obtain ⟨dx1, p1, ap1, au1, ad1, g1, g2, _⟩ := hE1.ex
  refine ⟨_, rfl, m.e, _, dx1, _, _, rfl, g1, T.c_Editor, T.a_Editor_page, edF_page _ _ _ _ _ _, _, rfl, m.e, _, dx1, _, _, rfl, g1, T.c_Editor, T.a_Editor_tapes, edF_tapes _ _ _ _ _ _, p1, m.t, ed.page, ed.tapes, rfl, g2, hE.ok, hE1.tapes, hE1.tok, hE1.sign, fun x y H2 k2 nx ny nxy hP => ?_⟩
  obtain ⟨dx2, p2, as2, q1, _⟩ := hP.ex
  have nxH : H x = none := k1.fr x nx
  have nyH : H y = none := k1.fr y ny
  have fr : ∀ {H3}, Kf [x, y] H2 H3 → Kq [] H H3 := fun k3 => (k1.trans k2).fresh k3.q fun c hc => by
    simp only [List.mem_cons, List.not_mem_nil, or_false] at hc
    rcases hc with rfl | rfl
    · exact nxH
    · exact nyH
  refine ⟨_, rfl, x, _, _, rfl, q1, playerF_no_do _ _ _ _, _, rfl, x, m.t, y, ed.tapes, ⟨ed.page, [], 0⟩, a, ky, rfl, hP, Nat.zero_le _, Nat.le_refl _, (k1.trans k2).key hk, kok, fun el H3 k3 => kl el H3 (fr k3), fun b st H3 eb k3 hP3 h43 => ?_⟩
  obtain ⟨dx, p, as, c1, _, c3, c4⟩ := hP3.ex
  exact ⟨_, rfl, x, _, dx, _, _, rfl, c1, T.c_Player, T.a_Player_typed, playerF_typed _ _ _ _, kf b st y as H3 eb nyH (fr k3) c3 c4 (Nat.le_trans hP3.small h43)⟩
end
end KT
set_option Elab.async false
set_option linter.all false
set_option maxRecDepth 100000
set_option maxHeartbeats 4000000
namespace KT
open PySem PySem.Spec PyProof.Rows L2 GxR
variable [GT]
section
variable {P : Program} {w : World} {K : PySem.W.Frag} {mg : Str → Option Value} {base : Heap}
theorem ok_Editor_handX (T : Tx w K mg) (B : TabB base mg (cS K) (tS K)) : Fk P w K mg base 70 (Ad K d_Editor_hand.at_) ["self", "key"] (sp_noKey K) := by
  have F_Player___init__ := ok_Player___init__ (P := P) (base := base) T
  have F_Player_do := ok_player (P := P) (base := base) T 20
  have F_check_key := ok_check_key (P := P) (base := base) T B
  refine mkF T.f_Editor_hand sc_Editor_hand rfl (fun _ _ _ _ _ _ us hl => match us, hl with | [_, _], _ => rfl) (fun vs H Q E h => by obtain ⟨_, _, _, _, rfl, _⟩ := h; rfl) (fun cdv A outer s H vs Q E hcd hcode hr h => ?_)
  refine ⟨_, (pss_cons (ps_expr (pe_cF F_check_key (hr.mono (by decide)) T.g_check_key px (pa_cons (pv 1) pa_nil)))
      (pss_cons (ps_asg (pe_kF (spN := sp_Player K) T.k_Player F_Player___init__ (hr.mono (by decide)) T.g_Player px new_Player (pa_cons (pe_fld (pv 0) rfl) (pa_cons (pe_fld (pv 0) rfl) pa_nil))) (pg_name (i := 2) sc_Editor_hand.nd rfl (.inl rfl)))
      (pss_cons (ps_expr (pe_mF _ (pv 2) T.c_Player T.m_Player_do F_Player_do (hr.mono (by decide)) px (pa_cons (pv 1) (pa_cons pe_int pa_nil))))
      (pss_one (ps_ret (pe_fld (pv 2) rfl)))))), ?_⟩
  obtain ⟨e, a, xs, act, rfl, ht, hs, hT, hact, hb, kE⟩ := h
  exact ⟨_, rfl, a, xs, act, rfl, ht, hs, hT, hact, (fun z => by rw [hb] at z; cases z), fun _ H' k' => kE H' k'⟩
end
end KT
set_option Elab.async false
set_option linter.all false
set_option maxRecDepth 100000
set_option maxHeartbeats 4000000
namespace KT
open PySem PySem.Spec PyProof.Rows L2 GxR
variable [GT]
section
variable {P : Program} {w : World} {K : PySem.W.Frag} {mg : Str → Option Value} {base : Heap}
def sp_ed_tape_of (K : PySem.W.Frag) : Sp := fun vs H Q _ => ∃ m ed n, vs = [.ref m.e, .str (nameS n)] ∧ EdAt K H m ed ∧ n < 8 ∧ ∀ a, TapeAt K H a (ed.tapes n) → Q (.ref a) H
theorem sc_Editor_tape_of : FnScope ["self", "name"] ["self", "name"] (defScope s_Editor_tape_of) := ⟨rfl, rfl, rfl, by decide +kernel, rfl, by decide +kernel, by decide +kernel⟩
theorem ok_Editor_tape_of (T : Tx w K mg) : Fk P w K mg base 2 (Ad K d_Editor_tape_of.at_) ["self", "name"] (sp_ed_tape_of K) := by
  have F_check_name := ok_check_name (P := P) (base := base) T
  refine mkF T.f_Editor_tape_of sc_Editor_tape_of rfl (fun _ _ _ _ _ _ us hl => match us, hl with | [_, _], _ => rfl) (fun vs H Q E h => by obtain ⟨_, _, _, rfl, _⟩ := h; rfl) (fun cdv A outer s H vs Q E hcd hcode hr h => ?_)
  refine ⟨_, (pss_cons (ps_expr (pe_cF F_check_name (hr.mono (by decide)) T.g_check_name px (pa_cons (pv 1) pa_nil)))
      (pss_one (ps_ret (pe_dget (hu_of hr) (pe_fld (pv 0) rfl) (pv 1) (fun _ _ => rfl))))), ?_⟩
  obtain ⟨m, ed, n, rfl, hE, hn, kQ⟩ := h
  refine ⟨_, rfl, _, rfl, rfl, fun _ => ?_, fun e => absurd ((nameB_ok hn).symm.trans e) (by simp)⟩
  obtain ⟨dx, p, ap, au, ad, h1, _⟩ := hE.ex
  obtain ⟨kvs, t1, t2, t3⟩ := hE.tapes
  obtain ⟨a, a1, a2⟩ := t3 n hn
  exact ⟨_, rfl, m.e, _, dx, _, _, rfl, h1, T.c_Editor, T.a_Editor_tapes, edF_tapes _ _ _ _ _ _, _, rfl, m.t, _, rfl, a1 ▸ DGet.k (k := Sum.inr (nameS n)) t1, kQ a a2⟩
end
end KT
set_option Elab.async false
set_option linter.all false
set_option maxRecDepth 100000
set_option maxHeartbeats 4000000
namespace KT
open PySem PySem.Spec PyProof.Rows L2 GxR
variable [GT]
section
variable {P : Program} {w : World} {K : PySem.W.Frag} {mg : Str → Option Value} {base : Heap}
/-! ### what an editor refuses -/
def sp_ed_tapeX (K : PySem.W.Frag) : Sp := fun vs H Q E => ∃ e v a xss, vs = [.ref e, v, .ref a] ∧ flatV v = true ∧ TpAt K H a xss ∧ OddsOk K xss ∧ TabG H (tS K) ∧
  ((nameB v = false ∧ E (.ref (He.ga K "BadName")) none H) ∨ (nameB v = true ∧ ∃ i, firstBad 30 (keyB actB) 0 xss = some i ∧ ∀ d H1, Kq [] H H1 → H1 d = none → E (.ref (He.ga K "BadKeys")) (some d) (upd H1 d (.xd [("at", .int (i : Nat))]))))
theorem sc_Editor_tapeX : FnScope ["self", "name", "keys"] ["self", "name", "keys"] (defScope s_Editor_tape) := ⟨rfl, rfl, rfl, by decide +kernel, rfl, by decide +kernel, by decide +kernel⟩
theorem ok_Editor_tapeX (T : Tx w K mg) (hP : SupP P fileS) (B : TabB base mg (cS K) (tS K)) : Fk P w K mg base 9 (Ad K d_Editor_tape.at_) ["self", "name", "keys"] (sp_ed_tapeX K) := by
  have F_check_keys := ok_check_keysX (P := P) (base := base) T hP B
  have F_check_name := ok_check_name (P := P) (base := base) T
  refine mkF T.f_Editor_tape sc_Editor_tapeX rfl (fun _ _ _ _ _ _ us hl => match us, hl with | [_, _, _], _ => rfl) (fun vs H Q E h => by obtain ⟨_, _, _, _, rfl, _⟩ := h; rfl) (fun cdv A outer s H vs Q E hcd hcode hr h => ?_)
  refine ⟨_, (pss_cons (ps_expr (pe_cF F_check_name (hr.mono (by decide)) T.g_check_name px (pa_cons (pv 1) pa_nil)))
      (pss_cons (ps_expr (pe_cF F_check_keys (hr.mono (by decide)) T.g_check_keys px (pa_cons (pv 2) pa_nil)))
      (pss_one (ps_dput (hu_of hr) (pe_fld (pv 0) rfl) (pv 1) (pe_callTy call_tuple_of (by rfl) T.n_tuple (by decide +kernel) (pa_cons (pv 2) pa_nil)) rfl)))), ?_⟩
  obtain ⟨e, v, a, xss, rfl, hf, ⟨as, ha, hk⟩, ⟨ho, h100⟩, hT, hc⟩ := h
  refine ⟨_, rfl, v, rfl, hf, fun hn => ?_, fun hn => ?_⟩
  rotate_left
  · rcases hc with ⟨_, kE⟩ | ⟨z, _⟩
    · exact kE
    · rw [hn] at z; cases z
  rcases hc with ⟨z, _⟩ | ⟨_, i, hi, kE⟩
  · rw [hn] at z; cases z
  refine ⟨_, rfl, a, as, xss, rfl, ha, hk, ho, h100, hT, fun ok H1 k1 => ?_, fun j hj hlt hbad d H1 k1 nd => ?_⟩
  · rw [firstBad_of 0 xss (fun j hj => by rw [Nat.zero_add]; exact ok j hj)] at hi; cases hi
  · have e2 := firstBad_at (m := 30) (okB := keyB actB) 0 xss j hj (fun l hl => by rw [Nat.zero_add]; exact hlt l hl) (by rw [Nat.zero_add]; exact hbad)
    rw [e2, Nat.zero_add] at hi
    cases hi
    exact kE d H1 k1 nd
/-- a name that is none -/
def sp_ed_badname (K : PySem.W.Frag) : Sp := fun vs H _ E => ∃ e v, vs = [.ref e, v] ∧ flatV v = true ∧ nameB v = false ∧ E (.ref (He.ga K "BadName")) none H
theorem sc_Editor_tape_ofX : FnScope ["self", "name"] ["self", "name"] (defScope s_Editor_tape_of) := ⟨rfl, rfl, rfl, by decide +kernel, rfl, by decide +kernel, by decide +kernel⟩
theorem ok_Editor_tape_ofX (T : Tx w K mg) : Fk P w K mg base 2 (Ad K d_Editor_tape_of.at_) ["self", "name"] (sp_ed_badname K) := by
  have F_check_name := ok_check_name (P := P) (base := base) T
  refine mkF T.f_Editor_tape_of sc_Editor_tape_ofX rfl (fun _ _ _ _ _ _ us hl => match us, hl with | [_, _], _ => rfl) (fun vs H Q E h => by obtain ⟨_, _, rfl, _⟩ := h; rfl) (fun cdv A outer s H vs Q E hcd hcode hr h => ?_)
  refine ⟨_, (pss_cons (ps_expr (pe_cF F_check_name (hr.mono (by decide)) T.g_check_name px (pa_cons (pv 1) pa_nil)))
      (pss_one (ps_ret (pe_dget (hu_of hr) (pe_fld (pv 0) rfl) (pv 1) (fun _ _ => rfl))))), ?_⟩
  obtain ⟨e, v, rfl, hf, hn, kE⟩ := h
  exact ⟨_, rfl, v, rfl, hf, (fun z => by rw [hn] at z; cases z), fun _ => kE⟩
theorem sc_Editor_recordX : FnScope ["self", "name"] ["self", "name"] (defScope s_Editor_record) := ⟨rfl, rfl, rfl, by decide +kernel, rfl, by decide +kernel, by decide +kernel⟩
theorem ok_Editor_recordX (T : Tx w K mg) : Fk P w K mg base 2 (Ad K d_Editor_record.at_) ["self", "name"] (sp_ed_badname K) := by
  have F_check_name := ok_check_name (P := P) (base := base) T
  refine mkF T.f_Editor_record sc_Editor_recordX rfl (fun _ _ _ _ _ _ us hl => match us, hl with | [_, _], _ => rfl) (fun vs H Q E h => by obtain ⟨_, _, rfl, _⟩ := h; rfl) (fun cdv A outer s H vs Q E hcd hcode hr h => ?_)
  have tk : Takes (CxD P w K mg base ["self", "name"] d_Editor_record cdv A outer s H E) (fun cls d _ H => E cls d H) := takes_of rfl rfl rfl rfl
  refine ⟨_, (pss_cons (ps_expr (pe_cF F_check_name (hr.mono (by decide)) T.g_check_name px (pa_cons (pv 1) pa_nil)))
      (pss_cons (ps_if (pt_cmpR op_notN (pe_fld (pv 0) rfl) pe_non (nomark _)) (pss_one (ps_raise rfl tk (pmk_Taping T rfl))) pss_nil)
      (pss_cons (ps_fld (pv 0) (pv 1) rfl)
      (pss_one (ps_fld (pv 0) (pe_lst pa_nil) rfl))))), ?_⟩
  obtain ⟨e, v, rfl, hf, hn, kE⟩ := h
  exact ⟨_, rfl, v, rfl, hf, (fun z => by rw [hn] at z; cases z), fun _ => kE⟩
/-- an editor of any text -/
def sp_EditorA (K : PySem.W.Frag) : Sp := fun vs H Q E => ∃ ls, vs = [.str (textS ls)] ∧ ls ≠ [] ∧ (∀ l ∈ ls, 10 ∉ l) ∧ (∀ l ∈ ls, l.length ≤ 1000) ∧ ls.length ≤ 900 ∧ TabG H (tS K) ∧
  (goodB ls = true → ∀ m H', (∀ b ∈ m.l, H b = none) → Kq [] H H' → EdAt K H' m (EdSt.new ls) → Q (.ref m.e) H') ∧ (goodB ls = false → ∀ H', Kq [] H H' → E (.ref (He.ga K "BadText")) none H')
theorem new_EditorA {E : XK} : ∀ vs H Q, sp_EditorA K vs H Q E → ∀ x dx, H x = none → H dx = none → dx ≠ x →
    sp_Editor___init__ K (.ref x :: vs) (upd (upd H dx (.own x)) x (.ins (He.ga K "Editor") dx [])) (fun v H2 => v = .non ∧ Q (.ref x) H2) E := by
  rintro vs H Q ⟨ls, rfl, hne, h10, hl, hm, hT, k, kE⟩ x dx nx ndx ne
  have k0 : Kq [] H (upd (upd H dx (.own x)) x (.ins (He.ga K "Editor") dx [])) := Kq.made nx ndx ne
  refine ⟨x, dx, ls, rfl, upd_same, hne, h10, hl, hm, k0.tab _ hT, fun hg t pr un ud H' n1 n2 n3 n4 kq hE => ⟨rfl, k hg ⟨x, t, pr, un, ud⟩ H' ?_ (k0.fresh kq fun c hc => by rw [List.mem_singleton.mp hc]; exact nx) hE⟩, fun hg H' k1 => kE hg H' (k0.trans k1)⟩
  intro b hb
  simp only [EdM.l, List.mem_cons, List.not_mem_nil, or_false] at hb
  rcases hb with rfl | rfl | rfl | rfl | rfl
  · exact nx
  · exact k0.fr _ n1
  · exact k0.fr _ n2
  · exact k0.fr _ n3
  · exact k0.fr _ n4
end
end KT
set_option Elab.async false
set_option linter.all false
set_option maxRecDepth 100000
set_option maxHeartbeats 4000000
namespace KT
open PySem PySem.Spec PyProof.Rows L2
def repS (z : Str) (k : Nat) : Str := ⟨(List.replicate k z.cps).foldl (· ++ ·) #[]⟩
def rMulS : R2 := fun x y H Q => ∃ (z : Str) (k : Nat), x = .str z ∧ y = .int (k : Int) ∧ 2 ≤ k ∧ k ≤ 1000 ∧ 1 ≤ z.length ∧ z.length ≤ 1000 ∧ Q (.str (repS z k)) H
/-- a text so many times, two at least -/
theorem op_mulS {X : Cx} : OpR X (binaryOp .Mult) rMulS := by
  intro pins s σ H x y v u Q I rx ry h
  obtain ⟨z, k, ex, ey, h2, hk, h1, hz, q⟩ := h
  subst ex ey
  obtain ⟨t, rfl⟩ := rx
  obtain ⟨t', rfl⟩ := ry
  refine PySem.P.mul_str (by rw [decide_eq_false (by omega), decide_eq_false (by omega)]; rfl) (fun _ _ => ?_) (fun _ _ => ?_) ?_
  · intro hg
    have h3 : (1000 : Int) ≤ (2 ^ 63 - 1) / (k : Int) := by
      rw [Int.le_ediv_iff_mul_le (by omega)]
      have : (1000 : Int) * (k : Int) ≤ 1000 * 1000 := Int.mul_le_mul_of_nonneg_left (by omega) (by decide)
      omega
    omega
  · rw [Int.toNat_natCast]
    have : z.length * k ≤ 1000 * 1000 := Nat.mul_le_mul hz hk
    exact decide_eq_false (by rw [sizeLine_eq]; omega)
  · have hc : ((k : Int) == 1 || z.length == 0) = false := by
      have a1 : ((k : Int) == 1) = false := beq_eq_false_iff_ne.mpr (by omega)
      have a2 : (z.length == 0) = false := beq_eq_false_iff_ne.mpr (by omega)
      rw [a1, a2]; rfl
    rw [if_neg (by omega), hc, if_neg (by decide), Int.toNat_natCast]
    have hlen : ∀ n : Nat, ∀ acc : Array Nat, ((List.replicate n z.cps).foldl (· ++ ·) acc).size = acc.size + n * z.length := by
      intro n
      induction n with
      | zero => intro acc; simp
      | succ n ih => intro acc; rw [List.replicate_succ, List.foldl_cons, ih, Array.size_append, Nat.succ_mul]; show _ + z.cps.size + _ = _; have : z.length = z.cps.size := rfl; omega
    refine ⟨?_, .str (repS z k), H, I.tok _, ⟨_, rfl⟩, q⟩
    have e := hlen k #[]
    have : k * z.length ≤ 1000 * 1000 := Nat.mul_le_mul hk hz
    show ((List.replicate k z.cps).foldl (· ++ ·) #[]).size ≤ sizeLine
    rw [e, sizeLine_eq]
    simp only [Array.size_empty] at *
    omega
end KT
set_option Elab.async false
set_option linter.all false
set_option maxRecDepth 100000
set_option maxHeartbeats 4000000
namespace KT
open PySem PySem.Spec PyProof.Rows L2 GxR
variable [GT]
def OddT (K : PySem.W.Frag) (H : Hp) (a : Addr) : Prop := ∃ xs, SqT K H a xs ∧ OddOk K xs ∧ keyB actB xs = false
theorem OddT.kq {K : PySem.W.Frag} {H H1 : Hp} {a : Addr} (h : OddT K H a) (k : Kq [] H H1) : OddT K H1 a := by obtain ⟨xs, h1, h2⟩ := h; exact ⟨xs, k.tup h1, h2⟩
theorem OddT.kf {K : PySem.W.Frag} {H H1 : Hp} {a : Addr} {S : List Addr} (h : OddT K H a) (k : Kf S H H1) : OddT K H1 a := by obtain ⟨xs, h1, h2⟩ := h; exact ⟨xs, k.tup h1, h2⟩
inductive AllOdd (K : PySem.W.Frag) (H : Hp) : List Addr → Prop where
  | nil : AllOdd K H []
  | co {a : Addr} {as : List Addr} : OddT K H a → AllOdd K H as → AllOdd K H (a :: as)
theorem AllOdd.cons {K : PySem.W.Frag} {H : Hp} {a : Addr} {as : List Addr} (h : AllOdd K H as) (g : OddT K H a) : AllOdd K H (a :: as) := .co g h
theorem AllOdd.kq {K : PySem.W.Frag} {H H1 : Hp} {as : List Addr} (h : AllOdd K H as) (k : Kq [] H H1) : AllOdd K H1 as := by
  induction h with
  | nil => exact .nil
  | co g _ ih => exact .co (g.kq k) ih
theorem AllOdd.at_ {K : PySem.W.Frag} {H : Hp} {as : List Addr} (h : AllOdd K H as) {a : Addr} (ha : a ∈ as) : OddT K H a := by
  induction h with
  | nil => simp at ha
  | co g _ ih => rcases List.mem_cons.mp ha with rfl | z; exact g; exact ih z
theorem dr_some {H : Hp} {h l : Addr} (hD : DrAt H h l) : ∀ b ∈ [h, l], H b ≠ none := by
  obtain ⟨a, c, xs, h1, h2, _⟩ := hD
  intro b hb
  simp only [List.mem_cons, List.not_mem_nil, or_false] at hb
  rcases hb with rfl | rfl
  · rw [h1]; simp
  · rw [h2]; simp
def smallVB : V → Bool
  | .str z => decide (z.length ≤ 1000)
  | .int _ => true
  | _ => false
theorem smallVB_ok {v : V} (h : smallVB v = true) : smallV v := by
  cases v with
  | str z => exact (of_decide_eq_true (show decide (z.length ≤ 1000) = true from h) : z.length ≤ 1000)
  | int i => trivial
  | _ => cases h
theorem odd_const {K : PySem.W.Frag} {xs : List V} (h1 : xs.all smallVB = true) (h2 : xs.length ≠ 1) (h3 : keyB actB xs = false) : OddOk K xs ∧ keyB actB xs = false :=
  ⟨⟨fun x hx => smallVB_ok (List.all_eq_true.mp h1 x hx), fun k e => absurd (by rw [e]; rfl) h2⟩, h3⟩
theorem odd_one {K : PySem.W.Frag} {v : V} (h1 : smallVB v = true) (h2 : ActIs K v false) (h4 : actB v = false) (h3 : keyB actB [v] = false) : OddOk K [v] ∧ keyB actB [v] = false :=
  ⟨⟨fun x hx => by rw [List.mem_singleton.mp hx]; exact smallVB_ok h1, fun k e => by injection e with e _; subst e; rw [h4]; exact h2⟩, h3⟩
theorem repS_len (z : Str) (k : Nat) : (repS z k).length = k * z.length := by
  have hlen : ∀ n : Nat, ∀ acc : Array Nat, ((List.replicate n z.cps).foldl (· ++ ·) acc).size = acc.size + n * z.length := by
    intro n
    induction n with
    | zero => intro acc; simp
    | succ n ih => intro acc; rw [List.replicate_succ, List.foldl_cons, ih, Array.size_append, Nat.succ_mul]; show _ + z.cps.size + _ = _; have : z.length = z.cps.size := rfl; omega
  have := hlen k #[]
  simpa [repS, Str.length] using this
theorem odd_find {K : PySem.W.Frag} {k : Nat} (h1 : 5 ≤ k) (h2 : k ≤ 1000) : OddOk K [.str "find", .str (repS "a" k)] ∧ keyB actB [.str "find", .str (repS "a" k)] = false := by
  have hl : (repS "a" k).length = k := by rw [repS_len]; show k * 1 = k; omega
  refine ⟨⟨fun x hx => ?_, fun k e => by simp at e⟩, ?_⟩
  · simp only [List.mem_cons, List.not_mem_nil, or_false] at hx
    rcases hx with rfl | rfl
    · show Str.length "find" ≤ 1000; decide
    · show (repS "a" k).length ≤ 1000; omega
  · show (if V.str "find" = .str "put" then wordB 1 (.str (repS "a" k)) else if V.str "find" = .str "find" then wordB 4 (.str (repS "a" k)) else if V.str "find" = .str "till" then nameB (.str (repS "a" k)) else false) = false
    rw [if_neg (by decide), if_pos rfl]
    show (decide (1 ≤ (repS "a" k).length) && (decide ((repS "a" k).length ≤ 4) && (repS "a" k).cps.toList.all signB)) = false
    rw [hl, decide_eq_false (show ¬ k ≤ 4 by omega)]
    simp
theorem odd_play {K : PySem.W.Frag} {i : Int} (h : i < 1 ∨ 9 < i) : OddOk K [.str "play", .str "a", .int i] ∧ keyB actB [.str "play", .str "a", .int i] = false := by
  refine ⟨⟨fun x hx => ?_, fun k e => by simp at e⟩, ?_⟩
  · simp only [List.mem_cons, List.not_mem_nil, or_false] at hx
    rcases hx with rfl | rfl | rfl
    · show Str.length "play" ≤ 1000; decide
    · show Str.length "a" ≤ 1000; decide
    · trivial
  · show (if V.str "play" = .str "play" then (nameB (.str "a") && timesB (.int i)) else false) = false
    rw [if_pos rfl]
    show (nameB (.str "a") && (decide (1 ≤ i) && decide (i ≤ 9))) = false
    rcases h with h | h
    · rw [decide_eq_false (show ¬ 1 ≤ i by omega)]; simp
    · rw [decide_eq_false (show ¬ i ≤ 9 by omega)]; simp
section
variable {P : Program} {w : World} {K : PySem.W.Frag} {mg : Str → Option Value} {base : Heap}
def sp_odd (K : PySem.W.Frag) : Sp := fun vs H Q _ => ∃ (h l : Addr), vs = [.ref h] ∧ DrAt H h l ∧ ∀ q H', Kf [h, l] H H' → DrAt H' h l → OddT K H' q → Q (.ref q) H'
theorem sc__law_odd_key : FnScope ["_law_h", "_law_far", "_law_some"] ["_law_h"] (defScope s__law_odd_key) := ⟨rfl, rfl, rfl, by decide +kernel, rfl, by decide +kernel, by decide +kernel⟩
theorem ok__law_odd_key (T : Tx w K mg) : Fk P w K mg base 2 (Ad K d__law_odd_key.at_) ["_law_h"] (sp_odd K) := by
  have F__law_next := ok__law_next (P := P) (base := base) T
  refine mkF T.f__law_odd_key sc__law_odd_key rfl (fun _ _ _ _ _ _ us hl => match us, hl with | [_], _ => rfl) (fun vs H Q E h => by obtain ⟨_, _, rfl, _⟩ := h; rfl) (fun cdv A outer s H vs Q E hcd hcode hr h => ?_)
  refine ⟨_, (pss_cons (ps_asg (pe_ix ix_list (pe_lst (pa_cons pe_int (pa_cons (pe_op op_add pe_int (pe_cF F__law_next (hr.mono (by decide)) T.g__law_next px (pa_cons (pv 0) (pa_cons pe_int pa_nil)))) pa_nil))) (pe_cF F__law_next (hr.mono (by decide)) T.g__law_next px (pa_cons (pv 0) (pa_cons pe_int pa_nil))) (fun _ _ => rfl)) (pg_name (i := 1) sc__law_odd_key.nd rfl (.inl rfl)))
      (pss_cons (ps_asg (pe_lst (pa_cons (pe_tup (pa_cons pe_str (pa_cons pe_str pa_nil))) (pa_cons (pe_tup (pa_cons pe_str (pa_cons pe_str pa_nil))) (pa_cons (pe_tup (pa_cons pe_str (pa_cons pe_str pa_nil))) (pa_cons (pe_tup (pa_cons pe_str pa_nil)) (pa_cons (pe_tup (pa_cons pe_str (pa_cons pe_str (pa_cons pe_str pa_nil)))) (pa_cons (pe_tup (pa_cons pe_str (pa_cons pe_int pa_nil))) (pa_cons (pe_tup (pa_cons pe_str (pa_cons pe_str pa_nil))) pa_nil)))))))) (pg_name (i := 2) sc__law_odd_key.nd rfl (.inl rfl)))
      (pss_cons (ps_asg (pe_op op_cat (pv 2) (pe_lst (pa_cons (pe_tup (pa_cons pe_str (pa_cons pe_str pa_nil))) (pa_cons (pe_tup (pa_cons pe_str (pa_cons (pe_op op_mulS pe_str (pe_op op_add pe_int (pv 1))) pa_nil))) (pa_cons (pe_tup (pa_cons pe_str pa_nil)) (pa_cons (pe_tup (pa_cons pe_str (pa_cons pe_str (pa_cons (pe_op op_add pe_int (pv 1)) pa_nil)))) (pa_cons (pe_tup (pa_cons pe_str (pa_cons pe_str (pa_cons pe_int pa_nil)))) pa_nil))))))) (pg_name (i := 2) sc__law_odd_key.nd rfl (.inl rfl)))
      (pss_cons (ps_asg (pe_op op_cat (pv 2) (pe_lst (pa_cons (pe_tup (pa_cons pe_str (pa_cons pe_str (pa_cons (pe_op op_sub pe_int (pv 1)) pa_nil)))) (pa_cons (pe_tup (pa_cons pe_str (pa_cons pe_str pa_nil))) (pa_cons (pe_tup (pa_cons pe_str (pa_cons pe_str (pa_cons pe_int pa_nil)))) (pa_cons (pe_tup (pa_cons pe_str (pa_cons pe_str (pa_cons pe_int pa_nil)))) (pa_cons (pe_tup (pa_cons pe_str (pa_cons pe_str (pa_cons pe_str pa_nil)))) pa_nil))))))) (pg_name (i := 2) sc__law_odd_key.nd rfl (.inl rfl)))
      (pss_cons (ps_asg (pe_op op_cat (pv 2) (pe_lst (pa_cons (pe_tup (pa_cons pe_str (pa_cons pe_str pa_nil))) (pa_cons (pe_tup (pa_cons pe_str (pa_cons pe_str (pa_cons pe_int pa_nil)))) (pa_cons (pe_tup (pa_cons pe_str pa_nil)) (pa_cons (pe_tup (pa_cons pe_str (pa_cons pe_str pa_nil))) (pa_cons (pe_tup (pa_cons pe_str (pa_cons pe_int pa_nil))) (pa_cons (pe_tup (pa_cons pe_str pa_nil)) (pa_cons (pe_tup (pa_cons pe_str (pa_cons pe_str pa_nil))) (pa_cons (pe_tup pa_nil) pa_nil)))))))))) (pg_name (i := 2) sc__law_odd_key.nd rfl (.inl rfl)))
      (pss_cons (ps_asg (pe_op op_cat (pv 2) (pe_lst (pa_cons (pe_tup (pa_cons pe_int pa_nil)) (pa_cons (pe_tup (pa_cons pe_str (pa_cons pe_int pa_nil))) (pa_cons (pe_tup (pa_cons pe_str (pa_cons pe_str pa_nil))) (pa_cons (pe_tup (pa_cons pe_str (pa_cons pe_str pa_nil))) (pa_cons (pe_tup (pa_cons pe_str (pa_cons pe_int pa_nil))) (pa_cons (pe_tup (pa_cons pe_str (pa_cons pe_str pa_nil))) (pa_cons (pe_tup (pa_cons pe_str (pa_cons pe_str pa_nil))) pa_nil))))))))) (pg_name (i := 2) sc__law_odd_key.nd rfl (.inl rfl)))
      (pss_cons (ps_expr (pe_bm PySem.F.plainAttrs_list PySem.F.slot_list_append PySem.F.type_list_append mt_append (pv 2) (pa_cons (pe_tup (pa_cons pe_str (pa_cons pe_str pa_nil))) pa_nil)))
      (pss_one (ps_ret (pe_ix ix_list (pv 2) (pe_cF F__law_next (hr.mono (by decide)) T.g__law_next px (pa_cons (pv 0) (pa_cons pe_int pa_nil))) (fun _ _ => rfl))))))))))), ?_⟩
  obtain ⟨h, l, rfl, hD, kQ⟩ := h
  refine ⟨_, rfl, h, l, 99, rfl, hD, by decide, by decide, fun r H0 hr k0 hD0 => ⟨_, _, rfl, rfl, ?_⟩⟩
  refine ⟨line16 (by show 2 ≤ 1000000; decide), fun Z nZ => ?_⟩
  have kZ : Kq [] H0 (upd H0 Z (.lst [.int 1, .int ((1 : Int) + (r : Int))])) := Kq.alloc nZ
  have gZ : (upd H0 Z (.lst [.int 1, .int ((1 : Int) + (r : Int))])) Z = some (.lst [.int 1, .int ((1 : Int) + (r : Int))]) := upd_same
  have nZd : Z ∉ [h, l] := fun z => dr_some hD0 _ z nZ
  have hD1 := hD0.kq kZ
  have k01 := k0.kq kZ
  show _
  generalize (upd H0 Z (.lst [.int 1, .int ((1 : Int) + (r : Int))])) = H1 at gZ hD1 k01 ⊢
  refine ⟨_, rfl, h, l, 2, rfl, hD1, by decide, by decide, fun r2 H2 hr2 k2 hD2 => ?_⟩
  have hf : ∃ far : Nat, ([.int 1, .int ((1 : Int) + (r : Int))] : List V)[r2]? = some (.int (far : Int)) ∧ 1 ≤ far ∧ far ≤ 99 := match r2, hr2 with
    | 0, _ => ⟨1, rfl, by decide, by decide⟩
    | 1, _ => ⟨1 + r, by show some (V.int ((1 : Int) + (r : Int))) = _; rw [show (1 : Int) + (r : Int) = ((1 + r : Nat) : Int) by omega], by omega, by omega⟩
  obtain ⟨far, ef, f1, f99⟩ := hf
  refine ⟨Z, _, _, .int (far : Int), rfl, rfl, SqL.of (k2.q.gets gZ nZd), at_of rfl ef, ?_⟩
  have e4 : V.int ((4 : Int) + (far : Int)) = V.int ((4 + far : Nat) : Int) := by rw [show (4 : Int) + (far : Int) = ((4 + far : Nat) : Int) by omega]
  have k02 := k01.trans k2
  have al : AllOdd K H2 [] := .nil
  have kk : Kq [] H2 H2 := Kq.refl
  refine ⟨line16 (by show 2 ≤ 1000000; decide), fun t1 nt1 => ?_⟩
  have kt1 : Kq [] H2 (upd H2 t1 (.tup [.str "put", .str ""])) := Kq.alloc nt1
  have gt1 : OddT K (upd H2 t1 (.tup [.str "put", .str ""])) t1 := ⟨_, SqT.of upd_same, odd_const (by decide +kernel) (by decide) (by decide +kernel)⟩
  have al := ((al.kq kt1).cons gt1)
  have kk := kk.trans kt1
  show _
  generalize hG1 : (upd H2 t1 (.tup [.str "put", .str ""])) = G1 at kt1 gt1 al kk ⊢
  clear gt1 kt1 hG1
  refine ⟨line16 (by show 2 ≤ 1000000; decide), fun t2 nt2 => ?_⟩
  have kt2 : Kq [] G1 (upd G1 t2 (.tup [.str "put", .str "ab"])) := Kq.alloc nt2
  have gt2 : OddT K (upd G1 t2 (.tup [.str "put", .str "ab"])) t2 := ⟨_, SqT.of upd_same, odd_const (by decide +kernel) (by decide) (by decide +kernel)⟩
  have al := ((al.kq kt2).cons gt2)
  have kk := kk.trans kt2
  show _
  generalize hG2 : (upd G1 t2 (.tup [.str "put", .str "ab"])) = G2 at kt2 gt2 al kk ⊢
  clear gt2 kt2 hG2
  refine ⟨line16 (by show 2 ≤ 1000000; decide), fun t3 nt3 => ?_⟩
  have kt3 : Kq [] G2 (upd G2 t3 (.tup [.str "put", .str "\n"])) := Kq.alloc nt3
  have gt3 : OddT K (upd G2 t3 (.tup [.str "put", .str "\n"])) t3 := ⟨_, SqT.of upd_same, odd_const (by decide +kernel) (by decide) (by decide +kernel)⟩
  have al := ((al.kq kt3).cons gt3)
  have kk := kk.trans kt3
  show _
  generalize hG3 : (upd G2 t3 (.tup [.str "put", .str "\n"])) = G3 at kt3 gt3 al kk ⊢
  clear gt3 kt3 hG3
  refine ⟨line16 (by show 1 ≤ 1000000; decide), fun t4 nt4 => ?_⟩
  have kt4 : Kq [] G3 (upd G3 t4 (.tup [.str "put"])) := Kq.alloc nt4
  have gt4 : OddT K (upd G3 t4 (.tup [.str "put"])) t4 := ⟨_, SqT.of upd_same, odd_one (by decide +kernel) (T.noAct (z := "put") (by decide +kernel)) (by decide +kernel) (by decide +kernel)⟩
  have al := ((al.kq kt4).cons gt4)
  have kk := kk.trans kt4
  show _
  generalize hG4 : (upd G3 t4 (.tup [.str "put"])) = G4 at kt4 gt4 al kk ⊢
  clear gt4 kt4 hG4
  refine ⟨line16 (by show 3 ≤ 1000000; decide), fun t5 nt5 => ?_⟩
  have kt5 : Kq [] G4 (upd G4 t5 (.tup [.str "put", .str "a", .str "b"])) := Kq.alloc nt5
  have gt5 : OddT K (upd G4 t5 (.tup [.str "put", .str "a", .str "b"])) t5 := ⟨_, SqT.of upd_same, odd_const (by decide +kernel) (by decide) (by decide +kernel)⟩
  have al := ((al.kq kt5).cons gt5)
  have kk := kk.trans kt5
  show _
  generalize hG5 : (upd G4 t5 (.tup [.str "put", .str "a", .str "b"])) = G5 at kt5 gt5 al kk ⊢
  clear gt5 kt5 hG5
  refine ⟨line16 (by show 2 ≤ 1000000; decide), fun t6 nt6 => ?_⟩
  have kt6 : Kq [] G5 (upd G5 t6 (.tup [.str "put", .int 7])) := Kq.alloc nt6
  have gt6 : OddT K (upd G5 t6 (.tup [.str "put", .int 7])) t6 := ⟨_, SqT.of upd_same, odd_const (by decide +kernel) (by decide) (by decide +kernel)⟩
  have al := ((al.kq kt6).cons gt6)
  have kk := kk.trans kt6
  show _
  generalize hG6 : (upd G5 t6 (.tup [.str "put", .int 7])) = G6 at kt6 gt6 al kk ⊢
  clear gt6 kt6 hG6
  refine ⟨line16 (by show 2 ≤ 1000000; decide), fun t7 nt7 => ?_⟩
  have kt7 : Kq [] G6 (upd G6 t7 (.tup [.str "find", .str ""])) := Kq.alloc nt7
  have gt7 : OddT K (upd G6 t7 (.tup [.str "find", .str ""])) t7 := ⟨_, SqT.of upd_same, odd_const (by decide +kernel) (by decide) (by decide +kernel)⟩
  have al := ((al.kq kt7).cons gt7)
  have kk := kk.trans kt7
  show _
  generalize hG7 : (upd G6 t7 (.tup [.str "find", .str ""])) = G7 at kt7 gt7 al kk ⊢
  clear gt7 kt7 hG7
  refine ⟨line16 (by show 7 ≤ 1000000; decide), fun A0 nA0 => ?_⟩
  have kA0 : Kq [] G7 (upd G7 A0 (.lst [.ref t1, .ref t2, .ref t3, .ref t4, .ref t5, .ref t6, .ref t7])) := Kq.alloc nA0
  have gA0 : (upd G7 A0 (.lst [.ref t1, .ref t2, .ref t3, .ref t4, .ref t5, .ref t6, .ref t7])) A0 = some (.lst [.ref t1, .ref t2, .ref t3, .ref t4, .ref t5, .ref t6, .ref t7]) := upd_same
  have al := al.kq kA0
  have kk := kk.trans kA0
  generalize (upd G7 A0 (.lst [.ref t1, .ref t2, .ref t3, .ref t4, .ref t5, .ref t6, .ref t7])) = GA0 at kA0 gA0 al kk ⊢
  have gS := gA0
  refine ⟨_, rfl, ?_⟩
  refine ⟨line16 (by show 2 ≤ 1000000; decide), fun t8 nt8 => ?_⟩
  have kt8 : Kq [] GA0 (upd GA0 t8 (.tup [.str "find", .str "a\n"])) := Kq.alloc nt8
  have gt8 : OddT K (upd GA0 t8 (.tup [.str "find", .str "a\n"])) t8 := ⟨_, SqT.of upd_same, odd_const (by decide +kernel) (by decide) (by decide +kernel)⟩
  have al := ((al.kq kt8).cons gt8)
  have kk := kk.trans kt8
  have gS := kt8.get gS
  show _
  generalize hG8 : (upd GA0 t8 (.tup [.str "find", .str "a\n"])) = G8 at kt8 gt8 al kk gS ⊢
  clear gt8 kt8 hG8
  refine ⟨_, rfl, _, _, rfl, rfl, "a", 4 + far, rfl, e4, by omega, by omega, by decide, by decide, line16 (by show 2 ≤ 1000000; decide), fun t9 nt9 => ?_⟩
  have kt9 : Kq [] G8 (upd G8 t9 (.tup [.str "find", .str (repS "a" (4 + far))])) := Kq.alloc nt9
  have gt9 : OddT K (upd G8 t9 (.tup [.str "find", .str (repS "a" (4 + far))])) t9 := ⟨_, SqT.of upd_same, odd_find (by omega) (by omega)⟩
  have al := ((al.kq kt9).cons gt9)
  have kk := kk.trans kt9
  have gS := kt9.get gS
  show _
  generalize hG9 : (upd G8 t9 (.tup [.str "find", .str (repS "a" (4 + far))])) = G9 at kt9 gt9 al kk gS ⊢
  clear gt9 kt9 hG9
  refine ⟨line16 (by show 1 ≤ 1000000; decide), fun t10 nt10 => ?_⟩
  have kt10 : Kq [] G9 (upd G9 t10 (.tup [.str "find"])) := Kq.alloc nt10
  have gt10 : OddT K (upd G9 t10 (.tup [.str "find"])) t10 := ⟨_, SqT.of upd_same, odd_one (by decide +kernel) (T.noAct (z := "find") (by decide +kernel)) (by decide +kernel) (by decide +kernel)⟩
  have al := ((al.kq kt10).cons gt10)
  have kk := kk.trans kt10
  have gS := kt10.get gS
  show _
  generalize hG10 : (upd G9 t10 (.tup [.str "find"])) = G10 at kt10 gt10 al kk gS ⊢
  clear gt10 kt10 hG10
  refine ⟨_, rfl, _, _, rfl, rfl, line16 (by show 3 ≤ 1000000; decide), fun t11 nt11 => ?_⟩
  have kt11 : Kq [] G10 (upd G10 t11 (.tup [.str "play", .str "a", .int ((9 : Int) + (far : Int))])) := Kq.alloc nt11
  have gt11 : OddT K (upd G10 t11 (.tup [.str "play", .str "a", .int ((9 : Int) + (far : Int))])) t11 := ⟨_, SqT.of upd_same, odd_play (by omega)⟩
  have al := ((al.kq kt11).cons gt11)
  have kk := kk.trans kt11
  have gS := kt11.get gS
  show _
  generalize hG11 : (upd G10 t11 (.tup [.str "play", .str "a", .int ((9 : Int) + (far : Int))])) = G11 at kt11 gt11 al kk gS ⊢
  clear gt11 kt11 hG11
  refine ⟨line16 (by show 3 ≤ 1000000; decide), fun t12 nt12 => ?_⟩
  have kt12 : Kq [] G11 (upd G11 t12 (.tup [.str "play", .str "i", .int 1])) := Kq.alloc nt12
  have gt12 : OddT K (upd G11 t12 (.tup [.str "play", .str "i", .int 1])) t12 := ⟨_, SqT.of upd_same, odd_const (by decide +kernel) (by decide) (by decide +kernel)⟩
  have al := ((al.kq kt12).cons gt12)
  have kk := kk.trans kt12
  have gS := kt12.get gS
  show _
  generalize hG12 : (upd G11 t12 (.tup [.str "play", .str "i", .int 1])) = G12 at kt12 gt12 al kk gS ⊢
  clear gt12 kt12 hG12
  refine ⟨line16 (by show 5 ≤ 1000000; decide), fun A1 nA1 => ?_⟩
  have kA1 : Kq [] G12 (upd G12 A1 (.lst [.ref t8, .ref t9, .ref t10, .ref t11, .ref t12])) := Kq.alloc nA1
  have gA1 : (upd G12 A1 (.lst [.ref t8, .ref t9, .ref t10, .ref t11, .ref t12])) A1 = some (.lst [.ref t8, .ref t9, .ref t10, .ref t11, .ref t12]) := upd_same
  have al := al.kq kA1
  have kk := kk.trans kA1
  have gS := kA1.get gS
  generalize (upd G12 A1 (.lst [.ref t8, .ref t9, .ref t10, .ref t11, .ref t12])) = GA1 at kA1 gA1 al kk gS ⊢
  refine ⟨A0, A1, _, _, rfl, rfl, gS, gA1, line16 (by show 12 ≤ 1000000; decide), fun B1 nB1 => ?_⟩
  have kB1 : Kq [] GA1 (upd GA1 B1 (.lst [.ref t1, .ref t2, .ref t3, .ref t4, .ref t5, .ref t6, .ref t7, .ref t8, .ref t9, .ref t10, .ref t11, .ref t12])) := Kq.alloc nB1
  have gS : (upd GA1 B1 (.lst [.ref t1, .ref t2, .ref t3, .ref t4, .ref t5, .ref t6, .ref t7, .ref t8, .ref t9, .ref t10, .ref t11, .ref t12])) B1 = some (.lst [.ref t1, .ref t2, .ref t3, .ref t4, .ref t5, .ref t6, .ref t7, .ref t8, .ref t9, .ref t10, .ref t11, .ref t12]) := upd_same
  have al := al.kq kB1
  have kk := kk.trans kB1
  show _
  generalize hB1 : (upd GA1 B1 (.lst [.ref t1, .ref t2, .ref t3, .ref t4, .ref t5, .ref t6, .ref t7, .ref t8, .ref t9, .ref t10, .ref t11, .ref t12])) = GB1 at kB1 gS al kk
  have hB1' : (upd GA1 B1 (.lst ([.ref t1, .ref t2, .ref t3, .ref t4, .ref t5, .ref t6, .ref t7] ++ [.ref t8, .ref t9, .ref t10, .ref t11, .ref t12]))) = GB1 := hB1
  rw [hB1']
  clear hB1 hB1' kA1 gA1 kB1
  refine ⟨_, rfl, ?_⟩
  refine ⟨_, rfl, _, _, rfl, rfl, line16 (by show 3 ≤ 1000000; decide), fun t13 nt13 => ?_⟩
  have kt13 : Kq [] GB1 (upd GB1 t13 (.tup [.str "play", .str "a", .int ((1 : Int) - (far : Int))])) := Kq.alloc nt13
  have gt13 : OddT K (upd GB1 t13 (.tup [.str "play", .str "a", .int ((1 : Int) - (far : Int))])) t13 := ⟨_, SqT.of upd_same, odd_play (by omega)⟩
  have al := ((al.kq kt13).cons gt13)
  have kk := kk.trans kt13
  have gS := kt13.get gS
  show _
  generalize hG13 : (upd GB1 t13 (.tup [.str "play", .str "a", .int ((1 : Int) - (far : Int))])) = G13 at kt13 gt13 al kk gS ⊢
  clear gt13 kt13 hG13
  refine ⟨line16 (by show 2 ≤ 1000000; decide), fun t14 nt14 => ?_⟩
  have kt14 : Kq [] G13 (upd G13 t14 (.tup [.str "play", .str "a"])) := Kq.alloc nt14
  have gt14 : OddT K (upd G13 t14 (.tup [.str "play", .str "a"])) t14 := ⟨_, SqT.of upd_same, odd_const (by decide +kernel) (by decide) (by decide +kernel)⟩
  have al := ((al.kq kt14).cons gt14)
  have kk := kk.trans kt14
  have gS := kt14.get gS
  show _
  generalize hG14 : (upd G13 t14 (.tup [.str "play", .str "a"])) = G14 at kt14 gt14 al kk gS ⊢
  clear gt14 kt14 hG14
  refine ⟨line16 (by show 3 ≤ 1000000; decide), fun t15 nt15 => ?_⟩
  have kt15 : Kq [] G14 (upd G14 t15 (.tup [.str "play", .str "", .int 1])) := Kq.alloc nt15
  have gt15 : OddT K (upd G14 t15 (.tup [.str "play", .str "", .int 1])) t15 := ⟨_, SqT.of upd_same, odd_const (by decide +kernel) (by decide) (by decide +kernel)⟩
  have al := ((al.kq kt15).cons gt15)
  have kk := kk.trans kt15
  have gS := kt15.get gS
  show _
  generalize hG15 : (upd G14 t15 (.tup [.str "play", .str "", .int 1])) = G15 at kt15 gt15 al kk gS ⊢
  clear gt15 kt15 hG15
  refine ⟨line16 (by show 3 ≤ 1000000; decide), fun t16 nt16 => ?_⟩
  have kt16 : Kq [] G15 (upd G15 t16 (.tup [.str "play", .str "ab", .int 1])) := Kq.alloc nt16
  have gt16 : OddT K (upd G15 t16 (.tup [.str "play", .str "ab", .int 1])) t16 := ⟨_, SqT.of upd_same, odd_const (by decide +kernel) (by decide) (by decide +kernel)⟩
  have al := ((al.kq kt16).cons gt16)
  have kk := kk.trans kt16
  have gS := kt16.get gS
  show _
  generalize hG16 : (upd G15 t16 (.tup [.str "play", .str "ab", .int 1])) = G16 at kt16 gt16 al kk gS ⊢
  clear gt16 kt16 hG16
  refine ⟨line16 (by show 3 ≤ 1000000; decide), fun t17 nt17 => ?_⟩
  have kt17 : Kq [] G16 (upd G16 t17 (.tup [.str "play", .str "a", .str "1"])) := Kq.alloc nt17
  have gt17 : OddT K (upd G16 t17 (.tup [.str "play", .str "a", .str "1"])) t17 := ⟨_, SqT.of upd_same, odd_const (by decide +kernel) (by decide) (by decide +kernel)⟩
  have al := ((al.kq kt17).cons gt17)
  have kk := kk.trans kt17
  have gS := kt17.get gS
  show _
  generalize hG17 : (upd G16 t17 (.tup [.str "play", .str "a", .str "1"])) = G17 at kt17 gt17 al kk gS ⊢
  clear gt17 kt17 hG17
  refine ⟨line16 (by show 5 ≤ 1000000; decide), fun A2 nA2 => ?_⟩
  have kA2 : Kq [] G17 (upd G17 A2 (.lst [.ref t13, .ref t14, .ref t15, .ref t16, .ref t17])) := Kq.alloc nA2
  have gA2 : (upd G17 A2 (.lst [.ref t13, .ref t14, .ref t15, .ref t16, .ref t17])) A2 = some (.lst [.ref t13, .ref t14, .ref t15, .ref t16, .ref t17]) := upd_same
  have al := al.kq kA2
  have kk := kk.trans kA2
  have gS := kA2.get gS
  generalize (upd G17 A2 (.lst [.ref t13, .ref t14, .ref t15, .ref t16, .ref t17])) = GA2 at kA2 gA2 al kk gS ⊢
  refine ⟨B1, A2, _, _, rfl, rfl, gS, gA2, line16 (by show 17 ≤ 1000000; decide), fun B2 nB2 => ?_⟩
  have kB2 : Kq [] GA2 (upd GA2 B2 (.lst [.ref t1, .ref t2, .ref t3, .ref t4, .ref t5, .ref t6, .ref t7, .ref t8, .ref t9, .ref t10, .ref t11, .ref t12, .ref t13, .ref t14, .ref t15, .ref t16, .ref t17])) := Kq.alloc nB2
  have gS : (upd GA2 B2 (.lst [.ref t1, .ref t2, .ref t3, .ref t4, .ref t5, .ref t6, .ref t7, .ref t8, .ref t9, .ref t10, .ref t11, .ref t12, .ref t13, .ref t14, .ref t15, .ref t16, .ref t17])) B2 = some (.lst [.ref t1, .ref t2, .ref t3, .ref t4, .ref t5, .ref t6, .ref t7, .ref t8, .ref t9, .ref t10, .ref t11, .ref t12, .ref t13, .ref t14, .ref t15, .ref t16, .ref t17]) := upd_same
  have al := al.kq kB2
  have kk := kk.trans kB2
  show _
  generalize hB2 : (upd GA2 B2 (.lst [.ref t1, .ref t2, .ref t3, .ref t4, .ref t5, .ref t6, .ref t7, .ref t8, .ref t9, .ref t10, .ref t11, .ref t12, .ref t13, .ref t14, .ref t15, .ref t16, .ref t17])) = GB2 at kB2 gS al kk
  have hB2' : (upd GA2 B2 (.lst ([.ref t1, .ref t2, .ref t3, .ref t4, .ref t5, .ref t6, .ref t7, .ref t8, .ref t9, .ref t10, .ref t11, .ref t12] ++ [.ref t13, .ref t14, .ref t15, .ref t16, .ref t17]))) = GB2 := hB2
  rw [hB2']
  clear hB2 hB2' kA2 gA2 kB2
  refine ⟨_, rfl, ?_⟩
  refine ⟨line16 (by show 2 ≤ 1000000; decide), fun t18 nt18 => ?_⟩
  have kt18 : Kq [] GB2 (upd GB2 t18 (.tup [.str "till", .str "i"])) := Kq.alloc nt18
  have gt18 : OddT K (upd GB2 t18 (.tup [.str "till", .str "i"])) t18 := ⟨_, SqT.of upd_same, odd_const (by decide +kernel) (by decide) (by decide +kernel)⟩
  have al := ((al.kq kt18).cons gt18)
  have kk := kk.trans kt18
  have gS := kt18.get gS
  show _
  generalize hG18 : (upd GB2 t18 (.tup [.str "till", .str "i"])) = G18 at kt18 gt18 al kk gS ⊢
  clear gt18 kt18 hG18
  refine ⟨line16 (by show 3 ≤ 1000000; decide), fun t19 nt19 => ?_⟩
  have kt19 : Kq [] G18 (upd G18 t19 (.tup [.str "till", .str "a", .int 1])) := Kq.alloc nt19
  have gt19 : OddT K (upd G18 t19 (.tup [.str "till", .str "a", .int 1])) t19 := ⟨_, SqT.of upd_same, odd_const (by decide +kernel) (by decide) (by decide +kernel)⟩
  have al := ((al.kq kt19).cons gt19)
  have kk := kk.trans kt19
  have gS := kt19.get gS
  show _
  generalize hG19 : (upd G18 t19 (.tup [.str "till", .str "a", .int 1])) = G19 at kt19 gt19 al kk gS ⊢
  clear gt19 kt19 hG19
  refine ⟨line16 (by show 1 ≤ 1000000; decide), fun t20 nt20 => ?_⟩
  have kt20 : Kq [] G19 (upd G19 t20 (.tup [.str "till"])) := Kq.alloc nt20
  have gt20 : OddT K (upd G19 t20 (.tup [.str "till"])) t20 := ⟨_, SqT.of upd_same, odd_one (by decide +kernel) (T.noAct (z := "till") (by decide +kernel)) (by decide +kernel) (by decide +kernel)⟩
  have al := ((al.kq kt20).cons gt20)
  have kk := kk.trans kt20
  have gS := kt20.get gS
  show _
  generalize hG20 : (upd G19 t20 (.tup [.str "till"])) = G20 at kt20 gt20 al kk gS ⊢
  clear gt20 kt20 hG20
  refine ⟨line16 (by show 2 ≤ 1000000; decide), fun t21 nt21 => ?_⟩
  have kt21 : Kq [] G20 (upd G20 t21 (.tup [.str "till", .str "A"])) := Kq.alloc nt21
  have gt21 : OddT K (upd G20 t21 (.tup [.str "till", .str "A"])) t21 := ⟨_, SqT.of upd_same, odd_const (by decide +kernel) (by decide) (by decide +kernel)⟩
  have al := ((al.kq kt21).cons gt21)
  have kk := kk.trans kt21
  have gS := kt21.get gS
  show _
  generalize hG21 : (upd G20 t21 (.tup [.str "till", .str "A"])) = G21 at kt21 gt21 al kk gS ⊢
  clear gt21 kt21 hG21
  refine ⟨line16 (by show 2 ≤ 1000000; decide), fun t22 nt22 => ?_⟩
  have kt22 : Kq [] G21 (upd G21 t22 (.tup [.str "rub", .int 1])) := Kq.alloc nt22
  have gt22 : OddT K (upd G21 t22 (.tup [.str "rub", .int 1])) t22 := ⟨_, SqT.of upd_same, odd_const (by decide +kernel) (by decide) (by decide +kernel)⟩
  have al := ((al.kq kt22).cons gt22)
  have kk := kk.trans kt22
  have gS := kt22.get gS
  show _
  generalize hG22 : (upd G21 t22 (.tup [.str "rub", .int 1])) = G22 at kt22 gt22 al kk gS ⊢
  clear gt22 kt22 hG22
  refine ⟨line16 (by show 1 ≤ 1000000; decide), fun t23 nt23 => ?_⟩
  have kt23 : Kq [] G22 (upd G22 t23 (.tup [.str "Rub"])) := Kq.alloc nt23
  have gt23 : OddT K (upd G22 t23 (.tup [.str "Rub"])) t23 := ⟨_, SqT.of upd_same, odd_one (by decide +kernel) (T.noAct (z := "Rub") (by decide +kernel)) (by decide +kernel) (by decide +kernel)⟩
  have al := ((al.kq kt23).cons gt23)
  have kk := kk.trans kt23
  have gS := kt23.get gS
  show _
  generalize hG23 : (upd G22 t23 (.tup [.str "Rub"])) = G23 at kt23 gt23 al kk gS ⊢
  clear gt23 kt23 hG23
  refine ⟨line16 (by show 2 ≤ 1000000; decide), fun t24 nt24 => ?_⟩
  have kt24 : Kq [] G23 (upd G23 t24 (.tup [.str "up", .str "a"])) := Kq.alloc nt24
  have gt24 : OddT K (upd G23 t24 (.tup [.str "up", .str "a"])) t24 := ⟨_, SqT.of upd_same, odd_const (by decide +kernel) (by decide) (by decide +kernel)⟩
  have al := ((al.kq kt24).cons gt24)
  have kk := kk.trans kt24
  have gS := kt24.get gS
  show _
  generalize hG24 : (upd G23 t24 (.tup [.str "up", .str "a"])) = G24 at kt24 gt24 al kk gS ⊢
  clear gt24 kt24 hG24
  refine ⟨line16 (by show 0 ≤ 1000000; decide), fun t25 nt25 => ?_⟩
  have kt25 : Kq [] G24 (upd G24 t25 (.tup [])) := Kq.alloc nt25
  have gt25 : OddT K (upd G24 t25 (.tup [])) t25 := ⟨_, SqT.of upd_same, odd_const (by decide +kernel) (by decide) (by decide +kernel)⟩
  have al := ((al.kq kt25).cons gt25)
  have kk := kk.trans kt25
  have gS := kt25.get gS
  show _
  generalize hG25 : (upd G24 t25 (.tup [])) = G25 at kt25 gt25 al kk gS ⊢
  clear gt25 kt25 hG25
  refine ⟨line16 (by show 8 ≤ 1000000; decide), fun A3 nA3 => ?_⟩
  have kA3 : Kq [] G25 (upd G25 A3 (.lst [.ref t18, .ref t19, .ref t20, .ref t21, .ref t22, .ref t23, .ref t24, .ref t25])) := Kq.alloc nA3
  have gA3 : (upd G25 A3 (.lst [.ref t18, .ref t19, .ref t20, .ref t21, .ref t22, .ref t23, .ref t24, .ref t25])) A3 = some (.lst [.ref t18, .ref t19, .ref t20, .ref t21, .ref t22, .ref t23, .ref t24, .ref t25]) := upd_same
  have al := al.kq kA3
  have kk := kk.trans kA3
  have gS := kA3.get gS
  generalize (upd G25 A3 (.lst [.ref t18, .ref t19, .ref t20, .ref t21, .ref t22, .ref t23, .ref t24, .ref t25])) = GA3 at kA3 gA3 al kk gS ⊢
  refine ⟨B2, A3, _, _, rfl, rfl, gS, gA3, line16 (by show 25 ≤ 1000000; decide), fun B3 nB3 => ?_⟩
  have kB3 : Kq [] GA3 (upd GA3 B3 (.lst [.ref t1, .ref t2, .ref t3, .ref t4, .ref t5, .ref t6, .ref t7, .ref t8, .ref t9, .ref t10, .ref t11, .ref t12, .ref t13, .ref t14, .ref t15, .ref t16, .ref t17, .ref t18, .ref t19, .ref t20, .ref t21, .ref t22, .ref t23, .ref t24, .ref t25])) := Kq.alloc nB3
  have gS : (upd GA3 B3 (.lst [.ref t1, .ref t2, .ref t3, .ref t4, .ref t5, .ref t6, .ref t7, .ref t8, .ref t9, .ref t10, .ref t11, .ref t12, .ref t13, .ref t14, .ref t15, .ref t16, .ref t17, .ref t18, .ref t19, .ref t20, .ref t21, .ref t22, .ref t23, .ref t24, .ref t25])) B3 = some (.lst [.ref t1, .ref t2, .ref t3, .ref t4, .ref t5, .ref t6, .ref t7, .ref t8, .ref t9, .ref t10, .ref t11, .ref t12, .ref t13, .ref t14, .ref t15, .ref t16, .ref t17, .ref t18, .ref t19, .ref t20, .ref t21, .ref t22, .ref t23, .ref t24, .ref t25]) := upd_same
  have al := al.kq kB3
  have kk := kk.trans kB3
  show _
  generalize hB3 : (upd GA3 B3 (.lst [.ref t1, .ref t2, .ref t3, .ref t4, .ref t5, .ref t6, .ref t7, .ref t8, .ref t9, .ref t10, .ref t11, .ref t12, .ref t13, .ref t14, .ref t15, .ref t16, .ref t17, .ref t18, .ref t19, .ref t20, .ref t21, .ref t22, .ref t23, .ref t24, .ref t25])) = GB3 at kB3 gS al kk
  have hB3' : (upd GA3 B3 (.lst ([.ref t1, .ref t2, .ref t3, .ref t4, .ref t5, .ref t6, .ref t7, .ref t8, .ref t9, .ref t10, .ref t11, .ref t12, .ref t13, .ref t14, .ref t15, .ref t16, .ref t17] ++ [.ref t18, .ref t19, .ref t20, .ref t21, .ref t22, .ref t23, .ref t24, .ref t25]))) = GB3 := hB3
  rw [hB3']
  clear hB3 hB3' kA3 gA3 kB3
  refine ⟨_, rfl, ?_⟩
  refine ⟨line16 (by show 1 ≤ 1000000; decide), fun t26 nt26 => ?_⟩
  have kt26 : Kq [] GB3 (upd GB3 t26 (.tup [.int 0])) := Kq.alloc nt26
  have gt26 : OddT K (upd GB3 t26 (.tup [.int 0])) t26 := ⟨_, SqT.of upd_same, odd_one (by decide +kernel) act_num (by decide +kernel) (by decide +kernel)⟩
  have al := ((al.kq kt26).cons gt26)
  have kk := kk.trans kt26
  have gS := kt26.get gS
  show _
  generalize hG26 : (upd GB3 t26 (.tup [.int 0])) = G26 at kt26 gt26 al kk gS ⊢
  clear gt26 kt26 hG26
  refine ⟨line16 (by show 2 ≤ 1000000; decide), fun t27 nt27 => ?_⟩
  have kt27 : Kq [] G26 (upd G26 t27 (.tup [.str "home", .int 0])) := Kq.alloc nt27
  have gt27 : OddT K (upd G26 t27 (.tup [.str "home", .int 0])) t27 := ⟨_, SqT.of upd_same, odd_const (by decide +kernel) (by decide) (by decide +kernel)⟩
  have al := ((al.kq kt27).cons gt27)
  have kk := kk.trans kt27
  have gS := kt27.get gS
  show _
  generalize hG27 : (upd G26 t27 (.tup [.str "home", .int 0])) = G27 at kt27 gt27 al kk gS ⊢
  clear gt27 kt27 hG27
  refine ⟨line16 (by show 2 ≤ 1000000; decide), fun t28 nt28 => ?_⟩
  have kt28 : Kq [] G27 (upd G27 t28 (.tup [.str "lay", .str ""])) := Kq.alloc nt28
  have gt28 : OddT K (upd G27 t28 (.tup [.str "lay", .str ""])) t28 := ⟨_, SqT.of upd_same, odd_const (by decide +kernel) (by decide) (by decide +kernel)⟩
  have al := ((al.kq kt28).cons gt28)
  have kk := kk.trans kt28
  have gS := kt28.get gS
  show _
  generalize hG28 : (upd G27 t28 (.tup [.str "lay", .str ""])) = G28 at kt28 gt28 al kk gS ⊢
  clear gt28 kt28 hG28
  refine ⟨line16 (by show 2 ≤ 1000000; decide), fun t29 nt29 => ?_⟩
  have kt29 : Kq [] G28 (upd G28 t29 (.tup [.str "rub", .str ""])) := Kq.alloc nt29
  have gt29 : OddT K (upd G28 t29 (.tup [.str "rub", .str ""])) t29 := ⟨_, SqT.of upd_same, odd_const (by decide +kernel) (by decide) (by decide +kernel)⟩
  have al := ((al.kq kt29).cons gt29)
  have kk := kk.trans kt29
  have gS := kt29.get gS
  show _
  generalize hG29 : (upd G28 t29 (.tup [.str "rub", .str ""])) = G29 at kt29 gt29 al kk gS ⊢
  clear gt29 kt29 hG29
  refine ⟨line16 (by show 2 ≤ 1000000; decide), fun t30 nt30 => ?_⟩
  have kt30 : Kq [] G29 (upd G29 t30 (.tup [.str "end", .int 0])) := Kq.alloc nt30
  have gt30 : OddT K (upd G29 t30 (.tup [.str "end", .int 0])) t30 := ⟨_, SqT.of upd_same, odd_const (by decide +kernel) (by decide) (by decide +kernel)⟩
  have al := ((al.kq kt30).cons gt30)
  have kk := kk.trans kt30
  have gS := kt30.get gS
  show _
  generalize hG30 : (upd G29 t30 (.tup [.str "end", .int 0])) = G30 at kt30 gt30 al kk gS ⊢
  clear gt30 kt30 hG30
  refine ⟨line16 (by show 2 ≤ 1000000; decide), fun t31 nt31 => ?_⟩
  have kt31 : Kq [] G30 (upd G30 t31 (.tup [.str "till", .str "ab"])) := Kq.alloc nt31
  have gt31 : OddT K (upd G30 t31 (.tup [.str "till", .str "ab"])) t31 := ⟨_, SqT.of upd_same, odd_const (by decide +kernel) (by decide) (by decide +kernel)⟩
  have al := ((al.kq kt31).cons gt31)
  have kk := kk.trans kt31
  have gS := kt31.get gS
  show _
  generalize hG31 : (upd G30 t31 (.tup [.str "till", .str "ab"])) = G31 at kt31 gt31 al kk gS ⊢
  clear gt31 kt31 hG31
  refine ⟨line16 (by show 2 ≤ 1000000; decide), fun t32 nt32 => ?_⟩
  have kt32 : Kq [] G31 (upd G31 t32 (.tup [.str "take", .str "a"])) := Kq.alloc nt32
  have gt32 : OddT K (upd G31 t32 (.tup [.str "take", .str "a"])) t32 := ⟨_, SqT.of upd_same, odd_const (by decide +kernel) (by decide) (by decide +kernel)⟩
  have al := ((al.kq kt32).cons gt32)
  have kk := kk.trans kt32
  have gS := kt32.get gS
  show _
  generalize hG32 : (upd G31 t32 (.tup [.str "take", .str "a"])) = G32 at kt32 gt32 al kk gS ⊢
  clear gt32 kt32 hG32
  refine ⟨line16 (by show 7 ≤ 1000000; decide), fun A4 nA4 => ?_⟩
  have kA4 : Kq [] G32 (upd G32 A4 (.lst [.ref t26, .ref t27, .ref t28, .ref t29, .ref t30, .ref t31, .ref t32])) := Kq.alloc nA4
  have gA4 : (upd G32 A4 (.lst [.ref t26, .ref t27, .ref t28, .ref t29, .ref t30, .ref t31, .ref t32])) A4 = some (.lst [.ref t26, .ref t27, .ref t28, .ref t29, .ref t30, .ref t31, .ref t32]) := upd_same
  have al := al.kq kA4
  have kk := kk.trans kA4
  have gS := kA4.get gS
  generalize (upd G32 A4 (.lst [.ref t26, .ref t27, .ref t28, .ref t29, .ref t30, .ref t31, .ref t32])) = GA4 at kA4 gA4 al kk gS ⊢
  refine ⟨B3, A4, _, _, rfl, rfl, gS, gA4, line16 (by show 32 ≤ 1000000; decide), fun B4 nB4 => ?_⟩
  have NB0 : H2 B4 = none := kk.fr _ nB4
  have kB4 : Kq [] GA4 (upd GA4 B4 (.lst [.ref t1, .ref t2, .ref t3, .ref t4, .ref t5, .ref t6, .ref t7, .ref t8, .ref t9, .ref t10, .ref t11, .ref t12, .ref t13, .ref t14, .ref t15, .ref t16, .ref t17, .ref t18, .ref t19, .ref t20, .ref t21, .ref t22, .ref t23, .ref t24, .ref t25, .ref t26, .ref t27, .ref t28, .ref t29, .ref t30, .ref t31, .ref t32])) := Kq.alloc nB4
  have gS : (upd GA4 B4 (.lst [.ref t1, .ref t2, .ref t3, .ref t4, .ref t5, .ref t6, .ref t7, .ref t8, .ref t9, .ref t10, .ref t11, .ref t12, .ref t13, .ref t14, .ref t15, .ref t16, .ref t17, .ref t18, .ref t19, .ref t20, .ref t21, .ref t22, .ref t23, .ref t24, .ref t25, .ref t26, .ref t27, .ref t28, .ref t29, .ref t30, .ref t31, .ref t32])) B4 = some (.lst [.ref t1, .ref t2, .ref t3, .ref t4, .ref t5, .ref t6, .ref t7, .ref t8, .ref t9, .ref t10, .ref t11, .ref t12, .ref t13, .ref t14, .ref t15, .ref t16, .ref t17, .ref t18, .ref t19, .ref t20, .ref t21, .ref t22, .ref t23, .ref t24, .ref t25, .ref t26, .ref t27, .ref t28, .ref t29, .ref t30, .ref t31, .ref t32]) := upd_same
  have al := al.kq kB4
  have kk := kk.trans kB4
  show _
  generalize hB4 : (upd GA4 B4 (.lst [.ref t1, .ref t2, .ref t3, .ref t4, .ref t5, .ref t6, .ref t7, .ref t8, .ref t9, .ref t10, .ref t11, .ref t12, .ref t13, .ref t14, .ref t15, .ref t16, .ref t17, .ref t18, .ref t19, .ref t20, .ref t21, .ref t22, .ref t23, .ref t24, .ref t25, .ref t26, .ref t27, .ref t28, .ref t29, .ref t30, .ref t31, .ref t32])) = GB4 at kB4 gS al kk
  have hB4' : (upd GA4 B4 (.lst ([.ref t1, .ref t2, .ref t3, .ref t4, .ref t5, .ref t6, .ref t7, .ref t8, .ref t9, .ref t10, .ref t11, .ref t12, .ref t13, .ref t14, .ref t15, .ref t16, .ref t17, .ref t18, .ref t19, .ref t20, .ref t21, .ref t22, .ref t23, .ref t24, .ref t25] ++ [.ref t26, .ref t27, .ref t28, .ref t29, .ref t30, .ref t31, .ref t32]))) = GB4 := hB4
  rw [hB4']
  have nB0 : H2 B4 = none := NB0
  clear hB4 hB4' kA4 gA4 kB4
  refine ⟨_, rfl, .inl ⟨rfl, _, SqL.of gS⟩, line16 (by show 2 ≤ 1000000; decide), fun t33 nt33 => ?_⟩
  have kt33 : Kq [] GB4 (upd GB4 t33 (.tup [.str "break", .str ""])) := Kq.alloc nt33
  have gt33 : OddT K (upd GB4 t33 (.tup [.str "break", .str ""])) t33 := ⟨_, SqT.of upd_same, odd_const (by decide +kernel) (by decide) (by decide +kernel)⟩
  have al := ((al.kq kt33).cons gt33)
  have kk := kk.trans kt33
  have gS := kt33.get gS
  generalize (upd GB4 t33 (.tup [.str "break", .str ""])) = G99 at kt33 gt33 al kk gS ⊢
  refine ⟨B4, _, _, rfl, rfl, gS, small1000 (by show 32 ≤ 1000; decide), ?_⟩
  have kw : Kq [] H2 (upd G99 B4 (.lst ([.ref t1, .ref t2, .ref t3, .ref t4, .ref t5, .ref t6, .ref t7, .ref t8, .ref t9, .ref t10, .ref t11, .ref t12, .ref t13, .ref t14, .ref t15, .ref t16, .ref t17, .ref t18, .ref t19, .ref t20, .ref t21, .ref t22, .ref t23, .ref t24, .ref t25, .ref t26, .ref t27, .ref t28, .ref t29, .ref t30, .ref t31, .ref t32] ++ [.ref t33]))) := kk.writeF nB0 gS
  have kf : Kf [B4] G99 (upd G99 B4 (.lst ([.ref t1, .ref t2, .ref t3, .ref t4, .ref t5, .ref t6, .ref t7, .ref t8, .ref t9, .ref t10, .ref t11, .ref t12, .ref t13, .ref t14, .ref t15, .ref t16, .ref t17, .ref t18, .ref t19, .ref t20, .ref t21, .ref t22, .ref t23, .ref t24, .ref t25, .ref t26, .ref t27, .ref t28, .ref t29, .ref t30, .ref t31, .ref t32] ++ [.ref t33]))) := Kf.one gS
  have gS2 : (upd G99 B4 (.lst ([.ref t1, .ref t2, .ref t3, .ref t4, .ref t5, .ref t6, .ref t7, .ref t8, .ref t9, .ref t10, .ref t11, .ref t12, .ref t13, .ref t14, .ref t15, .ref t16, .ref t17, .ref t18, .ref t19, .ref t20, .ref t21, .ref t22, .ref t23, .ref t24, .ref t25, .ref t26, .ref t27, .ref t28, .ref t29, .ref t30, .ref t31, .ref t32] ++ [.ref t33]))) B4 = some (.lst (([t1, t2, t3, t4, t5, t6, t7, t8, t9, t10, t11, t12, t13, t14, t15, t16, t17, t18, t19, t20, t21, t22, t23, t24, t25, t26, t27, t28, t29, t30, t31, t32, t33] : List Addr).map V.ref)) := upd_same
  have al2 : ∀ y ∈ ([t1, t2, t3, t4, t5, t6, t7, t8, t9, t10, t11, t12, t13, t14, t15, t16, t17, t18, t19, t20, t21, t22, t23, t24, t25, t26, t27, t28, t29, t30, t31, t32, t33] : List Addr), OddT K (upd G99 B4 (.lst ([.ref t1, .ref t2, .ref t3, .ref t4, .ref t5, .ref t6, .ref t7, .ref t8, .ref t9, .ref t10, .ref t11, .ref t12, .ref t13, .ref t14, .ref t15, .ref t16, .ref t17, .ref t18, .ref t19, .ref t20, .ref t21, .ref t22, .ref t23, .ref t24, .ref t25, .ref t26, .ref t27, .ref t28, .ref t29, .ref t30, .ref t31, .ref t32] ++ [.ref t33]))) y := fun y hy => (al.at_ (show y ∈ ([t1, t2, t3, t4, t5, t6, t7, t8, t9, t10, t11, t12, t13, t14, t15, t16, t17, t18, t19, t20, t21, t22, t23, t24, t25, t26, t27, t28, t29, t30, t31, t32, t33] : List Addr).reverse from List.mem_reverse.mpr hy)).kf kf
  generalize (upd G99 B4 (.lst ([.ref t1, .ref t2, .ref t3, .ref t4, .ref t5, .ref t6, .ref t7, .ref t8, .ref t9, .ref t10, .ref t11, .ref t12, .ref t13, .ref t14, .ref t15, .ref t16, .ref t17, .ref t18, .ref t19, .ref t20, .ref t21, .ref t22, .ref t23, .ref t24, .ref t25, .ref t26, .ref t27, .ref t28, .ref t29, .ref t30, .ref t31, .ref t32] ++ [.ref t33]))) = G100 at kw gS2 al2 ⊢
  have hDz := hD2.kq kw
  have nBd : B4 ∉ [h, l] := fun z => dr_some hD2 _ z nB0
  refine ⟨_, rfl, _, rfl, h, l, 33, rfl, hDz, by decide, by decide, fun q H9 hq k9 hD9 => ?_⟩
  have hlen : q < ([t1, t2, t3, t4, t5, t6, t7, t8, t9, t10, t11, t12, t13, t14, t15, t16, t17, t18, t19, t20, t21, t22, t23, t24, t25, t26, t27, t28, t29, t30, t31, t32, t33] : List Addr).length := hq
  refine ⟨B4, _, _, .ref (([t1, t2, t3, t4, t5, t6, t7, t8, t9, t10, t11, t12, t13, t14, t15, t16, t17, t18, t19, t20, t21, t22, t23, t24, t25, t26, t27, t28, t29, t30, t31, t32, t33] : List Addr)[q]), rfl, rfl, SqL.of (k9.q.gets gS2 nBd), at_of (j := q) rfl (by rw [List.getElem?_map, List.getElem?_eq_getElem hlen]; rfl), ?_⟩
  exact kQ _ _ ((k02.kq kw).trans k9) hD9 ((al2 _ (List.getElem_mem hlen)).kf k9)
end
end KT
set_option Elab.async false
set_option linter.all false
set_option maxRecDepth 100000
set_option maxHeartbeats 4000000
namespace KT
open PySem PySem.Spec PyProof.Rows L2 GxR
variable [GT]
def namesS : Str := Str.ofString "abcdefgh"
theorem namesS_at : ∀ n : Fin 8, namesS.cps.toList[n.1]? = some (97 + n.1) := by decide +kernel
theorem namesS_len : namesS.length = 8 ∧ namesS.cps.toList.length = 8 := by decide +kernel
section
variable {P : Program} {w : World} {K : PySem.W.Frag} {mg : Str → Option Value} {base : Heap}
def sp_key (K : PySem.W.Frag) : Sp := fun vs H Q _ => ∃ (h l : Addr), vs = [.ref h] ∧ DrAt H h l ∧ ∀ a ky H', ky.Ok → Kf [h, l] H H' → DrAt H' h l → KeyAt K H' a ky → Q (.ref a) H'
theorem sc__law_key : FnScope ["_law_h", "_law_turn"] ["_law_h"] (defScope s__law_key) := ⟨rfl, rfl, rfl, by decide +kernel, rfl, by decide +kernel, by decide +kernel⟩
theorem ok__law_key (T : Tx w K mg) : Fk P w K mg base 4 (Ad K d__law_key.at_) ["_law_h"] (sp_key K) := by
  have F__law_next := ok__law_next (P := P) (base := base) T
  have F__law_single := ok__law_single (P := P) (base := base) T
  refine mkF T.f__law_key sc__law_key rfl (fun _ _ _ _ _ _ us hl => match us, hl with | [_], _ => rfl) (fun vs H Q E h => by obtain ⟨_, _, rfl, _⟩ := h; rfl) (fun cdv A outer s H vs Q E hcd hcode hr h => ?_)
  refine ⟨_, (pss_cons (ps_asg (pe_cF F__law_next (hr.mono (by decide)) T.g__law_next px (pa_cons (pv 0) (pa_cons pe_int pa_nil))) (pg_name (i := 1) sc__law_key.nd rfl (.inl rfl)))
      (pss_cons (ps_if (pt_cmpR op_eq (pv 1) pe_int (nomark _)) (pss_one (ps_ret (pe_tup (pa_cons pe_str (pa_cons (pe_ix ix_str pe_str (pe_cF F__law_next (hr.mono (by decide)) T.g__law_next px (pa_cons (pv 0) (pa_cons (pe_ix ix_list (pe_lst (pa_cons pe_int (pa_cons pe_int (pa_cons pe_int pa_nil)))) (pe_cF F__law_next (hr.mono (by decide)) T.g__law_next px (pa_cons (pv 0) (pa_cons pe_int pa_nil))) (fun _ _ => rfl)) pa_nil))) (fun _ _ => rfl)) (pa_cons (pe_op op_add pe_int (pe_cF F__law_next (hr.mono (by decide)) T.g__law_next px (pa_cons (pv 0) (pa_cons (pe_ix ix_list (pe_lst (pa_cons pe_int (pa_cons pe_int pa_nil))) (pe_cF F__law_next (hr.mono (by decide)) T.g__law_next px (pa_cons (pv 0) (pa_cons pe_int pa_nil))) (fun _ _ => rfl)) pa_nil)))) pa_nil)))))) pss_nil)
      (pss_one (ps_ret (pe_ifExp (pt_cmpR op_eq (pv 1) pe_int (nomark _)) (pe_tup (pa_cons pe_str (pa_cons (pe_ix ix_str pe_str (pe_cF F__law_next (hr.mono (by decide)) T.g__law_next px (pa_cons (pv 0) (pa_cons (pe_ix ix_list (pe_lst (pa_cons pe_int (pa_cons pe_int (pa_cons pe_int pa_nil)))) (pe_cF F__law_next (hr.mono (by decide)) T.g__law_next px (pa_cons (pv 0) (pa_cons pe_int pa_nil))) (fun _ _ => rfl)) pa_nil))) (fun _ _ => rfl)) pa_nil))) (pe_cF F__law_single (hr.mono (by decide)) T.g__law_single px (pa_cons (pv 0) pa_nil))))))), ?_⟩
  obtain ⟨h, l, rfl, hD, kQ⟩ := h
  refine ⟨_, rfl, h, l, 8, rfl, hD, by decide, by decide, fun r H1 hr k1 hD1 => ?_⟩
  refine ⟨_, rfl, rfl, _, rfl, iteD (fun _ => ?_) (fun _ => ?_)⟩
  · refine ⟨_, rfl, ?_⟩
    refine ⟨line16 (by show 3 ≤ 1000000; decide), fun pa npa => ?_⟩
    have kpa : Kq [] H1 (upd H1 pa (.lst [.int 2, .int 3, .int 8])) := Kq.alloc npa
    refine ⟨_, rfl, h, l, 3, rfl, hD1.kq kpa, by decide, by decide, fun ra H2 hra k2 hDH2 => ?_⟩
    have hpa : H2 pa = some (.lst [.int 2, .int 3, .int 8]) := by
      obtain ⟨_, _, _, d1, d2, _⟩ := hD1
      exact k2.q.gets upd_same (by simp; exact ⟨(ne_of_none d1 npa).symm, (ne_of_none d2 npa).symm⟩)
    have hXXa : ∃ X : Nat, ([.int 2, .int 3, .int 8] : List V)[ra]? = some (.int X) ∧ 1 ≤ X ∧ X ≤ 8 := match ra, hra with
      | 0, _ => ⟨2, rfl, by decide, by decide⟩
      | 1, _ => ⟨3, rfl, by decide, by decide⟩
      | 2, _ => ⟨8, rfl, by decide, by decide⟩
    obtain ⟨Xa, eXa, Xa1, Xa8⟩ := hXXa
    refine ⟨pa, _, _, .int Xa, rfl, rfl, SqL.of hpa, at_of rfl eXa, h, l, Xa, rfl, hDH2, Xa1, by omega, fun n H3 hn k3 hD3 => ?_⟩
    have hn8 : n < 8 := by omega
    refine ⟨namesS, _, _, rfl, rfl, line16 (by rw [namesS_len.1]; decide), cps_at rfl (namesS_at ⟨n, hn8⟩), _, rfl, ?_⟩
    refine ⟨line16 (by show 2 ≤ 1000000; decide), fun pb npb => ?_⟩
    have kpb : Kq [] H3 (upd H3 pb (.lst [.int 2, .int 9])) := Kq.alloc npb
    refine ⟨_, rfl, h, l, 2, rfl, hD3.kq kpb, by decide, by decide, fun rb H4 hrb k4 hDH4 => ?_⟩
    have hpb : H4 pb = some (.lst [.int 2, .int 9]) := by
      obtain ⟨_, _, _, d1, d2, _⟩ := hD3
      exact k4.q.gets upd_same (by simp; exact ⟨(ne_of_none d1 npb).symm, (ne_of_none d2 npb).symm⟩)
    have hXXb : ∃ X : Nat, ([.int 2, .int 9] : List V)[rb]? = some (.int X) ∧ 1 ≤ X ∧ X ≤ 9 := match rb, hrb with
      | 0, _ => ⟨2, rfl, by decide, by decide⟩
      | 1, _ => ⟨9, rfl, by decide, by decide⟩
    obtain ⟨Xb, eXb, Xb1, Xb8⟩ := hXXb
    refine ⟨pb, _, _, .int Xb, rfl, rfl, SqL.of hpb, at_of rfl eXb, h, l, Xb, rfl, hDH4, Xb1, by omega, fun m H5 hm k5 hD5 => ?_⟩
    refine ⟨_, _, rfl, rfl, line16 (by show 3 ≤ 1000000; decide), fun q nq => ?_⟩
    have k6 : Kq [] H5 (upd H5 q (.tup [.str "play", .str ⟨#[97 + n]⟩, .int (1 + (m : Int))])) := Kq.alloc nq
    have e : (1 + (m : Int)) = ((m + 1 : Nat) : Int) := by omega
    have g : KeyAt K (upd H5 q (.tup [.str "play", .str ⟨#[97 + n]⟩, .int (1 + (m : Int))])) q (.play n (m + 1)) := by
      show SqT K _ q [.str "play", .str (nameS n), .int ((m + 1 : Nat) : Int)]
      rw [← e]
      exact SqT.of upd_same
    exact kQ q (.play n (m + 1)) _ ⟨hn8, by omega, by omega⟩ ((((k1.kq kpa).trans (k2.trans k3)).kq kpb).trans (k4.trans k5) |>.kq k6) (hD5.kq k6) g
  · refine ⟨_, rfl, rfl, _, rfl, iteD (fun _ => ?_) (fun _ => ?_)⟩
    · refine ⟨_, rfl, ?_⟩
      refine ⟨line16 (by show 3 ≤ 1000000; decide), fun pa npa => ?_⟩
      have kpa : Kq [] H1 (upd H1 pa (.lst [.int 2, .int 3, .int 8])) := Kq.alloc npa
      refine ⟨_, rfl, h, l, 3, rfl, hD1.kq kpa, by decide, by decide, fun ra H2 hra k2 hDH2 => ?_⟩
      have hpa : H2 pa = some (.lst [.int 2, .int 3, .int 8]) := by
        obtain ⟨_, _, _, d1, d2, _⟩ := hD1
        exact k2.q.gets upd_same (by simp; exact ⟨(ne_of_none d1 npa).symm, (ne_of_none d2 npa).symm⟩)
      have hXXa : ∃ X : Nat, ([.int 2, .int 3, .int 8] : List V)[ra]? = some (.int X) ∧ 1 ≤ X ∧ X ≤ 8 := match ra, hra with
        | 0, _ => ⟨2, rfl, by decide, by decide⟩
        | 1, _ => ⟨3, rfl, by decide, by decide⟩
        | 2, _ => ⟨8, rfl, by decide, by decide⟩
      obtain ⟨Xa, eXa, Xa1, Xa8⟩ := hXXa
      refine ⟨pa, _, _, .int Xa, rfl, rfl, SqL.of hpa, at_of rfl eXa, h, l, Xa, rfl, hDH2, Xa1, by omega, fun n H3 hn k3 hD3 => ?_⟩
      have hn8 : n < 8 := by omega
      refine ⟨namesS, _, _, rfl, rfl, line16 (by rw [namesS_len.1]; decide), cps_at rfl (namesS_at ⟨n, hn8⟩), line16 (by show 2 ≤ 1000000; decide), fun q nq => ?_⟩
      have k6 : Kq [] H3 (upd H3 q (.tup [.str "till", .str ⟨#[97 + n]⟩])) := Kq.alloc nq
      exact kQ q (.till n) _ hn8 (((k1.kq kpa).trans (k2.trans k3)).kq k6) (hD3.kq k6) (SqT.of upd_same)
    · exact ⟨_, rfl, h, l, rfl, hD1, fun a ky H2 kok _ k2 hD2 hk => kQ a ky H2 kok (k1.trans k2) hD2 hk⟩
end
end KT
set_option Elab.async false
set_option linter.all false
set_option maxRecDepth 100000
set_option maxHeartbeats 4000000
namespace KT
open PySem PySem.Spec PyProof.Rows L2 GxR
variable [GT]
theorem KeysAt.snoc1 {K : PySem.W.Frag} {H : Hp} {as : List Addr} {a : Addr} {ks : List Ky} {k : Ky} (h : KeysAt K H as ks) (g : KeyAt K H a k) : KeysAt K H (as ++ [a]) (ks ++ [k]) := by
  induction h with
  | nil => exact .cons g .nil
  | cons h _ ih => exact .cons h ih
section
variable {P : Program} {w : World} {K : PySem.W.Frag} {mg : Str → Option Value} {base : Heap}
def sp_tape (K : PySem.W.Frag) : Sp := fun vs H Q _ => ∃ (h l : Addr) (m : Nat), vs = [.ref h, .int m] ∧ DrAt H h l ∧ m ≤ 30 ∧ ∀ T ks H', ks.length ≤ m → (∀ k ∈ ks, k.Ok) → Kf [h, l] H H' → DrAt H' h l → TapeAt K H' T ks → Q (.ref T) H'
theorem sc__law_tape : FnScope ["_law_h", "_law_most", "_law_k", "_law_often"] ["_law_h", "_law_most"] (defScope s__law_tape) := ⟨rfl, rfl, rfl, by decide +kernel, rfl, by decide +kernel, by decide +kernel⟩
theorem ok__law_tape (T : Tx w K mg) : Fk P w K mg base 5 (Ad K d__law_tape.at_) ["_law_h", "_law_most"] (sp_tape K) := by
  have F__law_key := ok__law_key (P := P) (base := base) T
  have F__law_next := ok__law_next (P := P) (base := base) T
  have F__law_single := ok__law_single (P := P) (base := base) T
  refine mkF T.f__law_tape sc__law_tape rfl (fun _ _ _ _ _ _ us hl => match us, hl with | [_, _], _ => rfl) (fun vs H Q E h => by obtain ⟨_, _, _, rfl, _⟩ := h; rfl) (fun cdv A outer s H vs Q E hcd hcode hr h => ?_)
  refine ⟨_, (pss_cons (ps_asg (pe_cF F__law_next (hr.mono (by decide)) T.g__law_next px (pa_cons (pv 0) (pa_cons pe_int pa_nil))) (pg_name (i := 3) sc__law_tape.nd rfl (.inr rfl)))
      (pss_one (ps_ret (pe_callTy call_tuple_of (by rfl) T.n_tuple (by decide +kernel) (pa_cons (pe_lc (own := [("_law_k", 2)]) (by rfl) sc__law_tape.nd (pi_range1 (by rfl) T.n_range (pa_cons (pe_cF F__law_next (hr.mono (by decide)) T.g__law_next px (pa_cons (pv 0) (pa_cons (pe_op op_add (pv 1) pe_int) pa_nil))) pa_nil)) (blkOk_by (own := [("_law_k", 2)]) (N := ["_law_h", "_law_most", "_law_k", "_law_often"]) (sc := defScope s__law_tape) (by decide +kernel)) (fun _ _ _ _ _ => (pg_name (i := 2) sc__law_tape.nd rfl (.inl rfl))) (fun _ _ _ _ _ => pts_nil) (fun _ _ _ _ _ => (pe_ifExp (pt_cmpR op_lt (pe_cF F__law_next (hr.mono (by decide)) T.g__law_next passL (pa_cons (pv 0) (pa_cons pe_int pa_nil))) (pv 3) (nomark _)) (pe_cF F__law_key (hr.mono (by decide)) T.g__law_key passL (pa_cons (pv 0) pa_nil)) (pe_cF F__law_single (hr.mono (by decide)) T.g__law_single passL (pa_cons (pv 0) pa_nil))))) pa_nil))))), ?_⟩
  obtain ⟨h, l, m, rfl, hD, hm, kQ⟩ := h
  refine ⟨_, rfl, h, l, 3, rfl, hD, by decide, by decide, fun r0 H1 hr0 k1 hD1 => ?_⟩
  refine ⟨_, rfl, _, rfl, _, _, rfl, rfl, h, l, m + 1, rfl, hD1, by omega, by omega, fun r H2 hr k2 hD2 => ⟨_, rfl, by omega, by omega, fun D nD => ?_⟩⟩
  have nDh : D ≠ h ∧ D ≠ l := by
    obtain ⟨_, _, _, d1, d2, _⟩ := hD2
    exact ⟨(ne_of_none d1 nD).symm, (ne_of_none d2 nD).symm⟩
  obtain ⟨nDh, nDl⟩ := nDh
  have k02 := k1.trans k2
  refine lc_range (lo := 0) (n := (r : Int).toNat) (vs := [2]) (fun i H' => Kq [h, l] H2 H' ∧ DrAt H' h l ∧ ∃ as ks, as.length = i ∧ (∀ k ∈ ks, k.Ok) ∧ KeysAt K H' as ks ∧ H' D = some (.lst (as.map V.ref))) ⟨Kq.alloc nD, hD2.kq (Kq.alloc nD), [], [], rfl, by simp, .nil, upd_same⟩ ?_ ?_
  · rintro i H' hi ⟨kq, hDi, as, ks, hl, hok, hks, gD⟩
    refine ⟨rfl, ?_⟩
    unfold tYes
    dsimp only
    rw [if_pos rfl]
    have fin : ∀ a ky H3, ky.Ok → Kf [h, l] H' H3 → DrAt H3 h l → KeyAt K H3 a ky → ∃ acc, H3 D = some (.lst acc) ∧ acc.length < sizeLine ∧ (Kq [h, l] H2 (upd H3 D (.lst (acc ++ [.ref a]))) ∧ DrAt (upd H3 D (.lst (acc ++ [.ref a]))) h l ∧ ∃ as ks, as.length = i + 1 ∧ (∀ k ∈ ks, k.Ok) ∧ KeysAt K (upd H3 D (.lst (acc ++ [.ref a]))) as ks ∧ (upd H3 D (.lst (acc ++ [.ref a]))) D = some (.lst (as.map V.ref))) := by
      intro a ky H3 kok k3 hD3 hk
      have g : H3 D = some (.lst (as.map V.ref)) := k3.q.gets gD (by simp [nDh, nDl])
      have kw : Kf [D] H3 (upd H3 D (.lst (as.map V.ref ++ [.ref a]))) := Kf.one g
      refine ⟨_, g, ?_, (kq.trans k3.q).writeF nD g, hD3.upd nDh nDl, as ++ [a], ks ++ [ky], by simp [hl], fun k hk' => ?_, (kw.keys (k3.keys hks)).snoc1 (kw.key hk), ?_⟩
      · rw [List.length_map]; exact small1000 (by omega)
      · rcases List.mem_append.mp hk' with z | z
        · exact hok k z
        · rw [List.mem_singleton.mp z]; exact kok
      · rw [upd_same, List.map_append]; rfl
    refine ⟨_, rfl, h, l, 3, rfl, hDi, by decide, by decide, fun rr H3 hrr k3 hD3 => ⟨_, rfl, _, _, rfl, rfl, _, rfl, iteD (fun _ => ?_) (fun _ => ?_)⟩⟩
    · exact ⟨_, rfl, h, l, rfl, hD3, fun a ky H4 kok k4 hD4 hk => fin a ky H4 kok (k3.trans k4) hD4 hk⟩
    · exact ⟨_, rfl, h, l, rfl, hD3, fun a ky H4 kok _ k4 hD4 hk => fin a ky H4 kok (k3.trans k4) hD4 hk⟩
  · rintro H' ⟨kq, hDi, as, ks, hl, hok, hks, gD⟩
    refine ⟨D, _, rfl, .inl ⟨SqL.of gD, fun T nT => ?_⟩⟩
    have kT : Kq [] H' (upd H' T (.tup (as.map V.ref))) := Kq.alloc nT
    have kl := hks.len
    have kf2 : Kf [h, l] H2 H' := ⟨kq, hD2.wr, hDi.wr⟩
    exact kQ T ks _ (by omega) hok ((k02.trans kf2).kq kT) (hDi.kq kT) ⟨as, SqT.of upd_same, kT.keys hks⟩
end
end KT
set_option Elab.async false
set_option linter.all false
set_option maxRecDepth 100000
set_option maxHeartbeats 4000000
namespace KT
open PySem PySem.Spec PyProof.Rows L2 GxR
/-! ### d.update(e), both dicts of texts and numbers -/
def rDUpd : V → List V → Hp → VK → Prop := fun x xs H Q => ∃ (a b : Addr) (kvs more : List (Key × V)), x = .ref a ∧ xs = [.ref b] ∧ H a = some (.dK kvs) ∧ H b = some (.dK more) ∧ a ≠ b ∧ kvs.length + more.length ≤ sizeLine ∧ Q .non (upd H a (.dK (mergeK kvs more)))
theorem mt_dupdate {X : Cx} : MtR X "dict.update" rDUpd := by
  intro pins s σ H x xs v us Q I rx rxs h
  obtain ⟨a, b, kvs, more, rfl, rfl, ea, eb, ne, hl, q⟩ := h
  cases rx
  obtain ⟨u, rfl, ru⟩ := rxs.one
  cases ru
  obtain ⟨za, la, vs, ra, da⟩ := dk_of I.hok ea
  obtain ⟨zb, lb, ws, rb, db⟩ := dk_of I.hok eb
  refine call_meetsIn PySem.F.slot_dict_update da.typeIs PySem.F.entry_dict_update (PySem.F.args_dict_update_2 _ _) (meets_dict_update (mixKind X.prog X.w) a b ne lb) ⟨vs, ws, da, db, by rw [← ra.length, ← rb.length]; exact hl, fun h' da' _ hs => ?_⟩
  have there : ∃ q, h'.get? a = some q := let ⟨q, _, _, hq, _⟩ := da'; ⟨q, hq⟩
  have hm := length_mergeK more kvs
  exact ⟨.non, _, L2.d_write (t' := s.toks) I (by rw [ea]; exact True.intro) hs there (dk_new (by omega) la (KV.merge rb ra) da'), rfl, q⟩
end KT
set_option Elab.async false
set_option linter.all false
set_option maxRecDepth 100000
set_option maxHeartbeats 4000000
namespace KT
open PySem PySem.Spec PyProof.Rows L2 GxR
/-! ### a token is out behind a written text -/
def PEU (X : Cx) (e : Expr) (t : TE) : Prop :=
  ∀ (pins : List (Addr × Obj)) (s : Shared) (σ : L2.St) (H : Hp) (Q : VK), Inv X pins σ H s → t σ H Q → wpAny (model X.prog X.w) X.A (eval e X.env) (fun v s1 => 1 ≤ s1.toks ∧ EP X pins σ Q v s1) X.xe s
def PAU (X : Cx) (es : List Expr) (t : TA) : Prop :=
  ∀ (pos : Pos) (pins : List (Addr × Obj)) (s : Shared) (σ : L2.St) (H : Hp) (Q : List V → Hp → Prop), Inv X pins σ H s → t σ H Q → wpAny (model X.prog X.w) X.A (spliced (backTo pos (starEach es X.env))) (fun us s1 => 1 ≤ s1.toks ∧ AP X pins σ Q us s1) X.xe s
section
variable {X : Cx} {e : Expr} {es : List Expr} {te : TE} {ta : TA}
theorem peu_str {x j pos} : PEU X (.Constant (.str x) j pos) (tC (.str x)) := fun _ s _ H _ I h => Calls.Constant_str ⟨by show 1 ≤ s.toks + 1; omega, .str x, H, I.tok _, ⟨_, rfl⟩, h⟩
theorem pau_cons (ha : PEU X e te) (hr : PA X es ta) (hs : starEach (e :: es) X.env = (false, eval e X.env) :: starEach es X.env := by rfl) : PAU X (e :: es) (tCons te ta) := by
  intro pos pins s σ H Q I h
  rw [hs]
  show wpAny _ _ (spliced ((false, eval e X.env) :: backTo pos (starEach es X.env))) _ _ s
  refine Calls.spliced_cons (wpAny_mono (ha pins s σ H _ I h) (fun v s1 q => ?_) fun _ _ z => z)
  obtain ⟨hk, x, H1, I1, r1, q1⟩ := q
  refine wpAny_mono (PySem.wpAny_toks_of hk (hr.run pos pins s1 σ H1 _ I1 q1)) (fun us s2 q2 => ?_) fun _ _ z => z.2
  obtain ⟨hk2, xs, H2, I2, r2, q2⟩ := q2
  exact ⟨hk2, x :: xs, H2, I2, .cons r1 r2, q2⟩
theorem peu_tup {x1} {pos : Pos} (h : PAU X es ta) : PEU X (.Tuple es x1 pos) (tTup ta) := by
  intro pins s σ H Q I hq
  refine wpAny_Tuple_spliced (wpAny_mono (h pos pins s σ H _ I hq) (fun us s1 q => ?_) fun _ _ z => z)
  obtain ⟨hk, xs, H1, I1, r, z, q⟩ := q
  refine ⟨by rw [← r.length]; exact z, hk, ?_⟩
  have hf : H1 s1.heap.objs.size = none := I1.hok.fresh (Nat.le_refl _)
  refine ⟨.ref s1.heap.objs.size, upd H1 s1.heap.objs.size (.tup xs), I1.laid (t' := s1.toks) (fun b u e => Heap.get?_push_of_some _ e) (Nat.le_refl _) ?_, rfl, q _ hf⟩
  exact ⟨z, us, r, ⟨_, Heap.get?_push_size _ rfl, rfl, _, rfl⟩⟩
/-- behind what gives a token out -/
theorem pa_consU (ha : PEU X e te) (hr : PAT X es ta) (hs : starEach (e :: es) X.env = (false, eval e X.env) :: starEach es X.env := by rfl) : PA X (e :: es) (tCons te ta) := by
  refine ⟨fun pos pins s σ H Q I h => ?_⟩
  rw [hs]
  show wpAny _ _ (spliced ((false, eval e X.env) :: backTo pos (starEach es X.env))) _ _ s
  refine Calls.spliced_cons (wpAny_mono (ha pins s σ H _ I h) (fun v s1 q => ?_) fun _ _ z => z)
  obtain ⟨hk, x, H1, I1, r1, q1⟩ := q
  exact thn (hr pos pins s1 σ H1 _ hk I1 q1) fun us s2 ⟨xs, H2, I2, r2, q2⟩ => ⟨x :: xs, H2, I2, .cons r1 r2, q2⟩
end
/-- join within a block -/
theorem pe_joinB {X : Cx} {K : PySem.W.Frag} {o e : Expr} {to te : TE} {apos pos : Pos} (ek : X.K = K) (ho : PE X o to) (he : PE X e te) (hs : starEach [e] X.env = [(false, eval e X.env)] := by rfl) (hbase : attributeBase o "join" X.env (eval o X.env) = eval o X.env := by rfl) (hline : (apos.endLine == pos.line) = true := by rfl) :
    PE X (.Call (.Attribute o "join" apos) [e] [] pos) (tM1 (fun x xs H Q => ∃ a p, ∃ ys : List Str, x = .str a ∧ xs = [.ref p] ∧ (SqL K H p (ys.map V.str) ∨ SqT K H p (ys.map V.str)) ∧
      (ys.map (·.length)).sum + ys.length * a.length ≤ 16777216 ∧ Q (.str (Txt.join a ys)) H) to te) := by
  subst ek
  exact pe_join ho he hs hbase hline
/-- a walk over a written text -/
theorem for_strS {z : Str} {g : TG} {tb : TS} {D : Ends} {σ : L2.St} {H : Hp} (Pv : Nat → L2.St → Hp → Prop) (h0 : Pv 0 σ H)
    (hs : ∀ i c σ H, z.cps[i]? = some c → Pv i σ H → g (.str ⟨#[c]⟩) σ H fun σ2 H2 => tb { D with nx := Pv (i + 1), ct := Pv (i + 1), bk := D.nx } σ2 H2) (hd : ∀ σ H, Pv z.cps.size σ H → D.nx σ H) :
    ∃ W : Nat → Nat → L2.St → Hp → Prop, (∃ m, W 0 m σ H) ∧ ∀ i m σ H, W i m σ H →
      ((Its z).stop i H ∧ D.nx σ H) ∨ ((Its z).go i H ∧ ∃ N : L2.St → Hp → Prop, (∀ σ' H', N σ' H' → ∃ m', m' < m ∧ W (i + 1) m' σ' H') ∧ ∀ x H', (Its z).yld i H x H' → g x σ H' fun σ2 H2 => tb { D with nx := N, ct := N, bk := D.nx } σ2 H2) := by
  refine ⟨fun i m σ H => m = z.cps.size - i ∧ i ≤ z.cps.size ∧ Pv i σ H, ⟨_, rfl, Nat.zero_le _, h0⟩, ?_⟩
  rintro i m σ H ⟨rfl, hi, p⟩
  by_cases hlt : i < z.cps.size
  · refine .inr ⟨hlt, Pv (i + 1), fun σ' H' p' => ⟨z.cps.size - (i + 1), by omega, rfl, hlt, p'⟩, ?_⟩
    rintro x H' ⟨rfl, c, hc, rfl⟩
    exact hs i c σ _ hc p
  · have e : i = z.cps.size := by omega
    subst e
    exact .inl ⟨Nat.le_refl _, hd σ H p⟩
end KT
set_option Elab.async false
set_option linter.all false
set_option maxRecDepth 100000
set_option maxHeartbeats 4000000
namespace KT
open PySem PySem.Spec PyProof.Rows L2 GxR
variable [GT]
/-! ### a dict of tapes -/
abbrev Dc := List (Nat × List Ky)
def putD (d : Dc) (n : Nat) (ks : List Ky) : Dc := if (d.any fun p => decide (p.1 = n)) = true then d.map (fun p => if p.1 = n then (p.1, ks) else p) else d ++ [(n, ks)]
def mergeD (d more : Dc) : Dc := more.foldl (fun acc p => putD acc p.1 p.2) d
def lookD (d : Dc) (n : Nat) : Option (List Ky) := (d.find? fun p => decide (p.1 = n)).map (·.2)
structure DOk (d : Dc) : Prop where
  ok : ∀ p ∈ d, p.1 < 8 ∧ p.2.length ≤ 30 ∧ ∀ k ∈ p.2, k.Ok
theorem putD_mem {d : Dc} {n : Nat} {ks : List Ky} {p : Nat × List Ky} (h : p ∈ putD d n ks) : p ∈ d ∨ p = (n, ks) := by
  unfold putD at h
  split at h
  · obtain ⟨q, hq, e⟩ := List.mem_map.mp h
    split at e
    · rename_i z; exact .inr (by rw [← e, z])
    · exact .inl (e ▸ hq)
  · rcases List.mem_append.mp h with z | z
    · exact .inl z
    · exact .inr (List.mem_singleton.mp z)
theorem DOk.put {d : Dc} {n : Nat} {ks : List Ky} (h : DOk d) (hn : n < 8) (hl : ks.length ≤ 30) (hk : ∀ k ∈ ks, k.Ok) : DOk (putD d n ks) := ⟨fun p hp => by
  rcases putD_mem hp with z | z
  · exact h.ok p z
  · rw [z]; exact ⟨hn, hl, hk⟩⟩
theorem DOk.merge : ∀ {more d : Dc}, DOk d → DOk more → DOk (mergeD d more)
  | [], d, h, _ => h
  | p :: r, d, h, h2 => by
    have hp := h2.ok p (by simp)
    show DOk (mergeD (putD d p.1 p.2) r)
    exact DOk.merge (h.put hp.1 hp.2.1 hp.2.2) ⟨fun q hq => h2.ok q (by simp [hq])⟩
theorem lookD_put (d : Dc) (n m : Nat) (ks : List Ky) : lookD (putD d n ks) m = if m = n then some ks else lookD d m := by
  unfold lookD putD
  split
  · rename_i h
    by_cases e : m = n
    · subst e
      rw [if_pos rfl]
      induction d with
      | nil => simp at h
      | cons p r ih =>
        by_cases z : p.1 = m
        · simp [z]
        · simp only [List.any_cons, decide_eq_true_eq, Bool.or_eq_true] at h
          have h2 : (r.any fun p => decide (p.1 = m)) = true := h.resolve_left z
          have := ih h2
          simp only [List.map_cons, if_neg z, List.find?_cons, decide_eq_false z]
          exact this
    · rw [if_neg e]
      clear h
      induction d with
      | nil => rfl
      | cons p r ih =>
        by_cases z : p.1 = n
        · have zm : ¬ n = m := fun y => e y.symm
          have zm2 : ¬ p.1 = m := fun y => e (y.symm.trans z)
          simp only [List.map_cons, if_pos z, List.find?_cons, decide_eq_false zm2]
          exact ih
        · simp only [List.map_cons, if_neg z, List.find?_cons]
          by_cases y : p.1 = m
          · simp [y]
          · simp only [decide_eq_false y]; exact ih
  · rename_i h
    rw [List.find?_append]
    by_cases e : m = n
    · subst e
      rw [if_pos rfl]
      have : d.find? (fun p => decide (p.1 = m)) = none := by
        rw [List.find?_eq_none]
        intro p hp z
        exact h (List.any_eq_true.mpr ⟨p, hp, z⟩)
      rw [this]; simp
    · rw [if_neg e]
      have : ([(n, ks)] : Dc).find? (fun p => decide (p.1 = m)) = none := by
        simp only [List.find?_cons, decide_eq_false (fun z : n = m => e z.symm), List.find?_nil]
      rw [this, Option.or_none]
theorem lookD_merge : ∀ (more d : Dc) (m : Nat), (more.map (·.1)).Nodup → lookD (mergeD d more) m = (match lookD more m with | some ks => some ks | none => lookD d m)
  | [], d, m, _ => rfl
  | p :: r, d, m, hn => by
    rw [List.map_cons, List.nodup_cons] at hn
    show lookD (mergeD (putD d p.1 p.2) r) m = _
    rw [lookD_merge r _ m hn.2, lookD_put]
    by_cases e : m = p.1
    · have e2 : lookD r m = none := by
        unfold lookD
        rw [Option.map_eq_none_iff, List.find?_eq_none]
        intro q hq z
        exact hn.1 (by rw [← e, ← (of_decide_eq_true z)]; exact List.mem_map_of_mem hq)
      have e3 : lookD (p :: r) m = some p.2 := by unfold lookD; simp [e]
      rw [e2, e3, if_pos e]
    · have e3 : lookD (p :: r) m = lookD r m := by
        unfold lookD
        simp only [List.find?_cons, decide_eq_false (fun z : p.1 = m => e z.symm)]
      rw [e3, if_neg e]
def ent (n : Nat) (a : Addr) : Key × V := (.inr (nameS n), .ref a)
inductive DAt (K : PySem.W.Frag) (H : Hp) : List (Key × V) → Dc → Prop where
  | nil : DAt K H [] []
  | cons {n : Nat} {a : Addr} {ks : List Ky} {kvs : List (Key × V)} {d : Dc} (h : TapeAt K H a ks) (r : DAt K H kvs d) : DAt K H (ent n a :: kvs) ((n, ks) :: d)
section
variable {K : PySem.W.Frag} {H H1 : Hp} {kvs more : List (Key × V)} {d e : Dc}
theorem DAt.imp (f : ∀ a ks, TapeAt K H a ks → TapeAt K H1 a ks) (h : DAt K H kvs d) : DAt K H1 kvs d := by
  induction h with
  | nil => exact .nil
  | cons h _ ih => exact .cons (f _ _ h) ih
theorem DAt.kf {S : List Addr} (k : Kf S H H1) (h : DAt K H kvs d) : DAt K H1 kvs d := h.imp fun _ _ z => k.tape z
theorem DAt.kq (k : Kq [] H H1) (h : DAt K H kvs d) : DAt K H1 kvs d := h.imp fun _ _ z => k.tape z
theorem DAt.len (h : DAt K H kvs d) : kvs.length = d.length := by
  induction h with
  | nil => rfl
  | cons _ _ ih => simp [ih]
theorem DAt.keys (h : DAt K H kvs d) : kvs.map (·.1) = (d.map fun p => nameS p.1).map Sum.inr := by
  induction h with
  | nil => rfl
  | cons _ _ ih => simp only [List.map_cons, ih]; rfl
theorem key_name {n m : Nat} : ((.inr (nameS n) : Key) = .inr (nameS m)) ↔ n = m := ⟨fun h => name_inj (Sum.inr.inj h), fun h => by rw [h]⟩
theorem DAt.val (h : DAt K H kvs d) (m : Nat) : (valV kvs (.inr (nameS m)) = none ∧ lookD d m = none) ∨ ∃ a ks, valV kvs (.inr (nameS m)) = some (.ref a) ∧ lookD d m = some ks ∧ TapeAt K H a ks := by
  induction h with
  | nil => exact .inl ⟨rfl, rfl⟩
  | @cons n a ks kvs d h _ ih =>
    by_cases e : n = m
    · subst e
      exact .inr ⟨a, ks, valV_pos rfl, by unfold lookD; simp, h⟩
    · have e1 : valV (ent n a :: kvs) (.inr (nameS m)) = valV kvs (.inr (nameS m)) := valV_neg (fun z => e (key_name.mp z))
      have e2 : lookD ((n, ks) :: d) m = lookD d m := by unfold lookD; simp only [List.find?_cons, decide_eq_false e]
      rw [e1, e2]
      exact ih
theorem DAt.any (h : DAt K H kvs d) (n : Nat) : (kvs.any fun kv => decide (kv.1 = (.inr (nameS n) : Key))) = d.any fun p => decide (p.1 = n) := by
  induction h with
  | nil => rfl
  | @cons m a ks kvs d h _ ih =>
    rw [List.any_cons, List.any_cons, ih]
    congr 1
    rw [Bool.eq_iff_iff, decide_eq_true_eq, decide_eq_true_eq]
    exact key_name
theorem DAt.put (h : DAt K H kvs d) {n : Nat} {a : Addr} {ks : List Ky} (ht : TapeAt K H a ks) : DAt K H (putK kvs (.inr (nameS n)) (.ref a)) (putD d n ks) := by
  unfold putK putD
  rw [h.any n]
  split
  · rename_i hh
    clear hh
    induction h with
    | nil => exact .nil
    | @cons m b ls kvs d h _ ih =>
      by_cases e : m = n
      · subst e
        simp only [List.map_cons, ent, if_pos]
        exact .cons ht ih
      · have e2 : ¬ ((.inr (nameS m) : Key) = .inr (nameS n)) := fun z => e (key_name.mp z)
        simp only [List.map_cons, ent, if_neg e, if_neg e2]
        exact .cons h ih
  · rename_i hh
    clear hh
    induction h with
    | nil => exact .cons ht .nil
    | cons h _ ih => exact .cons h ih
theorem DAt.merge (hm : DAt K H more e) : ∀ {kvs : List (Key × V)} {d : Dc}, DAt K H kvs d → DAt K H (mergeK kvs more) (mergeD d e) := by
  induction hm with
  | nil => intro kvs d h; exact h
  | @cons n a ks more e ht _ ih => intro kvs d h; exact ih (h.put ht)
end
end KT
set_option Elab.async false
set_option linter.all false
set_option maxRecDepth 100000
set_option maxHeartbeats 4000000
namespace KT
open PySem PySem.Spec PyProof.Rows L2 GxR
variable [GT]
theorem putD_new {d : Dc} {n : Nat} {ks : List Ky} (h : ∀ p ∈ d, p.1 < n) : putD d n ks = d ++ [(n, ks)] := by
  unfold putD
  rw [if_neg]
  intro z
  obtain ⟨p, hp, e⟩ := List.any_eq_true.mp z
  have := h p hp
  have := of_decide_eq_true e
  omega
theorem namesS_cp {i c : Nat} (h : (Str.ofString "abcdefgh").cps[i]? = some c) : i < 8 ∧ c = 97 + i := by
  have e : (Str.ofString "abcdefgh").cps = #[97, 98, 99, 100, 101, 102, 103, 104] := by decide +kernel
  rw [e] at h
  match i, h with
  | 0, h => cases h; exact ⟨by decide, rfl⟩
  | 1, h => cases h; exact ⟨by decide, rfl⟩
  | 2, h => cases h; exact ⟨by decide, rfl⟩
  | 3, h => cases h; exact ⟨by decide, rfl⟩
  | 4, h => cases h; exact ⟨by decide, rfl⟩
  | 5, h => cases h; exact ⟨by decide, rfl⟩
  | 6, h => cases h; exact ⟨by decide, rfl⟩
  | 7, h => cases h; exact ⟨by decide, rfl⟩
theorem namesS_size : (Str.ofString "abcdefgh").cps.size = 8 := by decide +kernel
section
variable {P : Program} {w : World} {K : PySem.W.Frag} {mg : Str → Option Value} {base : Heap}
def sp_tapes (K : PySem.W.Frag) : Sp := fun vs H Q _ => ∃ (h l : Addr), vs = [.ref h] ∧ DrAt H h l ∧ ∀ t kvs d H', H t = none → DOk d → d.length ≤ 8 → (d.map (·.1)).Nodup → Kf [h, l] H H' → DrAt H' h l → H' t = some (.dK kvs) → DAt K H' kvs d → Q (.ref t) H'
end
end KT
set_option Elab.async false
set_option linter.all false
set_option maxRecDepth 100000
set_option maxHeartbeats 4000000
namespace KT
open PySem PySem.Spec PyProof.Rows L2 GxR
variable [GT]
theorem al_small {K : PySem.W.Frag} {H : Hp} {n : Nat} : ∀ {x : V}, smallV x → Al K H n x x
  | .str z, _ => .str n z
  | .int i, _ => .int n i
  | .non, h => h.elim
  | .ref _, h => h.elim
  | .bl _, h => h.elim
theorem al_key {K : PySem.W.Frag} {H : Hp} {n : Nat} {a b : Addr} {k : Ky} (h : KeyAt K H a k) (h' : KeyAt K H b k) (ok : k.Ok) : Al K H (n + 1) (.ref a) (.ref b) :=
  .tup h h' rfl (by cases k <;> show _ ≤ 1000 <;> simp [keyV]) fun i x y hx hy => by
    rw [hx] at hy
    cases hy
    exact al_small (keyV_small ok x (List.mem_of_getElem? hx))
theorem al_keys {K : PySem.W.Frag} {H : Hp} {n : Nat} {a b : Addr} {as bs : List Addr} {ks : List Ky} (h1 : H a = some (.lst (as.map V.ref))) (h2 : H b = some (.lst (bs.map V.ref))) (k1 : KeysAt K H as ks) (k2 : KeysAt K H bs ks) (hl : ks.length ≤ 1000) (ok : ∀ k ∈ ks, k.Ok) : Al K H (n + 2) (.ref a) (.ref b) :=
  .lst h1 h2 (by rw [List.length_map, List.length_map, k1.len, k2.len]) (by rw [List.length_map, k1.len]; exact hl) fun i x y hx hy => by
    rw [List.getElem?_map] at hx hy
    obtain ⟨p, hp, rfl⟩ := Option.map_eq_some_iff.mp hx
    obtain ⟨q, hq, rfl⟩ := Option.map_eq_some_iff.mp hy
    obtain ⟨i1, rfl⟩ := List.getElem?_eq_some_iff.mp hp
    obtain ⟨i2, rfl⟩ := List.getElem?_eq_some_iff.mp hq
    have hi : i < ks.length := by rw [← k1.len]; exact i1
    exact al_key (k1.at_ i1 hi) (k2.at_ i2 hi) (ok _ (List.getElem_mem _))
theorem al_place {K : PySem.W.Frag} {H : Hp} {n : Nat} {a b : Addr} {r c : Int} (h1 : H a = some (.tup [.int r, .int c])) (h2 : H b = some (.tup [.int r, .int c])) : Al K H (n + 1) (.ref a) (.ref b) :=
  .tup (SqT.of h1) (SqT.of h2) rfl (by show 2 ≤ 1000; decide) fun i x y hx hy => by
    rw [hx] at hy
    cases hy
    rcases i with _ | _ | i
    · cases hx; exact .int n _
    · cases hx; exact .int n _
    · cases hx
theorem good_of_ok {g : Pg} (h : g.Ok) : g.rows ≠ [] ∧ goodB g.rows = true := by
  refine ⟨fun e => by have := h.row; rw [e] at this; simp at this, ?_⟩
  unfold goodB
  rw [Bool.and_eq_true]
  refine ⟨decide_eq_true h.many, List.all_eq_true.mpr fun l hl => ?_⟩
  unfold goodRow
  rw [Bool.and_eq_true]
  refine ⟨decide_eq_true (h.long l hl), List.all_eq_true.mpr fun c hc => ?_⟩
  rw [signB_eq]
  exact decide_eq_true (h.sig l hl c hc)
theorem ins_map {α β : Type} (f : α → β) (xs : List α) (i : Nat) (y : α) : (xs.map f).take i ++ [f y] ++ (xs.map f).drop i = (xs.take i ++ [y] ++ xs.drop i).map f := by simp
theorem KeysAt.ins {K : PySem.W.Frag} {H : Hp} {as : List Addr} {ks : List Ky} {a : Addr} {k : Ky} (h : KeysAt K H as ks) (hk : KeyAt K H a k) (i : Nat) : KeysAt K H (as.take i ++ [a] ++ as.drop i) (ks.take i ++ [k] ++ ks.drop i) := by
  induction h generalizing i with
  | nil => simpa using KeysAt.cons hk .nil
  | @cons b q bs qs hb r ih =>
    cases i with
    | zero => exact .cons hk (.cons hb r)
    | succ i => exact .cons hb (ih i)
theorem lc_singles {h l D : Addr} {H : Hp} {n : Nat} {vs : List Nat} {σ : L2.St} {g : TG} {te : TE} {Qd : Hp → Prop} {K : PySem.W.Frag} (hD : DrAt H h l) (nD : H D = none) (hn : n ≤ 1000)
    (hs : ∀ (i : Nat) (H' : Hp) (R : VK), DrAt H' h l → (∀ a ky H3, ky.Ok → ky.single = true → Kf [h, l] H' H3 → DrAt H3 h l → KeyAt K H3 a ky → R (.ref a) H3) → g (.int ((0 : Int) + (i : Int))) (wipe σ vs) H' fun σ2 H2 => wipe σ2 vs = wipe σ vs ∧ te σ2 H2 R)
    (hd : ∀ H' as ks, Kf [h, l] H H' → DrAt H' h l → KeysAt K H' as ks → (∀ k ∈ ks, k.single = true ∧ k.Ok) → ks.length = n → H' D = some (.lst (as.map V.ref)) → Qd H') :
    ∃ W : Nat → Nat → Hp → Prop, (∃ m, W 0 m (upd H D (HO.lst []))) ∧ ∀ (i m : Nat) (H : Hp), W i m H → (Itr 0 n).stop i H ∧ Qd H ∨ (Itr 0 n).go i H ∧ ∃ Nx : Hp → Prop, (∀ (H' : Hp), Nx H' → ∃ m', m' < m ∧ W (i + 1) m' H') ∧ ∀ (v : V) (H' : Hp), (Itr 0 n).yld i H v H' → g v (wipe σ vs) H' fun σ2 H2 => wipe σ2 vs = wipe σ vs ∧ tYes σ2 H2 fun b H3 => if b = true then te σ2 H3 fun y H4 => ∃ acc, H4 D = some (HO.lst acc) ∧ acc.length < sizeLine ∧ Nx (upd H4 D (HO.lst (acc ++ [y]))) else Nx H3 := by
  have nDd : D ∉ [h, l] := fresh_ne hD.some nD
  have nDh : D ≠ h := fun e => nDd (by rw [e]; simp)
  have nDl : D ≠ l := fun e => nDd (by rw [e]; simp)
  refine lc_range (lo := 0) (n := n) (vs := vs) (fun i H' => Kq [h, l] H H' ∧ DrAt H' h l ∧ ∃ as ks, KeysAt K H' as ks ∧ (∀ k ∈ ks, k.single = true ∧ k.Ok) ∧ ks.length = i ∧ H' D = some (.lst (as.map V.ref))) ⟨Kq.alloc nD, hD.kq (Kq.alloc nD), [], [], .nil, by simp, rfl, upd_same⟩ ?_ ?_
  · rintro i H' hi ⟨kq, hDi, as, ks, hks, hok, hl, gD⟩
    refine hs i H' _ hDi fun a ky H3 kok ksg k3 hD3 hk => ?_
    have g : H3 D = some (.lst (as.map V.ref)) := k3.q.gets gD nDd
    have kw : Kf [D] H3 (upd H3 D (.lst (as.map V.ref ++ [.ref a]))) := Kf.one g
    have hkl := hks.len
    refine ⟨_, g, smallM (by rw [List.length_map]; omega), (kq.trans k3.q).writeF nD g, hD3.upd nDh nDl, as ++ [a], ks ++ [ky], (kw.keys (k3.keys hks)).snoc (kw.key hk), fun k hk' => ?_, by rw [List.length_append, hl]; rfl, ?_⟩
    · rcases List.mem_append.mp hk' with z | z
      · exact hok k z
      · rw [List.mem_singleton.mp z]; exact ⟨ksg, kok⟩
    · rw [upd_same, List.map_append]; rfl
  · rintro H' ⟨kq, hDi, as, ks, hks, hok, hl, gD⟩
    exact hd H' as ks ⟨kq, hD.wr, hDi.wr⟩ hDi hks hok hl gD
/-- what stands all along -/
structure Bw (K : PySem.W.Frag) (H : Hp) (h l : Addr) : Prop where
  dr : DrAt H h l
  tg : TabG H (tS K)
  tb : ∀ p ∈ GT.l, LamX.TabS H p.1 p.2
theorem Bw.kq {K : PySem.W.Frag} {H H1 : Hp} {h l : Addr} (b : Bw K H h l) (k : Kq [] H H1) : Bw K H1 h l := ⟨b.dr.kq k, k.tab _ b.tg, fun p hp => k.tabS p hp (b.tb p hp)⟩
theorem Bw.draw {K : PySem.W.Frag} {H H1 : Hp} {h l : Addr} (b : Bw K H h l) (k : Kf [h, l] H H1) (dr : DrAt H1 h l) : Bw K H1 h l := ⟨dr, k.q.tab _ b.tg, fun p hp => k.q.tabS p hp (b.tb p hp)⟩
theorem Bw.kf {K : PySem.W.Frag} {H H1 : Hp} {h l : Addr} {S : List Addr} (b : Bw K H h l) (k : Kf S H H1) (n1 : h ∉ S) (n2 : l ∉ S) : Bw K H1 h l := ⟨b.dr.kf k n1 n2, k.q.tab _ b.tg, fun p hp => k.q.tabS p hp (b.tb p hp)⟩
end KT
set_option Elab.async false
set_option linter.all false
set_option maxRecDepth 100000
set_option maxHeartbeats 4000000
namespace KT
open PySem PySem.Spec PyProof.Rows L2 GxR
variable [GT]
/-! ### tapes held against tapes -/
def vD : V → PyData
  | .str z => .str z
  | .int i => .int i
  | _ => .none
def keyD (k : Ky) : PyData := .tuple ((keyV k).map vD)
def tapeD (ks : List Ky) : PyData := .tuple (ks.map keyD)
theorem dp_small {K : PySem.W.Frag} {H : Hp} : ∀ xs : List V, (∀ x ∈ xs, smallV x) → DpAll K H xs (xs.map vD)
  | [], _ => .nil
  | x :: r, h => by
    have h1 := h x (by simp)
    have h2 := dp_small (K := K) (H := H) r fun y hy => h y (by simp [hy])
    cases x with
    | str z => exact .cons (.str z) h2
    | int i => exact .cons (.int i) h2
    | _ => exact h1.elim
theorem dp_keys {K : PySem.W.Frag} {H : Hp} {as : List Addr} {ks : List Ky} (h : KeysAt K H as ks) (hok : ∀ k ∈ ks, k.Ok) : DpAll K H (as.map V.ref) (ks.map keyD) := by
  induction h with
  | nil => exact .nil
  | @cons a k as ks h _ ih => exact .cons (.tup h (dp_small _ (keyV_small (hok k (by simp))))) (ih fun x hx => hok x (by simp [hx]))
theorem strOk_name {n : Nat} (h : n < 8) : PyData.strOk (nameS n) = true := strOk_sig (l := [97 + n]) fun c hc => by rw [List.mem_singleton.mp hc]; exact ⟨by omega, by omega⟩
theorem lay_key {k : Ky} (h : k.Ok) : PyData.canLay0 (keyD k) = true := by
  have e : PyData.canLay0 (keyD k) = PyData.canLayAll0 ((keyV k).map vD) := by unfold keyD; simp [PyData.canLay0]
  rw [e]
  cases k with
  | put s =>
    have := strOk_sig h.2
    have w0 : PyData.strOk "put" = true := by decide +kernel
    simp [keyV, vD, PyData.canLayAll0, PyData.canLay0, this, w0]
  | find s =>
    have := strOk_sig h.2.2
    have w0 : PyData.strOk "find" = true := by decide +kernel
    simp [keyV, vD, PyData.canLayAll0, PyData.canLay0, this, w0]
  | play n m =>
    have := strOk_name h.1
    have w0 : PyData.strOk "play" = true := by decide +kernel
    simp [keyV, vD, PyData.canLayAll0, PyData.canLay0, this, w0]
  | till n =>
    have := strOk_name h
    have w0 : PyData.strOk "till" = true := by decide +kernel
    simp [keyV, vD, PyData.canLayAll0, PyData.canLay0, this, w0]
  | _ => decide +kernel
theorem lay_keys : ∀ ks : List Ky, (∀ k ∈ ks, k.Ok) → PyData.canLayAll0 (ks.map keyD) = true
  | [], _ => rfl
  | k :: r, h => by
    show (PyData.canLay0 (keyD k) && PyData.canLayAll0 (r.map keyD)) = true
    rw [lay_key (h k (by simp)), lay_keys r fun x hx => h x (by simp [hx])]; rfl
theorem depth_small : ∀ xs : List V, PyData.depthAll (xs.map vD) = 0
  | [] => rfl
  | x :: r => by
    show max (PyData.depth (vD x)) (PyData.depthAll (r.map vD)) = 0
    rw [depth_small r]
    cases x <;> rfl
theorem depth_keys : ∀ ks : List Ky, PyData.depthAll (ks.map keyD) ≤ 1
  | [] => by decide
  | k :: r => by
    have h1 : PyData.depth (keyD k) = PyData.depthAll ((keyV k).map vD) + 1 := by unfold keyD; simp [PyData.depth]
    have h2 := depth_keys r
    show max (PyData.depth (keyD k)) (PyData.depthAll (r.map keyD)) ≤ 1
    rw [h1, depth_small]
    omega
/-! ### lists of keys held against lists of keys -/
def keysD (ks : List Ky) : PyData := .list (ks.map keyD)
theorem dp_list {K : PySem.W.Frag} {H : Hp} {a : Addr} {as : List Addr} {ks : List Ky} (h : H a = some (.lst (as.map V.ref))) (hk : KeysAt K H as ks) (hok : ∀ k ∈ ks, k.Ok) : Dp K H (.ref a) (keysD ks) := .lst (SqL.of h) (dp_keys hk hok)
theorem shaped_keys {ks : List Ky} (h : ∀ k ∈ ks, k.Ok) : SeqAt.shaped (keysD ks) = true := by
  unfold SeqAt.shaped
  have h1 : PyData.canLay0 (keysD ks) = PyData.canLayAll0 (ks.map keyD) := by unfold keysD; simp [PyData.canLay0]
  have h2 : PyData.depth (keysD ks) = PyData.depthAll (ks.map keyD) + 1 := by unfold keysD; simp [PyData.depth]
  have h3 := depth_keys ks
  rw [h1, h2, lay_keys ks h, Bool.true_and]
  exact decide_eq_true (by omega)
theorem eqv_keys {ks : List Ky} (h : ∀ k ∈ ks, k.Ok) : PyData.eqv (keysD ks) (keysD ks) = true := SeqAt.eqv_refl _ (SeqAt.canLay_of_shaped (shaped_keys h))
end KT
set_option Elab.async false
set_option linter.all false
set_option maxRecDepth 100000
set_option maxHeartbeats 4000000
namespace KT
open PySem PySem.Spec PyProof.Rows L2 GxR
variable [GT]
/-! ### an editor's tapes set, name by name -/
theorem ne_of_none' {H : Hp} {a b : Addr} {o : HO} (h : H a = some o) (n : H b = none) : b ≠ a := fun e => by rw [e, h] at n; cases n
def tpD (d : Dc) (n : Nat) : List Ky := (lookD d n).getD []
theorem tpD_ok {d : Dc} (h : DOk d) (n : Nat) : ∀ k ∈ tpD d n, k.Ok := by
  unfold tpD lookD
  cases e : d.find? (fun p => decide (p.1 = n)) with
  | none => intro k hk; simp at hk
  | some p => exact (h.ok p (List.mem_of_find?_eq_some e)).2.2
theorem tpD_len {d : Dc} (h : DOk d) (n : Nat) : (tpD d n).length ≤ 30 := by
  unfold tpD lookD
  cases e : d.find? (fun p => decide (p.1 = n)) with
  | none => simp
  | some p => exact (h.ok p (List.mem_of_find?_eq_some e)).2.1
theorem lookD_mem {d : Dc} {p : Nat × List Ky} (h : p ∈ d) : lookD d p.1 ≠ none := by
  unfold lookD
  rw [Ne, Option.map_eq_none_iff, List.find?_eq_none]
  intro z
  exact z p h (decide_eq_true rfl)
theorem lookD_none {d : Dc} {n : Nat} (h : ∀ p ∈ d, p.1 ≠ n) : lookD d n = none := by
  unfold lookD
  rw [Option.map_eq_none_iff, List.find?_eq_none]
  intro p hp z
  exact h p hp (of_decide_eq_true z)
theorem lookD_ok {d : Dc} (h : DOk d) {n : Nat} {ks : List Ky} (e : lookD d n = some ks) : n < 8 ∧ ks.length ≤ 30 ∧ ∀ k ∈ ks, k.Ok := by
  unfold lookD at e
  obtain ⟨q, hq, rfl⟩ := Option.map_eq_some_iff.mp e
  have h1 := h.ok q (List.mem_of_find?_eq_some hq)
  have h2 : q.1 = n := by have := List.find?_some hq; simpa using this
  exact ⟨h2 ▸ h1.1, h1.2⟩
def setT (tp : Nat → List Ky) (d : Dc) (ys : List Str) (n : Nat) : List Ky := if nameS n ∈ ys then (lookD d n).getD [] else tp n
theorem setT_nil (tp : Nat → List Ky) (d : Dc) : setT tp d [] = tp := by funext n; exact if_neg (by simp)
theorem setT_step {tp : Nat → List Ky} {d : Dc} {ys : List Str} {i n : Nat} {ks : List Ky} (hy : ys[i]? = some (nameS n)) (hlk : lookD d n = some ks) :
    (fun n' => if n' = n then ks else setT tp d (ys.take i) n') = setT tp d (ys.take (i + 1)) := by
  funext n'
  have hi : i < ys.length := (List.getElem?_eq_some_iff.mp hy).1
  unfold setT
  rw [List.take_succ_eq_append_getElem hi, (List.getElem?_eq_some_iff.mp hy).2]
  by_cases e : n' = n
  · rw [if_pos e, e, if_pos (by simp), hlk]; rfl
  · rw [if_neg e]
    have : (nameS n' ∈ ys.take i ++ [nameS n]) ↔ nameS n' ∈ ys.take i := by
      rw [List.mem_append, List.mem_singleton]
      exact ⟨fun z => z.elim id fun z => absurd (name_inj z) e, .inl⟩
    simp only [this]
theorem set_names {d : Dc} (dok : DOk d) {ys : List Str} (hp : ys.Perm (d.map fun p => nameS p.1)) : ∀ y ∈ ys, ∃ n ks, n < 8 ∧ y = nameS n ∧ lookD d n = some ks := fun y hy => by
  obtain ⟨q, hq, rfl⟩ := List.mem_map.mp (hp.mem_iff.mp hy)
  cases e : lookD d q.1 with
  | none => exact absurd e (lookD_mem hq)
  | some ks => exact ⟨q.1, ks, (dok.ok q hq).1, rfl, e⟩
theorem setT_end {d : Dc} (dok : DOk d) {ys : List Str} (hp : ys.Perm (d.map fun p => nameS p.1)) : setT (fun _ => []) d ys = tpD d := by
  funext n
  unfold setT tpD
  by_cases e : nameS n ∈ ys
  · rw [if_pos e]
  · rw [if_neg e]
    have : lookD d n = none := lookD_none fun p hq z => e (hp.mem_iff.mpr (List.mem_map.mpr ⟨p, hq, by rw [z]⟩))
    rw [this]; rfl
/-- the tape at a name -/
theorem DAt.there {K : PySem.W.Frag} {H : Hp} {kvs : List (Key × V)} {d : Dc} (h : DAt K H kvs d) {n : Nat} {ks : List Ky} (e : lookD d n = some ks) : ∃ T as, valV kvs (.inr (nameS n)) = some (.ref T) ∧ SqT K H T (as.map V.ref) ∧ KeysAt K H as ks := by
  rcases h.val n with ⟨_, z⟩ | ⟨T_, ks', ev, ek, as, h1, h2⟩
  · rw [e] at z; cases z
  · rw [e] at ek
    cases ek
    exact ⟨T_, as, ev, h1, h2⟩
end KT
set_option Elab.async false
set_option linter.all false
set_option maxRecDepth 100000
set_option maxHeartbeats 4000000
namespace KT
open PySem PySem.Spec PyProof.Rows L2 GxR
variable [GT]
theorem dp_tape {K : PySem.W.Frag} {H : Hp} {a : Addr} {ks : List Ky} (h : TapeAt K H a ks) (hok : ∀ k ∈ ks, k.Ok) : Dp K H (.ref a) (tapeD ks) := by
  obtain ⟨as, h1, h2⟩ := h
  exact .tup h1 (dp_keys h2 hok)
theorem shaped_tape {ks : List Ky} (h : ∀ k ∈ ks, k.Ok) : SeqAt.shaped (tapeD ks) = true := by
  unfold SeqAt.shaped
  have h1 : PyData.canLay0 (tapeD ks) = PyData.canLayAll0 (ks.map keyD) := by unfold tapeD; simp [PyData.canLay0]
  have h2 : PyData.depth (tapeD ks) = PyData.depthAll (ks.map keyD) + 1 := by unfold tapeD; simp [PyData.depth]
  have h3 := depth_keys ks
  rw [h1, h2, lay_keys ks h, Bool.true_and]
  exact decide_eq_true (by omega)
theorem eqv_tape {ks : List Ky} (h : ∀ k ∈ ks, k.Ok) : PyData.eqv (tapeD ks) (tapeD ks) = true := SeqAt.eqv_refl _ (SeqAt.canLay_of_shaped (shaped_tape h))
theorem op_neDB {X : Cx} {K : PySem.W.Frag} (e : X.K = K) (hu : X.A.units + 64 < cLine) : OpR X (compareOp .NotEq) (rNeD K) := e ▸ op_neD hu
/-! ### dicts of tapes: how many, what at a name -/
theorem nodup_lt : ∀ (k : Nat) (l : List Nat), l.Nodup → (∀ x ∈ l, x < k) → l.length ≤ k
  | 0, l, _, h => by
    cases l with
    | nil => exact Nat.le_refl _
    | cons x r => exact absurd (h x (by simp)) (by omega)
  | k + 1, l, nd, h => by
    by_cases hk : k ∈ l
    · have h1 := nodup_lt k (l.erase k) (nd.erase k) fun x hx => by
        have h2 := (nd.mem_erase_iff.mp hx)
        have h3 := h x h2.2
        have := h2.1
        omega
      rw [List.length_erase_of_mem hk] at h1
      omega
    · have := nodup_lt k l nd fun x hx => by
        have h3 := h x hx
        have : x ≠ k := fun e => hk (e ▸ hx)
        omega
      omega
theorem putD_nd {d : Dc} {n : Nat} {ks : List Ky} (h : (d.map (·.1)).Nodup) : ((putD d n ks).map (·.1)).Nodup := by
  unfold putD
  split
  · rw [List.map_map]
    have : d.map ((fun p : Nat × List Ky => p.1) ∘ fun p => if p.1 = n then (p.1, ks) else p) = d.map (·.1) := by
      refine List.map_congr_left fun p _ => ?_
      show (if p.1 = n then (p.1, ks) else p).1 = p.1
      split <;> rfl
    rw [this]; exact h
  · rename_i hh
    rw [List.map_append, List.nodup_append]
    refine ⟨h, by simp, fun a ha b hb e => ?_⟩
    obtain ⟨p, hp, rfl⟩ := List.mem_map.mp ha
    simp at hb
    exact hh (List.any_eq_true.mpr ⟨p, hp, decide_eq_true (e.trans hb)⟩)
theorem DOk.len8 {d : Dc} (h : DOk d) (nd : (d.map (·.1)).Nodup) : d.length ≤ 8 := by
  have := nodup_lt 8 (d.map (·.1)) nd fun x hx => by
    obtain ⟨p, hp, rfl⟩ := List.mem_map.mp hx
    exact (h.ok p hp).1
  rwa [List.length_map] at this
theorem tpD_put (d : Dc) (n : Nat) (ks : List Ky) : tpD (putD d n ks) = fun i => if i = n then ks else tpD d i := by
  funext i
  unfold tpD
  rw [lookD_put]
  split <;> rfl
/-! ### text, place and clip, as a law keeps them -/
def LkAt (K : PySem.W.Frag) (H : Hp) (a : Addr) (g : Pg) : Prop := ∃ q, SqT K H a [.str (textS g.rows), .ref q, .str (S g.clip)] ∧ SqT K H q [.int (g.row : Int), .int (g.col : Int)]
theorem LkAt.kq {K : PySem.W.Frag} {H H1 : Hp} {a : Addr} {g : Pg} (h : LkAt K H a g) (k : Kq [] H H1) : LkAt K H1 a g := by
  obtain ⟨q, h1, h2⟩ := h
  exact ⟨q, k.tup h1, k.tup h2⟩
theorem LkAt.kf {K : PySem.W.Frag} {S : List Addr} {H H1 : Hp} {a : Addr} {g : Pg} (h : LkAt K H a g) (k : Kf S H H1) : LkAt K H1 a g := by
  obtain ⟨q, h1, h2⟩ := h
  exact ⟨q, k.tup h1, k.tup h2⟩
def lkD (g : Pg) : PyData := .tuple [.str (textS g.rows), .tuple [.int (g.row : Int), .int (g.col : Int)], .str (S g.clip)]
theorem LkAt.dp {K : PySem.W.Frag} {H : Hp} {a : Addr} {g : Pg} (h : LkAt K H a g) : Dp K H (.ref a) (lkD g) := by
  obtain ⟨q, h1, h2⟩ := h
  exact .tup h1 (.cons (.str _) (.cons (.tup h2 (.cons (.int _) (.cons (.int _) .nil))) (.cons (.str _) .nil)))
theorem shaped_lk {g : Pg} (ok : g.Ok) : SeqAt.shaped (lkD g) = true := by
  have h1 := strOk_text ok.sig
  have h2 := strOk_sig ok.csig
  unfold SeqAt.shaped
  have e1 : PyData.canLay0 (lkD g) = true := by
    unfold lkD
    simp [PyData.canLay0, PyData.canLayAll0, h1, h2]
  have e2 : PyData.depth (lkD g) = 2 := by
    unfold lkD
    simp [PyData.depth, PyData.depthAll]
  rw [e1, e2]; rfl
theorem eqv_lk {g : Pg} (ok : g.Ok) : PyData.eqv (lkD g) (lkD g) = true := SeqAt.eqv_refl _ (SeqAt.canLay_of_shaped (shaped_lk ok))
theorem al_tapes {K : PySem.W.Frag} {H : Hp} {n : Nat} {a b : Addr} {ks : List Ky} (h1 : TapeAt K H a ks) (h2 : TapeAt K H b ks) (hl : ks.length ≤ 1000) (ok : ∀ k ∈ ks, k.Ok) : Al K H (n + 2) (.ref a) (.ref b) := by
  obtain ⟨as, a1, a2⟩ := h1
  obtain ⟨bs, b1, b2⟩ := h2
  refine .tup a1 b1 (by rw [List.length_map, List.length_map, a2.len, b2.len]) (by rw [List.length_map, a2.len]; exact hl) fun i x y hx hy => ?_
  rw [List.getElem?_map] at hx hy
  obtain ⟨p, hp, rfl⟩ := Option.map_eq_some_iff.mp hx
  obtain ⟨q, hq, rfl⟩ := Option.map_eq_some_iff.mp hy
  obtain ⟨i1, rfl⟩ := List.getElem?_eq_some_iff.mp hp
  obtain ⟨i2, rfl⟩ := List.getElem?_eq_some_iff.mp hq
  have hi : i < ks.length := by rw [← a2.len]; exact i1
  exact al_key (a2.at_ i1 hi) (b2.at_ i2 hi) (ok _ (List.getElem_mem _))
end KT
set_option Elab.async false
set_option linter.all false
set_option maxRecDepth 100000
set_option maxHeartbeats 4000000
namespace KT
open PySem PySem.Spec PyProof.Rows L2 GxR
variable [GT]
/-! ### all that an editor tells, in a list -/
def TsAt (K : PySem.W.Frag) (H : Hp) (ts : List Addr) (ed : EdSt) : Prop := ∀ i (h : i < ts.length), TapeAt K H ts[i] (ed.tapes i)
def ToldAt (K : PySem.W.Frag) (H : Hp) (a : Addr) (ed : EdSt) : Prop := ∃ q ts, H a = some (.lst ([.str (textS ed.page.rows), .ref q, .str (S ed.page.clip)] ++ ts.map V.ref)) ∧ SqT K H q [.int (ed.page.row : Int), .int (ed.page.col : Int)] ∧ ts.length = 8 ∧ TsAt K H ts ed
section
variable {K : PySem.W.Frag} {H H1 : Hp}
theorem TsAt.kq {ts : List Addr} {ed : EdSt} (h : TsAt K H ts ed) (k : Kq [] H H1) : TsAt K H1 ts ed := fun i hi => k.tape (h i hi)
theorem TsAt.kf {S : List Addr} {ts : List Addr} {ed : EdSt} (h : TsAt K H ts ed) (k : Kf S H H1) : TsAt K H1 ts ed := fun i hi => k.tape (h i hi)
theorem ToldAt.kf {S : List Addr} {a : Addr} {ed : EdSt} (h : ToldAt K H a ed) (k : Kf S H H1) (n : a ∉ S) : ToldAt K H1 a ed := by
  obtain ⟨q, ts, h1, h2, h3, h4⟩ := h
  exact ⟨q, ts, k.q.gets h1 n, k.tup h2, h3, h4.kf k⟩
theorem ToldAt.kq {a : Addr} {ed : EdSt} (h : ToldAt K H a ed) (k : Kq [] H H1) : ToldAt K H1 a ed := by
  obtain ⟨q, ts, h1, h2, h3, h4⟩ := h
  exact ⟨q, ts, k.get h1, k.tup h2, h3, h4.kq k⟩
/-- alike -/
theorem al_told {a b : Addr} {e1 e2 : EdSt} {n : Nat} (h1 : ToldAt K H a e1) (h2 : ToldAt K H b e2) (ep : e1.page = e2.page) (et : ∀ i, i < 8 → e1.tapes i = e2.tapes i) (tok : TpOk e1.tapes) : Al K H (n + 3) (.ref a) (.ref b) := by
  obtain ⟨q, ts, g1, g2, g3, g4⟩ := h1
  obtain ⟨q', ts', f1, f2, f3, f4⟩ := h2
  rw [← ep] at f1 f2
  refine .lst g1 f1 (by simp [g3, f3]) (by simp [g3]) fun i x y hx hy => ?_
  match i, hx, hy with
  | 0, hx, hy => cases hx; cases hy; exact .str _ _
  | 1, hx, hy =>
    cases hx; cases hy
    refine .tup g2 f2 rfl (by show 2 ≤ 1000; decide) fun j u v hu hv => ?_
    match j, hu, hv with
    | 0, hu, hv => cases hu; cases hv; exact .int _ _
    | 1, hu, hv => cases hu; cases hv; exact .int _ _
    | j + 2, hu, _ => simp at hu
  | 2, hx, hy => cases hx; cases hy; exact .str _ _
  | i + 3, hx, hy =>
    have hx : (ts.map V.ref)[i]? = some x := hx
    have hy : (ts'.map V.ref)[i]? = some y := hy
    rw [List.getElem?_map] at hx hy
    obtain ⟨u, hu, rfl⟩ := Option.map_eq_some_iff.mp hx
    obtain ⟨v, hv, rfl⟩ := Option.map_eq_some_iff.mp hy
    obtain ⟨i1, rfl⟩ := List.getElem?_eq_some_iff.mp hu
    obtain ⟨i2, rfl⟩ := List.getElem?_eq_some_iff.mp hv
    have i8 : i < 8 := by omega
    have t2 := f4 i i2
    rw [← et i i8] at t2
    exact al_tapes (n := n) (g4 i i1) t2 (Nat.le_trans (tok.len i i8) (by decide)) (tok.ok i i8)
end
theorem edF_nx_tape_of (p t : Addr) (r : V) (pr un ud : Addr) : (edF p t r pr un ud).lookup ("tape_of" : Str) = none := by kernel_rfl
theorem edF_nx_tape (p t : Addr) (r : V) (pr un ud : Addr) : (edF p t r pr un ud).lookup ("tape" : Str) = none := by kernel_rfl
theorem edF_nx_record (p t : Addr) (r : V) (pr un ud : Addr) : (edF p t r pr un ud).lookup ("record" : Str) = none := by kernel_rfl
theorem edF_nx_stop (p t : Addr) (r : V) (pr un ud : Addr) : (edF p t r pr un ud).lookup ("stop" : Str) = none := by kernel_rfl
theorem edF_nx_press (p t : Addr) (r : V) (pr un ud : Addr) : (edF p t r pr un ud).lookup ("press" : Str) = none := by kernel_rfl
theorem edF_nx_hand (p t : Addr) (r : V) (pr un ud : Addr) : (edF p t r pr un ud).lookup ("hand" : Str) = none := by kernel_rfl
theorem edF_nx_back (p t : Addr) (r : V) (pr un ud : Addr) : (edF p t r pr un ud).lookup ("back" : Str) = none := by kernel_rfl
theorem edF_nx_forth (p t : Addr) (r : V) (pr un ud : Addr) : (edF p t r pr un ud).lookup ("forth" : Str) = none := by kernel_rfl
section
variable {P : Program} {w : World} {K : PySem.W.Frag} {mg : Str → Option Value} {base : Heap}
def sp_tells (K : PySem.W.Frag) : Sp := fun vs H Q _ => ∃ m ed, vs = [.ref m.e] ∧ EdAt K H m ed ∧ ∀ a H', H a = none → Kq [] H H' → ToldAt K H' a ed → Q (.ref a) H'
theorem sc__law_stands : FnScope ["_law_editor", "_law_name"] ["_law_editor"] (defScope s__law_stands) := ⟨rfl, rfl, rfl, by decide +kernel, rfl, by decide +kernel, by decide +kernel⟩
theorem ok__law_stands (T : Tx w K mg) : Fk P w K mg base 3 (Ad K d__law_stands.at_) ["_law_editor"] (sp_tells K) := by
  have F_Editor_clip := ok_Editor_clip (P := P) (base := base) T
  have F_Editor_place := ok_Editor_place (P := P) (base := base) T
  have F_Editor_tape_of := ok_Editor_tape_of (P := P) (base := base) T
  have F_Editor_text := ok_Editor_text (P := P) (base := base) T
  refine mkF T.f__law_stands sc__law_stands rfl (fun _ _ _ _ _ _ us hl => match us, hl with | [_], _ => rfl) (fun vs H Q E h => by obtain ⟨_, _, rfl, _⟩ := h; rfl) (fun cdv A outer s H vs Q E hcd hcode hr h => ?_)
  refine ⟨_, (pss_one (ps_ret (pe_op op_cat (pe_lst (pa_cons (pe_mF0 _ (pv 0) T.c_Editor T.m_Editor_text F_Editor_text (hr.mono (by decide)) px) (pa_cons (pe_mF0 _ (pv 0) T.c_Editor T.m_Editor_place F_Editor_place (hr.mono (by decide)) px) (pa_cons (pe_mF0 _ (pv 0) T.c_Editor T.m_Editor_clip F_Editor_clip (hr.mono (by decide)) px) pa_nil)))) (pe_lc (own := [("_law_name", 1)]) (by rfl) sc__law_stands.nd (pi_str pe_str) (blkOk_by (own := [("_law_name", 1)]) (N := ["_law_editor", "_law_name"]) (sc := defScope s__law_stands) (by decide +kernel)) (fun _ _ _ _ _ => (pg_name (i := 1) sc__law_stands.nd rfl (.inl rfl))) (fun _ _ _ _ _ => pts_nil) (fun _ _ _ _ _ => (pe_mF _ (pv 0) T.c_Editor T.m_Editor_tape_of F_Editor_tape_of (hr.mono (by decide)) passL (pa_cons (pv 1) pa_nil))))))), ?_⟩
  obtain ⟨m, ed, rfl, hE, kQ⟩ := h
  obtain ⟨dx, p, ap, au, ad, e1, _⟩ := hE.ex
  refine ⟨_, rfl, m.e, dx, _, rfl, e1, edF_no_text _ _ _ _ _ _, m, ed, rfl, hE, ?_⟩
  refine ⟨_, rfl, m.e, dx, _, rfl, e1, edF_no_place _ _ _ _ _ _, m, ed, rfl, hE, fun q H1 k1 hq => ?_⟩
  refine ⟨_, rfl, m.e, dx, _, rfl, k1.get e1, edF_no_clip _ _ _ _ _ _, m, ed, rfl, hE.kq k1, ?_⟩
  refine ⟨line16 (by show 3 ≤ 1000000; decide), fun A nA => ?_⟩
  have kA : Kq [] H1 (upd H1 A (.lst [.str (textS ed.page.rows), .ref q, .str (S ed.page.clip)])) := Kq.alloc nA
  have gA : (upd H1 A (.lst [.str (textS ed.page.rows), .ref q, .str (S ed.page.clip)])) A = some (.lst [.str (textS ed.page.rows), .ref q, .str (S ed.page.clip)]) := upd_same
  have hq1 : SqT K H1 q [.int (ed.page.row : Int), .int (ed.page.col : Int)] := SqT.of hq
  have k2 := k1.trans kA
  have hq2 := kA.tup hq1
  generalize (upd H1 A (.lst [.str (textS ed.page.rows), .ref q, .str (S ed.page.clip)])) = H2 at kA gA k2 hq2 ⊢
  have hE2 := hE.kq k2
  have e2 := k2.get e1
  refine ⟨_, rfl, fun D nD => ?_⟩
  refine lc_signs (fun i H' => Kq [] H2 H' ∧ ∃ ts : List Addr, H' D = some (.lst (ts.map V.ref)) ∧ ts.length = i ∧ TsAt K H' ts ed) ⟨Kq.alloc nD, [], upd_same, rfl, fun i hi => absurd hi (by simp)⟩ ?_ ?_
  · rintro i c H' hc ⟨kk, ts, gD, hl, hts⟩
    obtain ⟨hi8, rfl⟩ := namesS_cp hc
    refine ⟨rfl, ?_⟩
    unfold tYes
    dsimp only
    rw [if_pos rfl]
    refine ⟨_, rfl, m.e, dx, _, rfl, kk.get e2, edF_nx_tape_of _ _ _ _ _ _, _, rfl, m, ed, i, rfl, hE2.kq kk, hi8, fun t ht => ?_⟩
    have kw : Kf [D] H' (upd H' D (.lst (ts.map V.ref ++ [.ref t]))) := Kf.one gD
    refine ⟨_, gD, by rw [List.length_map]; exact small1000 (by omega), kk.writeF nD gD, ts ++ [t], ?_, by rw [List.length_append, hl]; rfl, fun j hj => ?_⟩
    · rw [upd_same, List.map_append]; rfl
    · rw [List.length_append] at hj
      by_cases e : j < ts.length
      · rw [List.getElem_append_left e]
        exact kw.tape (hts j e)
      · have hj : j < ts.length + 1 := hj
        have ej : j = ts.length := by omega
        subst ej
        rw [List.getElem_append_right (Nat.le_refl _)]
        simp only [Nat.sub_self, List.getElem_cons_zero]
        rw [hl]
        exact kw.tape ht
  rintro H' ⟨kk, ts, gD, hl, hts⟩
  rw [namesS_size] at hl
  have gA := kk.get gA
  refine ⟨A, D, _, _, rfl, rfl, gA, gD, line16 (by rw [List.length_map, hl]; show 3 + 8 ≤ 1000000; decide), fun L nL => ?_⟩
  have kL : Kq [] H' (upd H' L (.lst ([.str (textS ed.page.rows), .ref q, .str (S ed.page.clip)] ++ ts.map V.ref))) := Kq.alloc nL
  have k0L := (k2.trans kk).trans kL
  exact kQ L _ ((k2.trans kk).fr _ nL) k0L ⟨q, ts, upd_same, kL.tup (kk.tup hq2), hl, hts.kq kL⟩
end
end KT
set_option Elab.async false
set_option linter.all false
set_option maxRecDepth 100000
set_option maxHeartbeats 4000000
namespace KT
open PySem PySem.Spec PyProof.Rows L2 GxR
/-! ### count of a flat list -/
def rCountF (K : PySem.W.Frag) : V → List V → Hp → VK → Prop := fun x xs H Q => ∃ (p : Addr) (ys : List V) (y : V), x = .ref p ∧ xs = [y] ∧ SqL K H p ys ∧ flatV y = true ∧ ys.all flatV = true ∧ Q (.int ((ys.countP fun z => eqV z y : Nat) : Int)) H
theorem count_vals {y : V} : ∀ {ys : List V} {us : List Value}, Vals ys us → ys.all flatV = true → us.countP (eqU y) = ys.countP fun z => eqV z y
  | _, _, .nil, _ => rfl
  | _, _, .cons r rs, h => by
    rw [List.all_cons, Bool.and_eq_true] at h
    rw [List.countP_cons, List.countP_cons, count_vals rs h.2, eqU_of r h.1]
theorem mt_countF {X : Cx} : MtR X "list.count" (rCountF X.K) := by
  intro pins s σ H x xs v us Q I rx rxs h
  obtain ⟨p, ys, y, rfl, rfl, hs, fy, fys, q⟩ := h
  cases rx
  obtain ⟨u, rfl, ru⟩ := rxs.one
  obtain ⟨its, rv, ⟨⟨cls, dd, data, sl⟩, n, ho, hc, hdn, hd⟩, hlen⟩ := I.list hs
  simp only at hc hd
  subst hc hd
  refine call_meets PySem.F.slot_list_count ⟨_, ho, rfl⟩ PySem.F.entry_list_count (PySem.F.args_list_count_2 _ _) (SeqAt.list_countAt p its.toArray n dd sl u (eqU y)) ⟨ho, fun z hz => mem_eqAt ru fy rv fys z (by simpa using hz), ?_⟩
  refine ⟨.int ((ys.countP fun z => eqV z y : Nat) : Int), H, I.tok _, ⟨s.toks, ?_⟩, q⟩
  show Value.int ((its.toArray.toList.countP (eqU y) : Nat) : Int) s.toks = _
  rw [show its.toArray.toList = its from rfl, count_vals rv fys]
theorem mt_countB {X : Cx} {K : PySem.W.Frag} (e : X.K = K) : MtR X "list.count" (rCountF K) := e ▸ mt_countF
theorem mt_indexB {X : Cx} {K : PySem.W.Frag} (e : X.K = K) : MtR X "list.index" (rIndex K) := e ▸ mt_index
section
variable {X : Cx} {K : PySem.W.Frag} {o e : Expr} {es : List Expr} {to : TE} {t : TA} {name : Str} {apos cpos : Pos} {T id : String} {r : V → List V → Hp → VK → Prop}
/-- a list's method, told of a K -/
theorem pe_bmB (ek : X.K = K) (pa : PlainAttrs T) (slot : Slot T name id) (hty : typeOf (.builtin id) = pure (.type "method_descriptor")) (hm : MtR X id r) (ho : PE X o to) (ha : PA X (e :: es) t)
    (hbase : attributeBase o name X.env (eval o X.env) = eval o X.env := by rfl)
    (hfew : ((backTo cpos (starEach (e :: es) X.env)).all (fun x => !x.1) && (backToKw cpos (keywordEach [] X.env)).all (fun x => x.1.isSome) && decide ((e :: es).length + ([] : List Keyword).length + (if ([] : List Keyword).isEmpty then 0 else 1) < 30)) = true := by rfl)
    (hline : (apos.endLine == cpos.line) = true := by rfl) (hs : starEach (e :: es) X.env = (false, eval e X.env) :: starEach es X.env := by rfl) (hplain : (backTo cpos (starEach es X.env)).any (·.1) = false := by rfl) :
    PE X (.Call (.Attribute o name apos) (e :: es) [] cpos) (tBM K T r to t) := by
  subst ek
  exact pe_bm pa slot hty hm ho ha hbase hfew hline hs hplain
end
theorem pe_never {X : Cx} {e : Expr} : PE X e (fun _ _ _ => False) := ⟨fun _ _ _ _ _ _ h => h.elim⟩
end KT
set_option Elab.async false
set_option linter.all false
set_option maxRecDepth 100000
set_option maxHeartbeats 4000000
namespace KT
open PySem PySem.Spec PyProof.Rows L2
variable [GT]
/-! ### a lambda handed to a def: all tables but the maker's stay -/
structure Gr (P : Addr) (q : Str) (H H' : Hp) : Prop where
  at_ : ∀ b o, H b = some o → b ≠ P → H' b = some o
  tab : LamX.TabS H' P q
  fr : ∀ b, H' b = none → H b = none
theorem Gr.kq {P : Addr} {q : Str} {H H' : Hp} (g : Gr P q H H') (hP : LamX.TabS H P q) (un : ∀ p ∈ GT.l, p.1 = P → p.2 = q) : Kq [] H H' := by
  obtain ⟨ps, t1, t2, t3⟩ := hP
  refine ⟨fun b o e n _ => g.at_ b o e fun z => ?_, fun p hp => ?_, g.fr, fun p m hp => ?_⟩
  · subst z
    rw [t1] at e
    cases e
    cases n
  · by_cases e : p = P
    · subst e
      obtain ⟨ps', a1, a2, _⟩ := g.tab
      exact ⟨ps', a1, a2⟩
    · obtain ⟨ps', a1, a2⟩ := hp
      exact ⟨ps', g.at_ _ _ a1 e, a2⟩
  · by_cases e : p.1 = P
    · rw [un p m e, e]
      exact g.tab
    · refine tabS_imp hp (fun ps' z => g.at_ _ _ z e) fun c z => g.at_ _ _ z fun y => ?_
      subst y
      rw [t1] at z
      unfold LamX.CodeO at z
      cases z
section
variable {X : Cx} {pins : List (Addr × Obj)} {σ : L2.St} {H : Hp} {s : Shared}
theorem lam_mk {c P : Addr} {params : Arguments} {body : Expr} {scope : Scope} {pos : Pos} {Er Qr : Value → Shared → Prop} (I : Inv X pins σ H s) (TB : LamX.TabB X.base X.mg c P) (hcode : X.env.code = .ref c)
    (hT : LamX.TabS H P (X.env.qual ++ "<lambda>")) (hdef : defaultsOf params X.env = ([], [])) (hfree : ∀ y ∈ scope.names, y.2 = .free → ∃ c, X.env.cells.lookup y.1 = some c)
    (fin : ∀ (f c' : Addr) (pm ctv : Value) (H1 : Hp) (s1 : Shared), Inv X pins σ H1 s1 → Gr P (X.env.qual ++ "<lambda>") H H1 →
      s1.heap.get? f = some (PySem.W.kla_obj "<lambda>" (X.env.qual ++ "<lambda>") params body scope (cloFrom X.env.cells scope.names []) pm c' ctv) → H1 f = none → f ∉ frs X.stack → H1 c' = some (LamX.CodeO c' (X.env.qual ++ "<lambda>")) → Qr (.ref f) s1) :
    wpAny (model X.prog X.w) X.A (eval (.Lambda params body scope pos) X.env) Qr Er s := by
  obtain ⟨ps, tP, tOk, tAll⟩ := hT
  have builtP : s.heap.BuiltinsAt X.mg P := TB.bm.keeps I.bk
  have heapP : s.heap.get? P = some { cls := .none, data := .fields ps } := I.hok P _ tP
  have outside : ∀ f, s.heap.objs.size ≤ f → f ∉ frs X.stack := by
    intro f big mem
    rcases List.mem_cons.mp (I.stkSub _ mem) with same | rest
    · have low := I.lt
      rw [← same] at low
      exact absurd big (Nat.not_le.mpr low)
    · exact I.nofs big rest
  refine PySem.W.kla_eval hdef ?_
  by_cases known : ∃ cv, codeAmong pos ps.toList = some cv
  · obtain ⟨cv, found⟩ := known
    obtain ⟨c', rfl, isCode⟩ := tAll pos cv found
    refine PySem.W.kla_makeFunctionHit (c := c) (P := P) (mg := X.mg) (ps := ps) (closure_ok hfree) I.ok.glob (I.mod.glob.keeps I.bk) hcode (TB.code.keeps I.bk) heapP tOk found builtP ?_
    intro ctv h' tk grows big
    have inv1 := I.kept (t' := tk) (h' := h'.push (PySem.W.kla_obj "<lambda>" (X.env.qual ++ "<lambda>") params body scope (cloFrom X.env.cells scope.names []) ((X.mg "__name__").getD .none) c' ctv)) fun b o e => Heap.get?_push_of_some _ (grows b o e)
    exact fin h'.objs.size c' _ ctv H _ inv1 ⟨fun _ _ e _ => e, ⟨ps, tP, tOk, tAll⟩, fun _ e => e⟩ (Heap.get?_push_size _ rfl) (I.hok.fresh big) (outside _ big) isCode
  · have none_ : codeAmong pos ps.toList = none := by
      cases e : codeAmong pos ps.toList with
      | none => rfl
      | some cv => exact absurd ⟨cv, e⟩ known
    refine PySem.W.kla_makeFunction (c := c) (P := P) (mg := X.mg) (ps := ps) (closure_ok hfree) I.ok.glob (I.mod.glob.keeps I.bk) hcode (TB.code.keeps I.bk) heapP tOk none_ TB.gP builtP ?_
    intro c' ctv h' tk others big lower isRec table
    obtain ⟨c2, oc, fs, t, sameC, getC, dataC, nameC⟩ := isRec
    cases sameC
    have freeC : H c' = none := I.hok.fresh big
    have size : s.heap.objs.size ≤ h'.objs.size := Nat.le_trans big (Nat.le_of_lt lower)
    have inv1 := LamX.inv_table (t' := tk) (q := X.env.qual ++ "<lambda>") (more := #[rawInt pos.line, rawInt pos.col, .ref c']) (h' := h'.push (PySem.W.kla_obj "<lambda>" (X.env.qual ++ "<lambda>") params body scope (cloFrom X.env.cells scope.names []) ((X.mg "__name__").getD .none) c' ctv)) I tP
      (fun b o ne e => Heap.get?_push_of_some _ (others b o ne e)) (Heap.get?_push_of_some _ table) big ⟨oc, fs, t, Heap.get?_push_of_some _ getC, dataC, nameC⟩
    have pc : P ≠ c' := ne_of_none tP freeC
    have kept : ∀ b o, H b = some o → b ≠ P → upd (upd H P (.tbl (ps ++ #[rawInt pos.line, rawInt pos.col, .ref c']))) c' (LamX.CodeO c' (X.env.qual ++ "<lambda>")) b = some o := fun b o e ne => by
      rw [upd_ne (ne_of_none e freeC), upd_ne ne]
      exact e
    have asList : (ps ++ #[rawInt pos.line, rawInt pos.col, .ref c']).toList = ps.toList ++ [rawInt pos.line, rawInt pos.col, .ref c'] := by simp
    refine fin h'.objs.size c' _ ctv _ _ inv1 ⟨kept, ⟨ps ++ #[rawInt pos.line, rawInt pos.col, .ref c'], (upd_ne pc).trans upd_same, by rw [asList]; exact PySem.TriplesOk_snoc _ _ _ _ tOk, ?_⟩, ?_⟩ (Heap.get?_push_size _ rfl) ?_ (outside _ size) upd_same
    · intro pos' cv among
      rw [asList] at among
      rcases LamX.among_app _ tOk among with old | new
      · obtain ⟨c0, e0, code0⟩ := tAll pos' cv old
        exact ⟨c0, e0, kept _ _ code0 fun z => by subst z; rw [tP] at code0; unfold LamX.CodeO at code0; cases code0⟩
      · exact ⟨c', new, upd_same⟩
    · intro b e
      by_cases e1 : b = c'
      · rw [e1]; exact freeC
      · rw [upd_ne e1] at e
        by_cases e2 : b = P
        · rw [e2, upd_same] at e; cases e
        · rw [upd_ne e2] at e; exact e
    · have n1 : h'.objs.size ≠ c' := Nat.ne_of_gt lower
      have lowP : P < s.heap.objs.size := Heap.lt_size heapP
      have n2 : h'.objs.size ≠ P := Nat.ne_of_gt (Nat.lt_of_lt_of_le lowP size)
      rw [upd_ne n1, upd_ne n2]
      exact I.hok.fresh size
/-- the def that got the lambda calls it: what is let out may speak of the caller's names -/
theorem pe_actK {CXg : CXT} {Eg : XK} {Ng : List Str} {qg : Str} {sg : Scope} {g f c' : Addr} {cdg pm ctv : Value} {params : Arguments} {body : Expr} {scope : Scope} {k i : Nat} {a : Str} {pn : List (Addr × Obj)} {xe : Value → Shared → Prop} {W : WX} {t : XK → TE} {p1 p2 : Pos}
    (I : Inv X pins σ H s) (L : LamX.LamS X.env.scope scope) (getF : s.heap.get? f = some (PySem.W.kla_obj "<lambda>" (X.env.qual ++ "<lambda>") params body scope (cloFrom X.env.cells scope.names []) pm c' ctv)) (freeF : H f = none) (outF : f ∉ frs X.stack)
    (noArgs : bindArgs (PySem.W.kla_fn "<lambda>" (X.env.qual ++ "<lambda>") params body scope (cloFrom X.env.cells scope.names []) pm (.ref c') ctv) ⟨[], []⟩ = pure [])
    (tk : Takes ((cxOf CXg X.prog X.w X.K X.mg X.base Ng qg sg g cdg X.A X.stack s H Eg).tr pn xe) W) (room : Room (k + 1) (X.A.deeper (envOfC qg sg s.heap.objs.size g cdg)))
    (runs : ∀ (A : Around) (outer : List Env) (s : Shared) (H : Hp) (E : XK), Room k (A.deeper (LamX.lamEnv X scope s.heap.objs.size f c')) → PE (LamX.lamCx X A outer s H E scope f c') body (t E))
    (hN : Ng[i]? = some a) (hv : Vis sg a) (hd : (a == ("__debug__" : Str)) = false := by decide) (hcd : (a == ("__classdict__" : Str)) = false := by decide) :
    PE ((cxOf CXg X.prog X.w X.K X.mg X.base Ng qg sg g cdg X.A X.stack s H Eg).tr pn xe) (.Call (.Name a p1) [] [] p2)
      (fun σZ HZ Q => ∃ Ech : XK, (∀ cls d H', Ech cls d H' → W cls d σZ H') ∧ σZ[i]? = some (some (.ref f)) ∧ HZ c' = some (LamX.CodeO c' (X.env.qual ++ "<lambda>")) ∧ t Ech σ HZ Q) := by
  refine ⟨fun pinsZ sZ σZ HZ Q IZ ⟨Ech, lets, slot, code, reads⟩ => ?_⟩
  have var := (pe_var (i := i) (pos := p1) hN hv hd hcd).run pinsZ sZ σZ HZ (fun v H1 => v = .ref f ∧ H1 = HZ) IZ ⟨.ref f, slot, rfl, rfl⟩
  refine wpAny_Call_Name_kw (thn var fun u s1 told => ?_)
  obtain ⟨v, H1, inv1, rel, sameV, sameH⟩ := told
  subst sameV
  rw [sameH] at inv1
  obtain rfl : u = Value.ref f := rel
  have still : s1.heap.get? f = some (PySem.W.kla_obj "<lambda>" (X.env.qual ++ "<lambda>") params body scope (cloFrom X.env.cells scope.names []) pm c' ctv) :=
    inv1.base.keep f _ getF freeF outF fun z => nomatch (show f ∈ ([] : List Addr) from z)
  have changes : Un (frs X.stack) [] H HZ s.heap s1.heap := inv1.base
  obtain ⟨oc, fs, tok, getC, dataC, nameC⟩ := (inv1.hok c' _ code).1
  refine PySem.W.callWith_F0 ⟨_, _, _, _, still⟩ (wpAny_call (codeAny_mono (R := CR (L2.CX X.prog X.w) (envOfC qg sg s.heap.objs.size g cdg :: X.stack) X.prog X.w HZ s1 Q Ech) ?_ ?_))
  · refine PySem.W.kla_callFunE room.depth still rfl L.co L.gen rfl ⟨c', oc, fs, tok, rfl, getC, dataC, nameC⟩ ?_
    have sameArgs : (⟨([] : List Value) ++ [], []⟩ : Args) = ⟨[], []⟩ := rfl
    rw [sameArgs, noArgs]
    refine wpAny_pure (wpAny_newFunctionEnv (fun y hy => (L.own y hy).2) (fun y hy => absurd hy (by simp)) ?_ L.kind)
    intro h1 names fresh
    refine ⟨inv1.nolimit.fresh _ fresh, ?_⟩
    have keeps : ∀ b o, s1.heap.get? b = some o → h1.get? b = some o := fun b o e => fresh.extBut b o (Nat.ne_of_lt (Heap.lt_size e)) (Heap.get?_push_of_some _ e)
    have inv2 : Inv (LamX.lamCx X (X.A.deeper (envOfC qg sg s.heap.objs.size g cdg)) (envOfC qg sg s.heap.objs.size g cdg :: X.stack) s1 HZ Ech scope f c') [] σ HZ { s1 with heap := h1, toks := s1.toks + ([] : List (Str × Value)).length } :=
      LamX.lam_start2 I L inv1.env0 room.hd changes names keeps
    refine PySem.W.kla_codeExpr (wpAny_mono ((runs _ _ s1 HZ Ech (room.deeper _)).run [] _ _ HZ Q inv2 reads) ?_ fun _ _ z => z)
    intro v s2 ⟨w2, H2, inv3, rel2, q2⟩
    exact ⟨w2, H2, inv3.os, inv3.bare, inv3.base, inv3.hok, rel2, q2⟩
  · intro r s2 told
    rcases r with e | fl
    · exact tk e s2 (XE.of_call inv1 (fun cls d H' z => lets cls d H' z) told)
    · rcases fl with _ | _ | _ | u <;> first | exact inv1.after told | exact False.elim told
/-- as Gives below, for any function and whatever stands for it in the heap -/
def GivesZ (X : Cx) (Ng : List Str) (x : Str) (sg : Scope) (g : Addr) (cdg : Value) (bg : List Stmt) (a : Str) (Z : Hp → Prop) (TT : (XK → Hp → VK → Prop) → Hp → VK → Prop) : Prop :=
  ∀ (f : Addr) (s : Shared) (H : Hp) (Q : VK) (tl : XK → Hp → VK → Prop),
    (∀ (W : WX) (pn : List (Addr × Obj)) (xe : Value → Shared → Prop) (p1 p2 : Pos), Takes ((cxOf C8.CX0 X.prog X.w X.K X.mg X.base Ng x sg g cdg X.A X.stack s H C8.E0).tr pn xe) W →
      PE ((cxOf C8.CX0 X.prog X.w X.K X.mg X.base Ng x sg g cdg X.A X.stack s H C8.E0).tr pn xe) (.Call (.Name a p1) [] [] p2) (fun σZ HZ Q => ∃ Ech : XK, (∀ cls d H', Ech cls d H' → W cls d σZ H') ∧ σZ[0]? = some (some (.ref f)) ∧ Z HZ ∧ tl Ech HZ Q)) →
    Z H → TT tl H Q →
    ∃ t, PSs (cxOf C8.CX0 X.prog X.w X.K X.mg X.base Ng x sg g cdg X.A X.stack s H C8.E0).nox bg t ∧ t { nx := fun _ H' => Q .non H', rt := Q } (L2.start Ng [.ref f]) H
/-- as LamX.GivesTo; what is let out may speak of the def's names -/
def Gives (X : Cx) (Ng : List Str) (x : Str) (sg : Scope) (g : Addr) (cdg : Value) (bg : List Stmt) (a : Str) (q : Str) (TT : (XK → Hp → VK → Prop) → Hp → VK → Prop) : Prop :=
  ∀ (f c' : Addr) (s : Shared) (H : Hp) (Q : VK) (tl : XK → Hp → VK → Prop),
    (∀ (W : WX) (pn : List (Addr × Obj)) (xe : Value → Shared → Prop) (p1 p2 : Pos), Takes ((cxOf C8.CX0 X.prog X.w X.K X.mg X.base Ng x sg g cdg X.A X.stack s H C8.E0).tr pn xe) W →
      PE ((cxOf C8.CX0 X.prog X.w X.K X.mg X.base Ng x sg g cdg X.A X.stack s H C8.E0).tr pn xe) (.Call (.Name a p1) [] [] p2) (fun σZ HZ Q => ∃ Ech : XK, (∀ cls d H', Ech cls d H' → W cls d σZ H') ∧ σZ[0]? = some (some (.ref f)) ∧ HZ c' = some (LamX.CodeO c' q) ∧ tl Ech HZ Q)) →
    H c' = some (LamX.CodeO c' q) → TT tl H Q →
    ∃ t, PSs (cxOf C8.CX0 X.prog X.w X.K X.mg X.base Ng x sg g cdg X.A X.stack s H C8.E0).nox bg t ∧ t { nx := fun _ H' => Q .non H', rt := Q } (L2.start Ng [.ref f]) H
/-- what a call with a lambda reads -/
def tLamK (P : Addr) (q : Str) (TT : (XK → Hp → VK → Prop) → Hp → VK → Prop) (t : XK → TE) : TE := fun σ H Q => LamX.TabS H P q ∧ ∀ H1, Gr P q H H1 → TT (fun E H' Q' => t E σ H' Q') H1 Q
theorem pe_lamK {TT : (XK → Hp → VK → Prop) → Hp → VK → Prop} {x a : Str} {g c P : Addr} {k : Nat} {pg : Arguments} {bg : List Stmt} {sg : Scope} {dV kV doc pm cdv ct oc : Value} {an od : Option Addr} {osl : Array (Option Value)} {Ng : List Str}
    {params : Arguments} {body : Expr} {scope : Scope} {t : XK → TE} {p lpos pos : Pos} (hg : Gl X x) (hm : X.mg x = some (.ref g)) (hk : PySem.W.keepIn X.K (.ref g) = true)
    (lk : X.K.lookup g = some ⟨oc, od, .func (PySem.W.fnOf x x pg bg sg dV kV doc pm an cdv ct), osl⟩) (hcg : PySem.W.codeIn X.K cdv x = true) (hb : L2.Binds X.K (PySem.W.fnOf x x pg bg sg dV kV doc pm an cdv ct) [a] []) (Sg : FnScope Ng [a] sg) (hNg : Ng[0]? = some a) (hva : Vis sg a)
    (hG : Gives X Ng x sg g cdv bg a (X.env.qual ++ "<lambda>") TT)
    (TB : LamX.TabB X.base X.mg c P) (hcode : X.env.code = .ref c) (hr : Room (k + 2) X.A) (L : LamX.LamS X.env.scope scope) (hdef : defaultsOf params X.env = ([], []))
    (hbind : ∀ (q : Str) (cl : List (Str × Addr)) (pm cv ctv : Value), bindArgs (PySem.W.kla_fn "<lambda>" q params body scope cl pm cv ctv) ⟨[], []⟩ = pure [])
    (hbody : ∀ (A : Around) (outer : List Env) (s : Shared) (H : Hp) (E : XK) (f c' : Addr), Room k (A.deeper (LamX.lamEnv X scope s.heap.objs.size f c')) → PE (LamX.lamCx X A outer s H E scope f c') body (t E))
    (hdb : (x == ("__debug__" : Str)) = false := by decide) (hd : (a == ("__debug__" : Str)) = false := by decide) (hcd : (a == ("__classdict__" : Str)) = false := by decide) :
    PE X (.Call (.Name x p) [.Lambda params body scope lpos] [] pos) (tLamK P (X.env.qual ++ "<lambda>") TT t) := by
  refine ⟨fun pins s σ H Q I ⟨tab, rest⟩ => wpAny_Call_Name_kw (ld_glob I hg hm ?_ hdb)⟩
  refine PySem.W.callWith_K (h₀ := X.base) I.ok.mod.kin hk ?_ (by rfl) (by rfl)
  show wpAny _ _ (spliced ((false, eval (.Lambda params body scope lpos) X.env) :: backTo pos (starEach [] X.env))) _ _ s
  refine Calls.spliced_cons (lam_mk I TB hcode tab hdef (L.has I.ok) ?_)
  intro f c' pm' ctv H1 s1 inv1 grown getF freeF outF isCode
  refine Calls.spliced_nil ⟨inv1.kIn, wpAny_call (codeAny_mono (R := CR C8.CX0 X.stack X.prog X.w H1 s1 Q C8.E0) ?_ ?_)⟩
  · refine LamX.run_ofS (N := Ng) (us := [.ref f]) (vs := [.ref f]) (ps := [a]) lk hcg Sg hr inv1.env0 (hb s1 [.ref f] inv1.kIn rfl) (.cons rfl .nil) rfl ?_
    intro room
    obtain ⟨tt, run, ends⟩ := hG f c' s1 H1 Q (fun E H' Q' => t E σ H' Q') (fun W pn xe p1 p2 tk => pe_actK (i := 0) (t := t) inv1 L getF freeF outF (hbind _ _ _ _ _) tk room (fun A outer s H E r => hbody A outer s H E f c' r) hNg hva hd hcd) isCode (rest H1 grown)
    exact ⟨tt, run.nox, ends⟩
  · intro r s2 told
    rcases r with e | fl
    · exact (show False from told).elim
    · rcases fl with _ | _ | _ | u <;> first | exact inv1.after told | exact False.elim told
end
end KT
set_option Elab.async false
set_option linter.all false
set_option maxRecDepth 100000
set_option maxHeartbeats 4000000
/-! isinstance(e, c) where the caught exception has fields of its own -/
namespace KT
open PySem PySem.Spec PySem.W PySem.Calls PyProof.Rows
section
variable {prog : Program} {w : World} {A : Around} {E : Value → Shared → Prop} {K : Frag} {x D : Addr} {ox od : Obj} {hp : Heap} {g : Array GenState} {d : Drawn} {t : Nat} {os : OsState}
theorem class_excD {Q : Option Value → Shared → Prop} (C : L2.ExcC K D) (X : K.In hp) (I : InstAt hp x ox D (some od)) (h : Q (some (.ref D)) ⟨hp, g, d, t + 1, os⟩) : wpAny (model prog w) A (getAttr? (.ref x) "__class__") Q E ⟨hp, g, d, t, os⟩ := by
  have L0 := I.type (M := model prog w)
  have L1 := looks_findIn (M := model prog w) X C.hg
  have L2 := looks_findIn (M := model prog w) X C.hk
  have sub : Looks (model prog w) hp (isInstance (.ref x) (.type "BaseException")) true := L0.andThen (looks_subIn X C.hs)
  have hf : findObj K D (some od) "__class__" = some (.bind (.builtin "getset_descriptor.__get__") (.builtin "object.__class__")) := by
    obtain ⟨cd, hc, _⟩ := any_some C.hd
    unfold findObj
    rw [hc, Option.bind_some, C.ha, Option.bind_some]
    simp [C.hn, C.ht]
  have L3 := looks_find (M := model prog w) X I hf
  unfold getAttr? getAttrBy? getAttrBy
  repeat (first | with_reducible refine L0.at ?_ | with_reducible refine L1.at ?_ | with_reducible refine L2.at ?_ | wp_step)
  rw [PySem.F.excAttr_ValueError.ga.bind (.ref x)]
  repeat (first | wp_step | dsimp only)
  refine (codeAny_call_builtin PySem.F.excAttr_ValueError.ga.plain PySem.F.entry_bexc_ga (@check_slot (model prog w) _ _ ⟨hp, g, d, t + 1, os⟩ "BaseException.__getattribute__" "BaseException" "__getattribute__" (.ref x) [.str "__class__" t] [] _ (by decide +kernel) (by decide +kernel) sub (PySem.F.args_bexc_ga (.ref x) (.str "__class__" t)) ?_))
  unfold Builtin.«object.__getattribute__»
  refine wpAny_bind (wpAny_of_eq (a := ((Value.ref x : Value), [Value.str "__class__" t])) (by first | rfl | (simp only [slotArgs]; rfl)) ?_)
  repeat (first | with_reducible refine L0.at ?_ | with_reducible refine L3.at ?_ | wp_step)
  refine class_get (s := ⟨hp, g, d, t + 1, os⟩) (ox := ox) (od := some od) X I C.hm ?_
  refine wpAny_pure ?_
  show wpAny _ _ (handedOut (.ref D)) _ _ _
  rw [handedOut_of (v := .ref D) rfl]
  exact wpAny_pure (wpAny_pure h)
end
theorem kit_excD {K : Frag} {x D : Addr} {ox od : Obj} (C : L2.ExcC K D) : KitX K (.ref x) (.ref D) (fun h => InstAt h x ox D (some od)) where
  ty := fun _ _ _ I => I.type
  it := fun _ _ X _ => by
    obtain ⟨cd, hc, _⟩ := any_some C.hd
    unfold clsIn at hc
    split at hc
    · rename_i ho
      intro A' Q' E' s' k q
      exact wpAny_bind (wpAny_loadPart (k _ _ (X _ _ ho)) (wpAny_pure q))
    · cases hc
  ne := fun h tp dd its n sl X htp => by
    obtain ⟨cd, hc, _⟩ := any_some C.hd
    cases hb : (Value.ref D == Value.ref tp) with
    | false => rfl
    | true =>
      have e : D = tp := Value.ref.inj (beq_iff_eq.mp hb)
      subst e
      unfold clsIn at hc
      split at hc
      · rename_i ho
        have := (X _ _ ho).symm.trans htp
        cases this
      · cases hc
  ca := fun {prog w A E Q s} X I k => by
    obtain ⟨hp, g, d, t, os⟩ := s
    exact class_excD C X I k
end KT
namespace KT
open PySem PySem.Spec PyProof.Rows L2
/-- isinstance(e, c), e the exception that the suite holds, with fields of its own -/
theorem call_isED {X : Cx} {a D dx : Addr} {oe : Obj} {pn : List (Addr × Obj)} (C : ExcC X.K D) (hz : Zc (.ref D) (some dx) oe) (hf : ∃ vs, oe.data = .fields vs) : CallR (X.suite a ((a, oe) :: pn)) (.builtin "isinstance") (fun xs H Q => (∃ fs, H dx = some (.xd fs)) ∧ rIsE X.K D a xs H Q) := by
  intro pins s σ H xs us Q I r h
  obtain ⟨⟨fs, hd⟩, c, cv, b, rfl, hcv, e, q⟩ := h
  obtain ⟨mA, hns, _⟩ : ObjOk X.prog X.w H s.heap dx (.xd fs) := I.hok dx _ hd
  obtain ⟨od, ho, _⟩ := lookIn_ns hns
  cases r with
  | cons rx rr =>
    cases rr with
    | cons rt rr =>
      cases rr
      cases rx
      have ec := hcv _ rt
      subst ec
      obtain ⟨hget, _⟩ := I.pin (a, oe) (List.mem_append.mpr (.inl List.mem_cons_self))
      obtain ⟨vs, hv⟩ := hf
      have J : PySem.W.InstAt s.heap a oe D (some od) := ⟨hget, hz.1, by unfold PySem.W.notCls; rw [hv], by rw [hz.2]; exact ho⟩
      exact PySem.W.kia_one (kit_excD C) I.kIn J e (fun z => nomatch z) fun tk => ⟨.bl b, H, I.kept (t' := tk) fun _ _ z => z, rfl, q⟩
end KT
set_option Elab.async false
set_option linter.all false
set_option maxRecDepth 100000
set_option maxHeartbeats 4000000
namespace KT
open PySem PySem.Spec PyProof.Rows L2 GxR
variable [GT]
abbrev Nk : List Str := ["_law_work", "e", "_law_kinds", "_law_words", "_law_k"]
theorem sc__law_kind : FnScope Nk ["_law_work"] (defScope s__law_kind) := ⟨rfl, rfl, rfl, by decide +kernel, rfl, by decide +kernel, by decide +kernel⟩
theorem Tx.excB {w : World} {K : PySem.W.Frag} {mg : Str → Option Value} (T : Tx w K mg) {x : Str} (h : x ∈ excs) : excB K x = true := by
  have := T.more1
  unfold ex1 at this
  simp only [Bool.and_eq_true, List.all_eq_true] at this
  first | exact this.1 x h | exact this.1.1 x h
structure ExcT (K : PySem.W.Frag) (x : Str) : Prop where
  c : ExcC K (He.ga K x)
  k : ∀ y ∈ kinds10, PySem.W.kitOne K (.ref (He.ga K x)) (.ref (He.ga K y)) = some (decide (x = y))
  v : PySem.W.kitOne K (.ref (He.ga K x)) (.type "ValueError") = some true
  t : PySem.W.exmOne K (.ref (He.ga K x)) (.ref (He.ga K "TapeError")) = some true
theorem excT {K : PySem.W.Frag} {x : Str} (h : excB K x = true) : ExcT K x := by
  unfold KT.excB at h
  simp only [Bool.and_eq_true, decide_eq_true_eq, List.all_eq_true] at h
  obtain ⟨h1, h2, h3, h4, h5, h6, h7, h8, h9, h10, h11⟩ := h
  exact ⟨⟨He.eqO_ok h1, He.eqO_ok h2, h3, h4, He.eqO_ok h5, He.eqO_ok h6, h7, h8⟩, h9, h10, h11⟩
theorem xfC {K : PySem.W.Frag} {D : Addr} (C : ExcC K D) : XfC K D := ⟨C.hg, C.hk, C.hs, C.hd⟩
abbrev ZK (P : Program) (w : World) (K : PySem.W.Frag) (mg : Str → Option Value) (base : Heap) (A : Around) (stk : List Env) (g : Addr) (cdg : Value) (s : Shared) (H : Hp) : Cx := (cxOf C8.CX0 P w K mg base Nk "_law_kind" d__law_kind.scope g cdg A stk s H C8.E0).nox
/-- the suite behind: which of the ten -/
def kB (x : Str) : List V := kinds10.map fun y => V.bl (decide (x = y))
theorem kB_one : ∀ x ∈ kinds10, ((kB x).countP fun z => eqV z (.bl true)) = 1 := by decide +kernel
theorem kB_at : ∀ x ∈ kinds10, ∃ j : Fin 10, kinds10[j.1]? = some x ∧ (kinds10.take j.1).all (fun y => !decide (x = y)) = true ∧ (x = "BadKeys" ∨ x = "BadTape" ∨ 2 ≤ j.1) := by decide +kernel
def handler : List Stmt := match d__law_kind.body with
  | [.Try _ [.ExceptHandler _ _ b _] _ _ _, _] => b
  | _ => []
theorem kind_suite {P : Program} {w : World} {K : PySem.W.Frag} {mg : Str → Option Value} {base : Heap} {A : Around} {stk : List Env} (T : Tx w K mg) (g : Addr) (cdg : Value) (s : Shared) (H0 : Hp) : ∃ t : Str → Addr → TS,
    (∀ (x : Str) (a : Addr) (oe : Obj) (pn : List (Addr × Obj)), ExcC K (He.ga K x) → Zc (.ref (He.ga K x)) none oe → (∃ vs, oe.data = .fields vs) → PSs ((ZK P w K mg base A stk g cdg s H0).suite a ((a, oe) :: pn)) handler (t x a)) ∧
    ∀ (x : Str) (a : Addr) (D : Ends) (H : Hp) (f : V), x ∈ kinds10 → x ≠ "BadKeys" → x ≠ "BadTape" → ExcT K x → (∀ H2, Kq [] H H2 → D.rt (.str x) H2) → t x a D [some f, some (.ref a), none, none, none] H := by
  refine ⟨fun x a => _, fun x a oe pn hC hz hf => (pss_cons (ps_asg (pe_lst (pa_cons (pe_callB (call_isE (X := ZK P w K mg base A stk g cdg s H0) (a := a) (pn := pn) hC hz hf) (by rfl) T.n_isinstance (by decide +kernel) (pa_cons (pv 1) (pa_cons (pe_glob (v := .ref (He.ga K "BadKeys")) rfl T.g_BadKeys rfl) pa_nil))) (pa_cons (pe_callB (call_isE (X := ZK P w K mg base A stk g cdg s H0) (a := a) (pn := pn) hC hz hf) (by rfl) T.n_isinstance (by decide +kernel) (pa_cons (pv 1) (pa_cons (pe_glob (v := .ref (He.ga K "BadTape")) rfl T.g_BadTape rfl) pa_nil))) (pa_cons (pe_callB (call_isE (X := ZK P w K mg base A stk g cdg s H0) (a := a) (pn := pn) hC hz hf) (by rfl) T.n_isinstance (by decide +kernel) (pa_cons (pv 1) (pa_cons (pe_glob (v := .ref (He.ga K "BadText")) rfl T.g_BadText rfl) pa_nil))) (pa_cons (pe_callB (call_isE (X := ZK P w K mg base A stk g cdg s H0) (a := a) (pn := pn) hC hz hf) (by rfl) T.n_isinstance (by decide +kernel) (pa_cons (pv 1) (pa_cons (pe_glob (v := .ref (He.ga K "BadKey")) rfl T.g_BadKey rfl) pa_nil))) pa_nil))))) (pg_name (i := 2) sc__law_kind.nd rfl (.inl rfl)))
      (pss_cons (ps_asg (pe_op op_cat (pv 2) (pe_lst (pa_cons (pe_callB (call_isE (X := ZK P w K mg base A stk g cdg s H0) (a := a) (pn := pn) hC hz hf) (by rfl) T.n_isinstance (by decide +kernel) (pa_cons (pv 1) (pa_cons (pe_glob (v := .ref (He.ga K "BadName")) rfl T.g_BadName rfl) pa_nil))) (pa_cons (pe_callB (call_isE (X := ZK P w K mg base A stk g cdg s H0) (a := a) (pn := pn) hC hz hf) (by rfl) T.n_isinstance (by decide +kernel) (pa_cons (pv 1) (pa_cons (pe_glob (v := .ref (He.ga K "BadNames")) rfl T.g_BadNames rfl) pa_nil))) (pa_cons (pe_callB (call_isE (X := ZK P w K mg base A stk g cdg s H0) (a := a) (pn := pn) hC hz hf) (by rfl) T.n_isinstance (by decide +kernel) (pa_cons (pv 1) (pa_cons (pe_glob (v := .ref (He.ga K "BadNumbers")) rfl T.g_BadNumbers rfl) pa_nil))) pa_nil))))) (pg_name (i := 2) sc__law_kind.nd rfl (.inl rfl)))
      (pss_cons (ps_asg (pe_op op_cat (pv 2) (pe_lst (pa_cons (pe_callB (call_isE (X := ZK P w K mg base A stk g cdg s H0) (a := a) (pn := pn) hC hz hf) (by rfl) T.n_isinstance (by decide +kernel) (pa_cons (pv 1) (pa_cons (pe_glob (v := .ref (He.ga K "Taping")) rfl T.g_Taping rfl) pa_nil))) (pa_cons (pe_callB (call_isE (X := ZK P w K mg base A stk g cdg s H0) (a := a) (pn := pn) hC hz hf) (by rfl) T.n_isinstance (by decide +kernel) (pa_cons (pv 1) (pa_cons (pe_glob (v := .ref (He.ga K "NotTaping")) rfl T.g_NotTaping rfl) pa_nil))) (pa_cons (pe_callB (call_isE (X := ZK P w K mg base A stk g cdg s H0) (a := a) (pn := pn) hC hz hf) (by rfl) T.n_isinstance (by decide +kernel) (pa_cons (pv 1) (pa_cons (pe_glob (v := .ref (He.ga K "TooLong")) rfl T.g_TooLong rfl) pa_nil))) pa_nil))))) (pg_name (i := 2) sc__law_kind.nd rfl (.inl rfl)))
      (pss_cons (ps_if (PW.pt (pw_or (pt_cmpR op_ne (pe_bmB (K := K) rfl PySem.F.plainAttrs_list PySem.F.slot_list_count PySem.F.type_list_count (mt_countB (K := K) rfl) (pv 2) (pa_cons pe_bl pa_nil)) pe_int (nomark _)) (pw_or1 (pt_not (pt_val (pe_callB (call_isE (X := ZK P w K mg base A stk g cdg s H0) (a := a) (pn := pn) hC hz hf) (by rfl) T.n_isinstance (by decide +kernel) (pa_cons (pv 1) (pa_cons (pe_bltn (v := .ty "ValueError") (by rfl) T.n_ValueError (by decide +kernel) rfl) pa_nil)))))))) (pss_one (ps_ret pe_str)) pss_nil)
      (pss_cons (ps_asg (pe_lst (pa_cons pe_str (pa_cons pe_str (pa_cons pe_str (pa_cons pe_str (pa_cons pe_str (pa_cons pe_str (pa_cons pe_str (pa_cons pe_str (pa_cons pe_str pa_nil)))))))))) (pg_name (i := 3) sc__law_kind.nd rfl (.inl rfl)))
      (pss_cons (ps_expr (pe_bmB (K := K) rfl PySem.F.plainAttrs_list PySem.F.slot_list_append PySem.F.type_list_append mt_append (pv 3) (pa_cons pe_str pa_nil)))
      (pss_cons (ps_asg (pe_bmB (K := K) rfl PySem.F.plainAttrs_list PySem.F.slot_list_index PySem.F.type_list_index (mt_indexB (K := K) rfl) (pv 2) (pa_cons pe_bl pa_nil)) (pg_name (i := 4) sc__law_kind.nd rfl (.inl rfl)))
      (pss_one (ps_ret (pe_ifExp (pt_cmpR op_gt (pv 4) pe_int (nomark _)) (pe_ix (ix_listB (K := K) rfl) (pv 3) (pv 4) (fun _ _ => rfl)) (pe_tup (pa_cons (pe_ix (ix_listB (K := K) rfl) (pv 3) (pv 4) (fun _ _ => rfl)) (pa_cons pe_never pa_nil))))))))))))), fun x a D H f hx n1 n2 hE kQ => ?_⟩
  have mem : ∀ y, y ∈ kinds10 → PySem.W.kitOne K (.ref (He.ga K x)) (.ref (He.ga K y)) = some (decide (x = y)) := hE.k
  refine ⟨_, rfl, _, _, _, rfl, (fun u r => r), mem "BadKeys" (by decide +kernel), _, rfl, _, _, _, rfl, (fun u r => r), mem "BadTape" (by decide +kernel), _, rfl, _, _, _, rfl, (fun u r => r), mem "BadText" (by decide +kernel), _, rfl, _, _, _, rfl, (fun u r => r), mem "BadKey" (by decide +kernel), line16 (by show 4 ≤ 1000000; decide), fun p1 np1 => ?_⟩
  have e1 : upd H p1 (.lst ((kB x).take 4)) = upd H p1 (.lst [V.bl (decide (x = "BadKeys")), V.bl (decide (x = "BadTape")), V.bl (decide (x = "BadText")), V.bl (decide (x = "BadKey"))]) := rfl
  rw [← e1]
  have k1 : Kq [] H (upd H p1 (.lst ((kB x).take 4))) := Kq.alloc np1
  have g1 : (upd H p1 (.lst ((kB x).take 4))) p1 = some (.lst ((kB x).take 4)) := upd_same
  generalize (upd H p1 (.lst ((kB x).take 4))) = H1 at k1 g1  ⊢
  refine ⟨_, rfl, _, rfl, _, _, _, rfl, (fun u r => r), mem "BadName" (by decide +kernel), _, rfl, _, _, _, rfl, (fun u r => r), mem "BadNames" (by decide +kernel), _, rfl, _, _, _, rfl, (fun u r => r), mem "BadNumbers" (by decide +kernel), line16 (by show 3 ≤ 1000000; decide), fun p2 np2 => ?_⟩
  have k2 : Kq [] H1 (upd H1 p2 (.lst ([V.bl (decide (x = "BadName")), V.bl (decide (x = "BadNames")), V.bl (decide (x = "BadNumbers"))]))) := Kq.alloc np2
  have g2 : (upd H1 p2 (.lst ([V.bl (decide (x = "BadName")), V.bl (decide (x = "BadNames")), V.bl (decide (x = "BadNumbers"))]))) p2 = some (.lst (((kB x).drop 4).take 3)) := upd_same
  have g1 := k2.get g1
  generalize (upd H1 p2 (.lst ([V.bl (decide (x = "BadName")), V.bl (decide (x = "BadNames")), V.bl (decide (x = "BadNumbers"))]))) = H2 at k2 g2 g1 ⊢
  refine ⟨p1, p2, _, _, rfl, rfl, g1, g2, line16 (by show 7 ≤ 1000000; decide), fun p3 np3 => ?_⟩
  have k3 : Kq [] H2 (upd H2 p3 (.lst ((kB x).take 4 ++ ((kB x).drop 4).take 3))) := Kq.alloc np3
  have g3 : (upd H2 p3 (.lst ((kB x).take 4 ++ ((kB x).drop 4).take 3))) p3 = some (.lst ((kB x).take 7)) := upd_same
  generalize (upd H2 p3 (.lst ((kB x).take 4 ++ ((kB x).drop 4).take 3))) = H3 at k3 g3  ⊢
  refine ⟨_, rfl, _, rfl, _, _, _, rfl, (fun u r => r), mem "Taping" (by decide +kernel), _, rfl, _, _, _, rfl, (fun u r => r), mem "NotTaping" (by decide +kernel), _, rfl, _, _, _, rfl, (fun u r => r), mem "TooLong" (by decide +kernel), line16 (by show 3 ≤ 1000000; decide), fun p4 np4 => ?_⟩
  have k4 : Kq [] H3 (upd H3 p4 (.lst ([V.bl (decide (x = "Taping")), V.bl (decide (x = "NotTaping")), V.bl (decide (x = "TooLong"))]))) := Kq.alloc np4
  have g4 : (upd H3 p4 (.lst ([V.bl (decide (x = "Taping")), V.bl (decide (x = "NotTaping")), V.bl (decide (x = "TooLong"))]))) p4 = some (.lst ((kB x).drop 7)) := upd_same
  have g3 := k4.get g3
  generalize (upd H3 p4 (.lst ([V.bl (decide (x = "Taping")), V.bl (decide (x = "NotTaping")), V.bl (decide (x = "TooLong"))]))) = H4 at k4 g4 g3 ⊢
  refine ⟨p3, p4, _, _, rfl, rfl, g3, g4, line16 (by show 10 ≤ 1000000; decide), fun p5 np5 => ?_⟩
  have k5 : Kq [] H4 (upd H4 p5 (.lst ((kB x).take 7 ++ (kB x).drop 7))) := Kq.alloc np5
  have g5 : (upd H4 p5 (.lst ((kB x).take 7 ++ (kB x).drop 7))) p5 = some (.lst (kB x)) := upd_same
  generalize (upd H4 p5 (.lst ((kB x).take 7 ++ (kB x).drop 7))) = H5 at k5 g5  ⊢
  have kk5 : Kq [] H H5 := (((k1.trans k2).trans k3).trans k4).trans k5
  have fl : (kB x).all flatV = true := rfl
  refine ⟨_, rfl, .inl ⟨rfl, _, SqL.of g5⟩, p5, kB x, .bl true, rfl, rfl, SqL.of g5, rfl, fl, rfl, _, rfl, iteN (fun z => absurd (by rw [kB_one x hx]; rfl) z) (fun _ => ?_)⟩
  refine ⟨_, rfl, .ty "ValueError", .type "ValueError", true, rfl, (fun u r => r), hE.v, _, rfl, iteF ?_⟩
  refine ⟨line16 (by show 9 ≤ 1000000; decide), fun p6 np6 => ?_⟩
  have nd6 := kk5.fr p6 np6
  have n56 := ne_of_none g5 np6
  have k6 : Kq [] H5 (upd H5 p6 (.lst ([V.str "BadKeys", V.str "BadTape", V.str "BadText", V.str "BadKey", V.str "BadName", V.str "BadNames", V.str "BadNumbers", V.str "Taping", V.str "NotTaping"]))) := Kq.alloc np6
  have g6 : (upd H5 p6 (.lst ([V.str "BadKeys", V.str "BadTape", V.str "BadText", V.str "BadKey", V.str "BadName", V.str "BadNames", V.str "BadNumbers", V.str "Taping", V.str "NotTaping"]))) p6 = some (.lst ([V.str "BadKeys", V.str "BadTape", V.str "BadText", V.str "BadKey", V.str "BadName", V.str "BadNames", V.str "BadNumbers", V.str "Taping", V.str "NotTaping"])) := upd_same
  have g5 := k6.get g5
  generalize (upd H5 p6 (.lst ([V.str "BadKeys", V.str "BadTape", V.str "BadText", V.str "BadKey", V.str "BadName", V.str "BadNames", V.str "BadNumbers", V.str "Taping", V.str "NotTaping"]))) = H6 at k6 g6 g5 ⊢
  have kk6 := kk5.trans k6
  refine ⟨_, rfl, .inl ⟨rfl, _, SqL.of g6⟩, p6, _, _, rfl, rfl, g6, small1000 (by show 9 ≤ 1000; decide), ?_⟩
  have k7 : Kq [] H (upd H6 p6 (.lst ([V.str "BadKeys", V.str "BadTape", V.str "BadText", V.str "BadKey", V.str "BadName", V.str "BadNames", V.str "BadNumbers", V.str "Taping", V.str "NotTaping"] ++ [V.str "TooLong"]))) := kk6.writeF nd6 g6
  have g7 : (upd H6 p6 (.lst ([V.str "BadKeys", V.str "BadTape", V.str "BadText", V.str "BadKey", V.str "BadName", V.str "BadNames", V.str "BadNumbers", V.str "Taping", V.str "NotTaping"] ++ [V.str "TooLong"]))) p6 = some (.lst (kinds10.map V.str)) := upd_same
  have g5b : (upd H6 p6 (.lst ([V.str "BadKeys", V.str "BadTape", V.str "BadText", V.str "BadKey", V.str "BadName", V.str "BadNames", V.str "BadNumbers", V.str "Taping", V.str "NotTaping"] ++ [V.str "TooLong"]))) p5 = some (.lst (kB x)) := (upd_ne n56).trans g5
  generalize (upd H6 p6 (.lst ([V.str "BadKeys", V.str "BadTape", V.str "BadText", V.str "BadKey", V.str "BadName", V.str "BadNames", V.str "BadNumbers", V.str "Taping", V.str "NotTaping"] ++ [V.str "TooLong"]))) = H7 at k7 g7 g5b ⊢
  obtain ⟨j, ej, ea, e2⟩ := kB_at x hx
  have hj2 : 2 ≤ j.1 := (e2.resolve_left n1).resolve_left n2
  have hz : (kB x)[j.1]? = some (.bl true) := by
    unfold kB
    rw [List.getElem?_map, ej]
    show some (V.bl (decide (x = x))) = _
    rw [decide_eq_true rfl]
  have hno' : ∀ (m : Nat) (z : V), m < j.1 → (kB x)[m]? = some z → eqV z (.bl true) = false := fun m z hm e => by
    unfold kB at e
    rw [List.getElem?_map] at e
    obtain ⟨y, ey, rfl⟩ := Option.map_eq_some_iff.mp e
    have hy : y ∈ kinds10.take j.1 := List.mem_iff_getElem?.mpr ⟨m, by rw [List.getElem?_take_of_lt hm]; exact ey⟩
    have := List.all_eq_true.mp ea y hy
    simp only [Bool.not_eq_true', decide_eq_false_iff_not] at this
    rw [decide_eq_false this]; rfl
  refine ⟨_, rfl, .inl ⟨rfl, _, SqL.of g5b⟩, p5, kB x, .bl true, j.1, .bl true, rfl, rfl, SqL.of g5b, rfl, fl, hz, rfl, hno', ?_⟩
  refine ⟨_, rfl, _, _, rfl, rfl, _, rfl, iteD (fun _ => ?_) (fun h => absurd (show (1 : Int) < (j.1 : Int) by omega) h)⟩
  refine ⟨_, rfl, _, rfl, p6, _, _, .str x, rfl, rfl, SqL.of g7, at_of (j := j.1) rfl (by rw [List.getElem?_map, ej]; rfl), kQ _ k7⟩
theorem kind_suiteK {P : Program} {w : World} {K : PySem.W.Frag} {mg : Str → Option Value} {base : Heap} {A : Around} {stk : List Env} (T : Tx w K mg) (hno : PySem.W.findIn K (.ref (He.ga K "BadKeys")) "at" = some none) (g : Addr) (cdg : Value) (s : Shared) (H0 : Hp) : ∃ t : Addr → Addr → TS,
    (∀ (a dx : Addr) (oe : Obj) (pn : List (Addr × Obj)), ExcC K (He.ga K "BadKeys") → Zc (.ref (He.ga K "BadKeys")) (some dx) oe → (∃ vs, oe.data = .fields vs) → PSs ((ZK P w K mg base A stk g cdg s H0).suite a ((a, oe) :: pn)) handler (t a dx)) ∧
    ∀ (a dx : Addr) (D : Ends) (H : Hp) (f : V) (i : Int), ExcT K "BadKeys" → H dx = some (.xd [("at", .int i)]) → (∀ p H2, Kq [] H H2 → H2 p = some (.tup [.str "BadKeys", .int i]) → D.rt (.ref p) H2) → t a dx D [some f, some (.ref a), none, none, none] H := by
  have key : ∀ x : Str, x = "BadKeys" → x ∈ kinds10 ∧ ∀ j : Fin 10, kinds10[j.1]? = some x → j.1 = 0 := fun x e => by subst e; exact ⟨by decide +kernel, by decide +kernel⟩
  have hall : ∀ x : Str, x = "BadKeys" → ∃ t : Addr → Addr → TS, (∀ (a dx : Addr) (oe : Obj) (pn : List (Addr × Obj)), ExcC K (He.ga K x) → PySem.W.findIn K (.ref (He.ga K x)) "at" = some none → Zc (.ref (He.ga K x)) (some dx) oe → (∃ vs, oe.data = .fields vs) → PSs ((ZK P w K mg base A stk g cdg s H0).suite a ((a, oe) :: pn)) handler (t a dx)) ∧
    ∀ (a dx : Addr) (D : Ends) (H : Hp) (f : V) (i : Int), ExcT K x → H dx = some (.xd [("at", .int i)]) → (∀ p H2, Kq [] H H2 → H2 p = some (.tup [.str x, .int i]) → D.rt (.ref p) H2) → t a dx D [some f, some (.ref a), none, none, none] H := by
   intro x ex
   obtain ⟨hx, hjx⟩ := key x ex
   clear key ex
   refine ⟨fun a dx => _, fun a dx oe pn hC hno hz hf => (pss_cons (ps_asg (pe_lst (pa_cons (pe_callB (call_isED (X := ZK P w K mg base A stk g cdg s H0) (a := a) (pn := pn) hC hz hf) (by rfl) T.n_isinstance (by decide +kernel) (pa_cons (pv 1) (pa_cons (pe_glob (v := .ref (He.ga K "BadKeys")) rfl T.g_BadKeys rfl) pa_nil))) (pa_cons (pe_callB (call_isED (X := ZK P w K mg base A stk g cdg s H0) (a := a) (pn := pn) hC hz hf) (by rfl) T.n_isinstance (by decide +kernel) (pa_cons (pv 1) (pa_cons (pe_glob (v := .ref (He.ga K "BadTape")) rfl T.g_BadTape rfl) pa_nil))) (pa_cons (pe_callB (call_isED (X := ZK P w K mg base A stk g cdg s H0) (a := a) (pn := pn) hC hz hf) (by rfl) T.n_isinstance (by decide +kernel) (pa_cons (pv 1) (pa_cons (pe_glob (v := .ref (He.ga K "BadText")) rfl T.g_BadText rfl) pa_nil))) (pa_cons (pe_callB (call_isED (X := ZK P w K mg base A stk g cdg s H0) (a := a) (pn := pn) hC hz hf) (by rfl) T.n_isinstance (by decide +kernel) (pa_cons (pv 1) (pa_cons (pe_glob (v := .ref (He.ga K "BadKey")) rfl T.g_BadKey rfl) pa_nil))) pa_nil))))) (pg_name (i := 2) sc__law_kind.nd rfl (.inl rfl)))
      (pss_cons (ps_asg (pe_op op_cat (pv 2) (pe_lst (pa_cons (pe_callB (call_isED (X := ZK P w K mg base A stk g cdg s H0) (a := a) (pn := pn) hC hz hf) (by rfl) T.n_isinstance (by decide +kernel) (pa_cons (pv 1) (pa_cons (pe_glob (v := .ref (He.ga K "BadName")) rfl T.g_BadName rfl) pa_nil))) (pa_cons (pe_callB (call_isED (X := ZK P w K mg base A stk g cdg s H0) (a := a) (pn := pn) hC hz hf) (by rfl) T.n_isinstance (by decide +kernel) (pa_cons (pv 1) (pa_cons (pe_glob (v := .ref (He.ga K "BadNames")) rfl T.g_BadNames rfl) pa_nil))) (pa_cons (pe_callB (call_isED (X := ZK P w K mg base A stk g cdg s H0) (a := a) (pn := pn) hC hz hf) (by rfl) T.n_isinstance (by decide +kernel) (pa_cons (pv 1) (pa_cons (pe_glob (v := .ref (He.ga K "BadNumbers")) rfl T.g_BadNumbers rfl) pa_nil))) pa_nil))))) (pg_name (i := 2) sc__law_kind.nd rfl (.inl rfl)))
      (pss_cons (ps_asg (pe_op op_cat (pv 2) (pe_lst (pa_cons (pe_callB (call_isED (X := ZK P w K mg base A stk g cdg s H0) (a := a) (pn := pn) hC hz hf) (by rfl) T.n_isinstance (by decide +kernel) (pa_cons (pv 1) (pa_cons (pe_glob (v := .ref (He.ga K "Taping")) rfl T.g_Taping rfl) pa_nil))) (pa_cons (pe_callB (call_isED (X := ZK P w K mg base A stk g cdg s H0) (a := a) (pn := pn) hC hz hf) (by rfl) T.n_isinstance (by decide +kernel) (pa_cons (pv 1) (pa_cons (pe_glob (v := .ref (He.ga K "NotTaping")) rfl T.g_NotTaping rfl) pa_nil))) (pa_cons (pe_callB (call_isED (X := ZK P w K mg base A stk g cdg s H0) (a := a) (pn := pn) hC hz hf) (by rfl) T.n_isinstance (by decide +kernel) (pa_cons (pv 1) (pa_cons (pe_glob (v := .ref (He.ga K "TooLong")) rfl T.g_TooLong rfl) pa_nil))) pa_nil))))) (pg_name (i := 2) sc__law_kind.nd rfl (.inl rfl)))
      (pss_cons (ps_if (PW.pt (pw_or (pt_cmpR op_ne (pe_bmB (K := K) rfl PySem.F.plainAttrs_list PySem.F.slot_list_count PySem.F.type_list_count (mt_countB (K := K) rfl) (pv 2) (pa_cons pe_bl pa_nil)) pe_int (nomark _)) (pw_or1 (pt_not (pt_val (pe_callB (call_isED (X := ZK P w K mg base A stk g cdg s H0) (a := a) (pn := pn) hC hz hf) (by rfl) T.n_isinstance (by decide +kernel) (pa_cons (pv 1) (pa_cons (pe_bltn (v := .ty "ValueError") (by rfl) T.n_ValueError (by decide +kernel) rfl) pa_nil)))))))) (pss_one (ps_ret pe_str)) pss_nil)
      (pss_cons (ps_asg (pe_lst (pa_cons pe_str (pa_cons pe_str (pa_cons pe_str (pa_cons pe_str (pa_cons pe_str (pa_cons pe_str (pa_cons pe_str (pa_cons pe_str (pa_cons pe_str pa_nil)))))))))) (pg_name (i := 3) sc__law_kind.nd rfl (.inl rfl)))
      (pss_cons (ps_expr (pe_bmB (K := K) rfl PySem.F.plainAttrs_list PySem.F.slot_list_append PySem.F.type_list_append mt_append (pv 3) (pa_cons pe_str pa_nil)))
      (pss_cons (ps_asg (pe_bmB (K := K) rfl PySem.F.plainAttrs_list PySem.F.slot_list_index PySem.F.type_list_index (mt_indexB (K := K) rfl) (pv 2) (pa_cons pe_bl pa_nil)) (pg_name (i := 4) sc__law_kind.nd rfl (.inl rfl)))
      (pss_one (ps_ret (pe_ifExp (pt_cmpR op_gt (pv 4) pe_int (nomark _)) (pe_ix (ix_listB (K := K) rfl) (pv 3) (pv 4) (fun _ _ => rfl)) (pe_tup (pa_cons (pe_ix (ix_listB (K := K) rfl) (pv 3) (pv 4) (fun _ _ => rfl)) (pa_cons (pe_ifExp (pt_cmpR op_eq (pv 4) pe_int (nomark _)) (pe_xf (X := ZK P w K mg base A stk g cdg s H0) (a := a) (pn := pn) (xfC hC) hno hz hf (pv 1)) pe_never) pa_nil))))))))))))), fun a dx D H f i hE hd0 kQ => ?_⟩
   have mem : ∀ y, y ∈ kinds10 → PySem.W.kitOne K (.ref (He.ga K x)) (.ref (He.ga K y)) = some (decide (x = y)) := hE.k
   refine ⟨_, rfl, ⟨_, hd0⟩, _, _, _, rfl, (fun u r => r), mem "BadKeys" (by decide +kernel), _, rfl, ⟨_, hd0⟩, _, _, _, rfl, (fun u r => r), mem "BadTape" (by decide +kernel), _, rfl, ⟨_, hd0⟩, _, _, _, rfl, (fun u r => r), mem "BadText" (by decide +kernel), _, rfl, ⟨_, hd0⟩, _, _, _, rfl, (fun u r => r), mem "BadKey" (by decide +kernel), line16 (by show 4 ≤ 1000000; decide), fun p1 np1 => ?_⟩
   have e1 : upd H p1 (.lst ((kB x).take 4)) = upd H p1 (.lst [V.bl (decide (x = "BadKeys")), V.bl (decide (x = "BadTape")), V.bl (decide (x = "BadText")), V.bl (decide (x = "BadKey"))]) := rfl
   rw [← e1]
   have k1 : Kq [] H (upd H p1 (.lst ((kB x).take 4))) := Kq.alloc np1
   have g1 : (upd H p1 (.lst ((kB x).take 4))) p1 = some (.lst ((kB x).take 4)) := upd_same
   have hd1 := k1.get hd0
   generalize (upd H p1 (.lst ((kB x).take 4))) = H1 at k1 g1  hd1 ⊢
   refine ⟨_, rfl, _, rfl, ⟨_, hd1⟩, _, _, _, rfl, (fun u r => r), mem "BadName" (by decide +kernel), _, rfl, ⟨_, hd1⟩, _, _, _, rfl, (fun u r => r), mem "BadNames" (by decide +kernel), _, rfl, ⟨_, hd1⟩, _, _, _, rfl, (fun u r => r), mem "BadNumbers" (by decide +kernel), line16 (by show 3 ≤ 1000000; decide), fun p2 np2 => ?_⟩
   have k2 : Kq [] H1 (upd H1 p2 (.lst ([V.bl (decide (x = "BadName")), V.bl (decide (x = "BadNames")), V.bl (decide (x = "BadNumbers"))]))) := Kq.alloc np2
   have g2 : (upd H1 p2 (.lst ([V.bl (decide (x = "BadName")), V.bl (decide (x = "BadNames")), V.bl (decide (x = "BadNumbers"))]))) p2 = some (.lst (((kB x).drop 4).take 3)) := upd_same
   have g1 := k2.get g1
   have hd2 := k2.get hd1
   generalize (upd H1 p2 (.lst ([V.bl (decide (x = "BadName")), V.bl (decide (x = "BadNames")), V.bl (decide (x = "BadNumbers"))]))) = H2 at k2 g2 g1 hd2 ⊢
   refine ⟨p1, p2, _, _, rfl, rfl, g1, g2, line16 (by show 7 ≤ 1000000; decide), fun p3 np3 => ?_⟩
   have k3 : Kq [] H2 (upd H2 p3 (.lst ((kB x).take 4 ++ ((kB x).drop 4).take 3))) := Kq.alloc np3
   have g3 : (upd H2 p3 (.lst ((kB x).take 4 ++ ((kB x).drop 4).take 3))) p3 = some (.lst ((kB x).take 7)) := upd_same
   have hd3 := k3.get hd2
   generalize (upd H2 p3 (.lst ((kB x).take 4 ++ ((kB x).drop 4).take 3))) = H3 at k3 g3  hd3 ⊢
   refine ⟨_, rfl, _, rfl, ⟨_, hd3⟩, _, _, _, rfl, (fun u r => r), mem "Taping" (by decide +kernel), _, rfl, ⟨_, hd3⟩, _, _, _, rfl, (fun u r => r), mem "NotTaping" (by decide +kernel), _, rfl, ⟨_, hd3⟩, _, _, _, rfl, (fun u r => r), mem "TooLong" (by decide +kernel), line16 (by show 3 ≤ 1000000; decide), fun p4 np4 => ?_⟩
   have k4 : Kq [] H3 (upd H3 p4 (.lst ([V.bl (decide (x = "Taping")), V.bl (decide (x = "NotTaping")), V.bl (decide (x = "TooLong"))]))) := Kq.alloc np4
   have g4 : (upd H3 p4 (.lst ([V.bl (decide (x = "Taping")), V.bl (decide (x = "NotTaping")), V.bl (decide (x = "TooLong"))]))) p4 = some (.lst ((kB x).drop 7)) := upd_same
   have g3 := k4.get g3
   have hd4 := k4.get hd3
   generalize (upd H3 p4 (.lst ([V.bl (decide (x = "Taping")), V.bl (decide (x = "NotTaping")), V.bl (decide (x = "TooLong"))]))) = H4 at k4 g4 g3 hd4 ⊢
   refine ⟨p3, p4, _, _, rfl, rfl, g3, g4, line16 (by show 10 ≤ 1000000; decide), fun p5 np5 => ?_⟩
   have k5 : Kq [] H4 (upd H4 p5 (.lst ((kB x).take 7 ++ (kB x).drop 7))) := Kq.alloc np5
   have g5 : (upd H4 p5 (.lst ((kB x).take 7 ++ (kB x).drop 7))) p5 = some (.lst (kB x)) := upd_same
   have hd5 := k5.get hd4
   generalize (upd H4 p5 (.lst ((kB x).take 7 ++ (kB x).drop 7))) = H5 at k5 g5  hd5 ⊢
   have kk5 : Kq [] H H5 := (((k1.trans k2).trans k3).trans k4).trans k5
   have fl : (kB x).all flatV = true := rfl
   refine ⟨_, rfl, .inl ⟨rfl, _, SqL.of g5⟩, p5, kB x, .bl true, rfl, rfl, SqL.of g5, rfl, fl, rfl, _, rfl, iteN (fun z => absurd (by rw [kB_one x hx]; rfl) z) (fun _ => ?_)⟩
   refine ⟨_, rfl, ⟨_, hd5⟩, .ty "ValueError", .type "ValueError", true, rfl, (fun u r => r), hE.v, _, rfl, iteF ?_⟩
   refine ⟨line16 (by show 9 ≤ 1000000; decide), fun p6 np6 => ?_⟩
   have nd6 := kk5.fr p6 np6
   have n56 := ne_of_none g5 np6
   have k6 : Kq [] H5 (upd H5 p6 (.lst ([V.str "BadKeys", V.str "BadTape", V.str "BadText", V.str "BadKey", V.str "BadName", V.str "BadNames", V.str "BadNumbers", V.str "Taping", V.str "NotTaping"]))) := Kq.alloc np6
   have g6 : (upd H5 p6 (.lst ([V.str "BadKeys", V.str "BadTape", V.str "BadText", V.str "BadKey", V.str "BadName", V.str "BadNames", V.str "BadNumbers", V.str "Taping", V.str "NotTaping"]))) p6 = some (.lst ([V.str "BadKeys", V.str "BadTape", V.str "BadText", V.str "BadKey", V.str "BadName", V.str "BadNames", V.str "BadNumbers", V.str "Taping", V.str "NotTaping"])) := upd_same
   have g5 := k6.get g5
   have hd6 := k6.get hd5
   generalize (upd H5 p6 (.lst ([V.str "BadKeys", V.str "BadTape", V.str "BadText", V.str "BadKey", V.str "BadName", V.str "BadNames", V.str "BadNumbers", V.str "Taping", V.str "NotTaping"]))) = H6 at k6 g6 g5 hd6 ⊢
   have kk6 := kk5.trans k6
   refine ⟨_, rfl, .inl ⟨rfl, _, SqL.of g6⟩, p6, _, _, rfl, rfl, g6, small1000 (by show 9 ≤ 1000; decide), ?_⟩
   have k7 : Kq [] H (upd H6 p6 (.lst ([V.str "BadKeys", V.str "BadTape", V.str "BadText", V.str "BadKey", V.str "BadName", V.str "BadNames", V.str "BadNumbers", V.str "Taping", V.str "NotTaping"] ++ [V.str "TooLong"]))) := kk6.writeF nd6 g6
   have g7 : (upd H6 p6 (.lst ([V.str "BadKeys", V.str "BadTape", V.str "BadText", V.str "BadKey", V.str "BadName", V.str "BadNames", V.str "BadNumbers", V.str "Taping", V.str "NotTaping"] ++ [V.str "TooLong"]))) p6 = some (.lst (kinds10.map V.str)) := upd_same
   have g5b : (upd H6 p6 (.lst ([V.str "BadKeys", V.str "BadTape", V.str "BadText", V.str "BadKey", V.str "BadName", V.str "BadNames", V.str "BadNumbers", V.str "Taping", V.str "NotTaping"] ++ [V.str "TooLong"]))) p5 = some (.lst (kB x)) := (upd_ne n56).trans g5
   generalize (upd H6 p6 (.lst ([V.str "BadKeys", V.str "BadTape", V.str "BadText", V.str "BadKey", V.str "BadName", V.str "BadNames", V.str "BadNumbers", V.str "Taping", V.str "NotTaping"] ++ [V.str "TooLong"]))) = H7 at k7 g7 g5b ⊢
   have hd7 := k7.get hd0
   obtain ⟨j, ej, ea, e2⟩ := kB_at x hx
   have hz : (kB x)[j.1]? = some (.bl true) := by
     unfold kB
     rw [List.getElem?_map, ej]
     show some (V.bl (decide (x = x))) = _
     rw [decide_eq_true rfl]
   have hno' : ∀ (m : Nat) (z : V), m < j.1 → (kB x)[m]? = some z → eqV z (.bl true) = false := fun m z hm e => by
     unfold kB at e
     rw [List.getElem?_map] at e
     obtain ⟨y, ey, rfl⟩ := Option.map_eq_some_iff.mp e
     have hy : y ∈ kinds10.take j.1 := List.mem_iff_getElem?.mpr ⟨m, by rw [List.getElem?_take_of_lt hm]; exact ey⟩
     have := List.all_eq_true.mp ea y hy
     simp only [Bool.not_eq_true', decide_eq_false_iff_not] at this
     rw [decide_eq_false this]; rfl
   have hj : j.1 = 0 := hjx j ej
   refine ⟨_, rfl, .inl ⟨rfl, _, SqL.of g5b⟩, p5, kB x, .bl true, j.1, .bl true, rfl, rfl, SqL.of g5b, rfl, fl, hz, rfl, hno', ?_⟩
   refine ⟨_, rfl, _, _, rfl, rfl, _, rfl, iteD (fun h => absurd h (by omega)) (fun _ => ?_)⟩
   refine ⟨_, rfl, _, rfl, p6, _, _, .str x, rfl, rfl, SqL.of g7, at_of (j := j.1) rfl (by rw [List.getElem?_map, ej]; rfl), _, rfl, rfl, _, rfl, ?_⟩
   refine iteD (fun _ => ?_) (fun h => absurd (by rw [hj]; rfl) h)
   refine ⟨_, rfl, rfl, rfl, dx, _, .int i, rfl, hd7, by simp only [List.lookup_cons, beq_self_eq_true], line16 (by show 2 ≤ 1000000; decide), fun q nq => ?_⟩
   exact kQ q _ (k7.trans (Kq.alloc nq)) upd_same
  obtain ⟨t, h1, h2⟩ := hall "BadKeys" rfl
  exact ⟨t, fun a dx oe pn hC hz hf => h1 a dx oe pn hC hno hz hf, h2⟩
theorem kind_suiteT {P : Program} {w : World} {K : PySem.W.Frag} {mg : Str → Option Value} {base : Heap} {A : Around} {stk : List Env} (T : Tx w K mg) (hno : PySem.W.findIn K (.ref (He.ga K "BadTape")) "line" = some none) (g : Addr) (cdg : Value) (s : Shared) (H0 : Hp) : ∃ t : Addr → Addr → TS,
    (∀ (a dx : Addr) (oe : Obj) (pn : List (Addr × Obj)), ExcC K (He.ga K "BadTape") → Zc (.ref (He.ga K "BadTape")) (some dx) oe → (∃ vs, oe.data = .fields vs) → PSs ((ZK P w K mg base A stk g cdg s H0).suite a ((a, oe) :: pn)) handler (t a dx)) ∧
    ∀ (a dx : Addr) (D : Ends) (H : Hp) (f : V) (i : Int), ExcT K "BadTape" → H dx = some (.xd [("line", .int i)]) → (∀ p H2, Kq [] H H2 → H2 p = some (.tup [.str "BadTape", .int i]) → D.rt (.ref p) H2) → t a dx D [some f, some (.ref a), none, none, none] H := by
  have key : ∀ x : Str, x = "BadTape" → x ∈ kinds10 ∧ ∀ j : Fin 10, kinds10[j.1]? = some x → j.1 = 1 := fun x e => by subst e; exact ⟨by decide +kernel, by decide +kernel⟩
  have hall : ∀ x : Str, x = "BadTape" → ∃ t : Addr → Addr → TS, (∀ (a dx : Addr) (oe : Obj) (pn : List (Addr × Obj)), ExcC K (He.ga K x) → PySem.W.findIn K (.ref (He.ga K x)) "line" = some none → Zc (.ref (He.ga K x)) (some dx) oe → (∃ vs, oe.data = .fields vs) → PSs ((ZK P w K mg base A stk g cdg s H0).suite a ((a, oe) :: pn)) handler (t a dx)) ∧
    ∀ (a dx : Addr) (D : Ends) (H : Hp) (f : V) (i : Int), ExcT K x → H dx = some (.xd [("line", .int i)]) → (∀ p H2, Kq [] H H2 → H2 p = some (.tup [.str x, .int i]) → D.rt (.ref p) H2) → t a dx D [some f, some (.ref a), none, none, none] H := by
   intro x ex
   obtain ⟨hx, hjx⟩ := key x ex
   clear key ex
   refine ⟨fun a dx => _, fun a dx oe pn hC hno hz hf => (pss_cons (ps_asg (pe_lst (pa_cons (pe_callB (call_isED (X := ZK P w K mg base A stk g cdg s H0) (a := a) (pn := pn) hC hz hf) (by rfl) T.n_isinstance (by decide +kernel) (pa_cons (pv 1) (pa_cons (pe_glob (v := .ref (He.ga K "BadKeys")) rfl T.g_BadKeys rfl) pa_nil))) (pa_cons (pe_callB (call_isED (X := ZK P w K mg base A stk g cdg s H0) (a := a) (pn := pn) hC hz hf) (by rfl) T.n_isinstance (by decide +kernel) (pa_cons (pv 1) (pa_cons (pe_glob (v := .ref (He.ga K "BadTape")) rfl T.g_BadTape rfl) pa_nil))) (pa_cons (pe_callB (call_isED (X := ZK P w K mg base A stk g cdg s H0) (a := a) (pn := pn) hC hz hf) (by rfl) T.n_isinstance (by decide +kernel) (pa_cons (pv 1) (pa_cons (pe_glob (v := .ref (He.ga K "BadText")) rfl T.g_BadText rfl) pa_nil))) (pa_cons (pe_callB (call_isED (X := ZK P w K mg base A stk g cdg s H0) (a := a) (pn := pn) hC hz hf) (by rfl) T.n_isinstance (by decide +kernel) (pa_cons (pv 1) (pa_cons (pe_glob (v := .ref (He.ga K "BadKey")) rfl T.g_BadKey rfl) pa_nil))) pa_nil))))) (pg_name (i := 2) sc__law_kind.nd rfl (.inl rfl)))
      (pss_cons (ps_asg (pe_op op_cat (pv 2) (pe_lst (pa_cons (pe_callB (call_isED (X := ZK P w K mg base A stk g cdg s H0) (a := a) (pn := pn) hC hz hf) (by rfl) T.n_isinstance (by decide +kernel) (pa_cons (pv 1) (pa_cons (pe_glob (v := .ref (He.ga K "BadName")) rfl T.g_BadName rfl) pa_nil))) (pa_cons (pe_callB (call_isED (X := ZK P w K mg base A stk g cdg s H0) (a := a) (pn := pn) hC hz hf) (by rfl) T.n_isinstance (by decide +kernel) (pa_cons (pv 1) (pa_cons (pe_glob (v := .ref (He.ga K "BadNames")) rfl T.g_BadNames rfl) pa_nil))) (pa_cons (pe_callB (call_isED (X := ZK P w K mg base A stk g cdg s H0) (a := a) (pn := pn) hC hz hf) (by rfl) T.n_isinstance (by decide +kernel) (pa_cons (pv 1) (pa_cons (pe_glob (v := .ref (He.ga K "BadNumbers")) rfl T.g_BadNumbers rfl) pa_nil))) pa_nil))))) (pg_name (i := 2) sc__law_kind.nd rfl (.inl rfl)))
      (pss_cons (ps_asg (pe_op op_cat (pv 2) (pe_lst (pa_cons (pe_callB (call_isED (X := ZK P w K mg base A stk g cdg s H0) (a := a) (pn := pn) hC hz hf) (by rfl) T.n_isinstance (by decide +kernel) (pa_cons (pv 1) (pa_cons (pe_glob (v := .ref (He.ga K "Taping")) rfl T.g_Taping rfl) pa_nil))) (pa_cons (pe_callB (call_isED (X := ZK P w K mg base A stk g cdg s H0) (a := a) (pn := pn) hC hz hf) (by rfl) T.n_isinstance (by decide +kernel) (pa_cons (pv 1) (pa_cons (pe_glob (v := .ref (He.ga K "NotTaping")) rfl T.g_NotTaping rfl) pa_nil))) (pa_cons (pe_callB (call_isED (X := ZK P w K mg base A stk g cdg s H0) (a := a) (pn := pn) hC hz hf) (by rfl) T.n_isinstance (by decide +kernel) (pa_cons (pv 1) (pa_cons (pe_glob (v := .ref (He.ga K "TooLong")) rfl T.g_TooLong rfl) pa_nil))) pa_nil))))) (pg_name (i := 2) sc__law_kind.nd rfl (.inl rfl)))
      (pss_cons (ps_if (PW.pt (pw_or (pt_cmpR op_ne (pe_bmB (K := K) rfl PySem.F.plainAttrs_list PySem.F.slot_list_count PySem.F.type_list_count (mt_countB (K := K) rfl) (pv 2) (pa_cons pe_bl pa_nil)) pe_int (nomark _)) (pw_or1 (pt_not (pt_val (pe_callB (call_isED (X := ZK P w K mg base A stk g cdg s H0) (a := a) (pn := pn) hC hz hf) (by rfl) T.n_isinstance (by decide +kernel) (pa_cons (pv 1) (pa_cons (pe_bltn (v := .ty "ValueError") (by rfl) T.n_ValueError (by decide +kernel) rfl) pa_nil)))))))) (pss_one (ps_ret pe_str)) pss_nil)
      (pss_cons (ps_asg (pe_lst (pa_cons pe_str (pa_cons pe_str (pa_cons pe_str (pa_cons pe_str (pa_cons pe_str (pa_cons pe_str (pa_cons pe_str (pa_cons pe_str (pa_cons pe_str pa_nil)))))))))) (pg_name (i := 3) sc__law_kind.nd rfl (.inl rfl)))
      (pss_cons (ps_expr (pe_bmB (K := K) rfl PySem.F.plainAttrs_list PySem.F.slot_list_append PySem.F.type_list_append mt_append (pv 3) (pa_cons pe_str pa_nil)))
      (pss_cons (ps_asg (pe_bmB (K := K) rfl PySem.F.plainAttrs_list PySem.F.slot_list_index PySem.F.type_list_index (mt_indexB (K := K) rfl) (pv 2) (pa_cons pe_bl pa_nil)) (pg_name (i := 4) sc__law_kind.nd rfl (.inl rfl)))
      (pss_one (ps_ret (pe_ifExp (pt_cmpR op_gt (pv 4) pe_int (nomark _)) (pe_ix (ix_listB (K := K) rfl) (pv 3) (pv 4) (fun _ _ => rfl)) (pe_tup (pa_cons (pe_ix (ix_listB (K := K) rfl) (pv 3) (pv 4) (fun _ _ => rfl)) (pa_cons (pe_ifExp (pt_cmpR op_eq (pv 4) pe_int (nomark _)) pe_never (pe_xf (X := ZK P w K mg base A stk g cdg s H0) (a := a) (pn := pn) (xfC hC) hno hz hf (pv 1))) pa_nil))))))))))))), fun a dx D H f i hE hd0 kQ => ?_⟩
   have mem : ∀ y, y ∈ kinds10 → PySem.W.kitOne K (.ref (He.ga K x)) (.ref (He.ga K y)) = some (decide (x = y)) := hE.k
   refine ⟨_, rfl, ⟨_, hd0⟩, _, _, _, rfl, (fun u r => r), mem "BadKeys" (by decide +kernel), _, rfl, ⟨_, hd0⟩, _, _, _, rfl, (fun u r => r), mem "BadTape" (by decide +kernel), _, rfl, ⟨_, hd0⟩, _, _, _, rfl, (fun u r => r), mem "BadText" (by decide +kernel), _, rfl, ⟨_, hd0⟩, _, _, _, rfl, (fun u r => r), mem "BadKey" (by decide +kernel), line16 (by show 4 ≤ 1000000; decide), fun p1 np1 => ?_⟩
   have e1 : upd H p1 (.lst ((kB x).take 4)) = upd H p1 (.lst [V.bl (decide (x = "BadKeys")), V.bl (decide (x = "BadTape")), V.bl (decide (x = "BadText")), V.bl (decide (x = "BadKey"))]) := rfl
   rw [← e1]
   have k1 : Kq [] H (upd H p1 (.lst ((kB x).take 4))) := Kq.alloc np1
   have g1 : (upd H p1 (.lst ((kB x).take 4))) p1 = some (.lst ((kB x).take 4)) := upd_same
   have hd1 := k1.get hd0
   generalize (upd H p1 (.lst ((kB x).take 4))) = H1 at k1 g1  hd1 ⊢
   refine ⟨_, rfl, _, rfl, ⟨_, hd1⟩, _, _, _, rfl, (fun u r => r), mem "BadName" (by decide +kernel), _, rfl, ⟨_, hd1⟩, _, _, _, rfl, (fun u r => r), mem "BadNames" (by decide +kernel), _, rfl, ⟨_, hd1⟩, _, _, _, rfl, (fun u r => r), mem "BadNumbers" (by decide +kernel), line16 (by show 3 ≤ 1000000; decide), fun p2 np2 => ?_⟩
   have k2 : Kq [] H1 (upd H1 p2 (.lst ([V.bl (decide (x = "BadName")), V.bl (decide (x = "BadNames")), V.bl (decide (x = "BadNumbers"))]))) := Kq.alloc np2
   have g2 : (upd H1 p2 (.lst ([V.bl (decide (x = "BadName")), V.bl (decide (x = "BadNames")), V.bl (decide (x = "BadNumbers"))]))) p2 = some (.lst (((kB x).drop 4).take 3)) := upd_same
   have g1 := k2.get g1
   have hd2 := k2.get hd1
   generalize (upd H1 p2 (.lst ([V.bl (decide (x = "BadName")), V.bl (decide (x = "BadNames")), V.bl (decide (x = "BadNumbers"))]))) = H2 at k2 g2 g1 hd2 ⊢
   refine ⟨p1, p2, _, _, rfl, rfl, g1, g2, line16 (by show 7 ≤ 1000000; decide), fun p3 np3 => ?_⟩
   have k3 : Kq [] H2 (upd H2 p3 (.lst ((kB x).take 4 ++ ((kB x).drop 4).take 3))) := Kq.alloc np3
   have g3 : (upd H2 p3 (.lst ((kB x).take 4 ++ ((kB x).drop 4).take 3))) p3 = some (.lst ((kB x).take 7)) := upd_same
   have hd3 := k3.get hd2
   generalize (upd H2 p3 (.lst ((kB x).take 4 ++ ((kB x).drop 4).take 3))) = H3 at k3 g3  hd3 ⊢
   refine ⟨_, rfl, _, rfl, ⟨_, hd3⟩, _, _, _, rfl, (fun u r => r), mem "Taping" (by decide +kernel), _, rfl, ⟨_, hd3⟩, _, _, _, rfl, (fun u r => r), mem "NotTaping" (by decide +kernel), _, rfl, ⟨_, hd3⟩, _, _, _, rfl, (fun u r => r), mem "TooLong" (by decide +kernel), line16 (by show 3 ≤ 1000000; decide), fun p4 np4 => ?_⟩
   have k4 : Kq [] H3 (upd H3 p4 (.lst ([V.bl (decide (x = "Taping")), V.bl (decide (x = "NotTaping")), V.bl (decide (x = "TooLong"))]))) := Kq.alloc np4
   have g4 : (upd H3 p4 (.lst ([V.bl (decide (x = "Taping")), V.bl (decide (x = "NotTaping")), V.bl (decide (x = "TooLong"))]))) p4 = some (.lst ((kB x).drop 7)) := upd_same
   have g3 := k4.get g3
   have hd4 := k4.get hd3
   generalize (upd H3 p4 (.lst ([V.bl (decide (x = "Taping")), V.bl (decide (x = "NotTaping")), V.bl (decide (x = "TooLong"))]))) = H4 at k4 g4 g3 hd4 ⊢
   refine ⟨p3, p4, _, _, rfl, rfl, g3, g4, line16 (by show 10 ≤ 1000000; decide), fun p5 np5 => ?_⟩
   have k5 : Kq [] H4 (upd H4 p5 (.lst ((kB x).take 7 ++ (kB x).drop 7))) := Kq.alloc np5
   have g5 : (upd H4 p5 (.lst ((kB x).take 7 ++ (kB x).drop 7))) p5 = some (.lst (kB x)) := upd_same
   have hd5 := k5.get hd4
   generalize (upd H4 p5 (.lst ((kB x).take 7 ++ (kB x).drop 7))) = H5 at k5 g5  hd5 ⊢
   have kk5 : Kq [] H H5 := (((k1.trans k2).trans k3).trans k4).trans k5
   have fl : (kB x).all flatV = true := rfl
   refine ⟨_, rfl, .inl ⟨rfl, _, SqL.of g5⟩, p5, kB x, .bl true, rfl, rfl, SqL.of g5, rfl, fl, rfl, _, rfl, iteN (fun z => absurd (by rw [kB_one x hx]; rfl) z) (fun _ => ?_)⟩
   refine ⟨_, rfl, ⟨_, hd5⟩, .ty "ValueError", .type "ValueError", true, rfl, (fun u r => r), hE.v, _, rfl, iteF ?_⟩
   refine ⟨line16 (by show 9 ≤ 1000000; decide), fun p6 np6 => ?_⟩
   have nd6 := kk5.fr p6 np6
   have n56 := ne_of_none g5 np6
   have k6 : Kq [] H5 (upd H5 p6 (.lst ([V.str "BadKeys", V.str "BadTape", V.str "BadText", V.str "BadKey", V.str "BadName", V.str "BadNames", V.str "BadNumbers", V.str "Taping", V.str "NotTaping"]))) := Kq.alloc np6
   have g6 : (upd H5 p6 (.lst ([V.str "BadKeys", V.str "BadTape", V.str "BadText", V.str "BadKey", V.str "BadName", V.str "BadNames", V.str "BadNumbers", V.str "Taping", V.str "NotTaping"]))) p6 = some (.lst ([V.str "BadKeys", V.str "BadTape", V.str "BadText", V.str "BadKey", V.str "BadName", V.str "BadNames", V.str "BadNumbers", V.str "Taping", V.str "NotTaping"])) := upd_same
   have g5 := k6.get g5
   have hd6 := k6.get hd5
   generalize (upd H5 p6 (.lst ([V.str "BadKeys", V.str "BadTape", V.str "BadText", V.str "BadKey", V.str "BadName", V.str "BadNames", V.str "BadNumbers", V.str "Taping", V.str "NotTaping"]))) = H6 at k6 g6 g5 hd6 ⊢
   have kk6 := kk5.trans k6
   refine ⟨_, rfl, .inl ⟨rfl, _, SqL.of g6⟩, p6, _, _, rfl, rfl, g6, small1000 (by show 9 ≤ 1000; decide), ?_⟩
   have k7 : Kq [] H (upd H6 p6 (.lst ([V.str "BadKeys", V.str "BadTape", V.str "BadText", V.str "BadKey", V.str "BadName", V.str "BadNames", V.str "BadNumbers", V.str "Taping", V.str "NotTaping"] ++ [V.str "TooLong"]))) := kk6.writeF nd6 g6
   have g7 : (upd H6 p6 (.lst ([V.str "BadKeys", V.str "BadTape", V.str "BadText", V.str "BadKey", V.str "BadName", V.str "BadNames", V.str "BadNumbers", V.str "Taping", V.str "NotTaping"] ++ [V.str "TooLong"]))) p6 = some (.lst (kinds10.map V.str)) := upd_same
   have g5b : (upd H6 p6 (.lst ([V.str "BadKeys", V.str "BadTape", V.str "BadText", V.str "BadKey", V.str "BadName", V.str "BadNames", V.str "BadNumbers", V.str "Taping", V.str "NotTaping"] ++ [V.str "TooLong"]))) p5 = some (.lst (kB x)) := (upd_ne n56).trans g5
   generalize (upd H6 p6 (.lst ([V.str "BadKeys", V.str "BadTape", V.str "BadText", V.str "BadKey", V.str "BadName", V.str "BadNames", V.str "BadNumbers", V.str "Taping", V.str "NotTaping"] ++ [V.str "TooLong"]))) = H7 at k7 g7 g5b ⊢
   have hd7 := k7.get hd0
   obtain ⟨j, ej, ea, e2⟩ := kB_at x hx
   have hz : (kB x)[j.1]? = some (.bl true) := by
     unfold kB
     rw [List.getElem?_map, ej]
     show some (V.bl (decide (x = x))) = _
     rw [decide_eq_true rfl]
   have hno' : ∀ (m : Nat) (z : V), m < j.1 → (kB x)[m]? = some z → eqV z (.bl true) = false := fun m z hm e => by
     unfold kB at e
     rw [List.getElem?_map] at e
     obtain ⟨y, ey, rfl⟩ := Option.map_eq_some_iff.mp e
     have hy : y ∈ kinds10.take j.1 := List.mem_iff_getElem?.mpr ⟨m, by rw [List.getElem?_take_of_lt hm]; exact ey⟩
     have := List.all_eq_true.mp ea y hy
     simp only [Bool.not_eq_true', decide_eq_false_iff_not] at this
     rw [decide_eq_false this]; rfl
   have hj : j.1 = 1 := hjx j ej
   refine ⟨_, rfl, .inl ⟨rfl, _, SqL.of g5b⟩, p5, kB x, .bl true, j.1, .bl true, rfl, rfl, SqL.of g5b, rfl, fl, hz, rfl, hno', ?_⟩
   refine ⟨_, rfl, _, _, rfl, rfl, _, rfl, iteD (fun h => absurd h (by omega)) (fun _ => ?_)⟩
   refine ⟨_, rfl, _, rfl, p6, _, _, .str x, rfl, rfl, SqL.of g7, at_of (j := j.1) rfl (by rw [List.getElem?_map, ej]; rfl), _, rfl, rfl, _, rfl, ?_⟩
   refine iteD (fun h => absurd h (by rw [hj]; decide +kernel)) (fun _ => ?_)
   refine ⟨_, rfl, rfl, rfl, dx, _, .int i, rfl, hd7, by simp only [List.lookup_cons, beq_self_eq_true], line16 (by show 2 ≤ 1000000; decide), fun q nq => ?_⟩
   exact kQ q _ (k7.trans (Kq.alloc nq)) upd_same
  obtain ⟨t, h1, h2⟩ := hall "BadTape" rfl
  exact ⟨t, fun a dx oe pn hC hz hf => h1 a dx oe pn hC hno hz hf, h2⟩
/-- what is made of what a call lets out: the word of its class, or a pair of the word and the number -/
def TKind (K : PySem.W.Frag) : (XK → Hp → VK → Prop) → Hp → VK → Prop := fun tl H Q =>
  tl (fun cls d H' => (∃ x ∈ kinds10, x ≠ "BadKeys" ∧ x ≠ "BadTape" ∧ cls = .ref (He.ga K x) ∧ d = none ∧ ∀ H2, Kq [] H' H2 → Q (.str x) H2) ∨
    (∃ dx i, cls = .ref (He.ga K "BadKeys") ∧ d = some dx ∧ H' dx = some (.xd [("at", .int i)]) ∧ ∀ p H2, Kq [] H' H2 → H2 p = some (.tup [.str "BadKeys", .int i]) → Q (.ref p) H2) ∨
    (∃ dx i, cls = .ref (He.ga K "BadTape") ∧ d = some dx ∧ H' dx = some (.xd [("line", .int i)]) ∧ ∀ p H2, Kq [] H' H2 → H2 p = some (.tup [.str "BadTape", .int i]) → Q (.ref p) H2)) H (fun _ H' => Q (.str "") H')
theorem kind_givesZ {X : Cx} (T : Tx X.w X.K X.mg) (hk : excs = kinds10) (hK : PySem.W.findIn X.K (.ref (He.ga X.K "BadKeys")) "at" = some none) (hT : PySem.W.findIn X.K (.ref (He.ga X.K "BadTape")) "line" = some none) (g : Addr) (cdg : Value) (Z : Hp → Prop) : GivesZ X Nk "_law_kind" d__law_kind.scope g cdg d__law_kind.body "_law_work" Z (TKind X.K) := by
  intro f s H Q tl act hc h
  obtain ⟨t, ht, hr⟩ := kind_suite (P := X.prog) (base := X.base) (A := X.A) (stk := X.stack) T g cdg s H
  obtain ⟨tK, htK, hrK⟩ := kind_suiteK (P := X.prog) (base := X.base) (A := X.A) (stk := X.stack) T hK g cdg s H
  obtain ⟨tT, htT, hrT⟩ := kind_suiteT (P := X.prog) (base := X.base) (A := X.A) (stk := X.stack) T hT g cdg s H
  have hE : ∀ x ∈ kinds10, ExcT X.K x := fun x hx => excT (T.excB (by rw [hk]; exact hx))
  have mK : ("BadKeys" : Str) ∈ kinds10 := by decide +kernel
  have mT : ("BadTape" : Str) ∈ kinds10 := by decide +kernel
  refine ⟨_, pss_cons (ps_try_as (X := ZK X.prog X.w X.K X.mg X.base X.A X.stack g cdg s H) (i := 1) (n := "e") (c := .ref (He.ga X.K "TapeError")) (Wout := fun _ _ _ _ => False)
    (tb := fun W D σ H => ∃ Ech : XK, (∀ cls d H', Ech cls d H' → W cls d σ H') ∧ σ[0]? = some (some (.ref f)) ∧ Z H ∧ tl Ech H fun _ H' => D.nx σ H')
    (ts := fun a cls d D σ H => (∃ x, x ∈ kinds10 ∧ cls = .ref (He.ga X.K x) ∧ d = none ∧ t x a D σ H) ∨ (∃ dx, cls = .ref (He.ga X.K "BadKeys") ∧ d = some dx ∧ tK a dx D σ H) ∨ ∃ dx, cls = .ref (He.ga X.K "BadTape") ∧ d = some dx ∧ tT a dx D σ H)
    rfl rfl sc__law_kind.nd rfl rfl ⟨rfl, by decide, .inl T.g_TapeError⟩ LamX.takes0 ?_ ?_) (pss_one (ps_ret pe_str)), ?_⟩
  · intro W pn xe tk po
    refine ⟨fun pins s' σ H' D I h' => ?_⟩
    exact (pss_one (ps_expr (act W pn xe _ _ tk))).run pins s' σ H' D I h'
  · intro a oe cls d pn hz hf
    refine ⟨fun pins s' σ H' D I h' => ?_⟩
    rcases h' with ⟨x, hx, rfl, rfl, h3⟩ | ⟨dx, rfl, rfl, h3⟩ | ⟨dx, rfl, rfl, h3⟩
    · exact (ht x a oe pn (hE x hx).c hz hf).run pins s' σ H' D I h3
    · exact (htK a dx oe pn (hE _ mK).c hz hf).run pins s' σ H' D I h3
    · exact (htT a dx oe pn (hE _ mT).c hz hf).run pins s' σ H' D I h3
  · refine ⟨_, ?_, rfl, hc, h⟩
    rintro cls d H' (⟨x, hx, n1, n2, rfl, rfl, kQ⟩ | ⟨dx, i, rfl, rfl, hd, kQ⟩ | ⟨dx, i, rfl, rfl, hd, kQ⟩)
    · exact ⟨true, (hE x hx).t, fun _ a na => .inl ⟨x, hx, rfl, rfl, hr x a _ H' _ hx n1 n2 (hE x hx) kQ⟩, fun z => by cases z⟩
    · exact ⟨true, (hE _ mK).t, fun _ a na => .inr (.inl ⟨dx, rfl, rfl, hrK a dx _ H' _ i (hE _ mK) hd kQ⟩), fun z => by cases z⟩
    · exact ⟨true, (hE _ mT).t, fun _ a na => .inr (.inr ⟨dx, rfl, rfl, hrT a dx _ H' _ i (hE _ mT) hd kQ⟩), fun z => by cases z⟩
theorem kind_gives {X : Cx} (T : Tx X.w X.K X.mg) (hk : excs = kinds10) (hK : PySem.W.findIn X.K (.ref (He.ga X.K "BadKeys")) "at" = some none) (hT : PySem.W.findIn X.K (.ref (He.ga X.K "BadTape")) "line" = some none) (g : Addr) (cdg : Value) (qn : Str) : Gives X Nk "_law_kind" d__law_kind.scope g cdg d__law_kind.body "_law_work" qn (TKind X.K) :=
  fun f c' s H Q tl act hc h => kind_givesZ T hk hK hT g cdg (fun H => H c' = some (LamX.CodeO c' qn)) f s H Q tl act hc h
end KT
set_option Elab.async false
set_option linter.all false
set_option maxRecDepth 100000
set_option maxHeartbeats 4000000
namespace KT
open PySem PySem.Spec PyProof.Rows L2
variable [GT]
/-! ### a lambda with one parameter that has a default, handed to a def that calls it without arguments -/
structure LamD (N : List Str) (sc scope : Scope) (pn : Str) : Prop where
  kind : scope.kind = .function
  co : scope.isCoroutine = false
  gen : scope.isGenerator = false
  par : scope.names.lookup pn = some .local
  own : ∀ y ∈ scope.names, (y.2 = .local → y.1 ∉ N) ∧ y.2 ≠ .cell
  free : ∀ y ∈ scope.names, y.2 = .free → sc.names.lookup y.1 = some .cell ∨ sc.names.lookup y.1 = some .free
def lamDB (N : List Str) (sc scope : Scope) (pn : Str) : Bool :=
  decide (scope.kind = .function) && (!scope.isCoroutine && (!scope.isGenerator && (decide (scope.names.lookup pn = some .local) && scope.names.all fun y =>
    (decide (y.2 ≠ .local) || decide (y.1 ∉ N)) && (decide (y.2 ≠ .cell) && (decide (y.2 ≠ .free) || (decide (sc.names.lookup y.1 = some .cell) || decide (sc.names.lookup y.1 = some .free)))))))
theorem lamD_by {N : List Str} {sc scope : Scope} {pn : Str} (h : lamDB N sc scope pn = true) : LamD N sc scope pn := by
  unfold lamDB at h
  simp only [Bool.and_eq_true, Bool.or_eq_true, Bool.not_eq_true', decide_eq_true_eq, List.all_eq_true] at h
  obtain ⟨a1, a2, a3, a4, a5⟩ := h
  refine ⟨a1, a2, a3, a4, fun y hy => ⟨fun e => ?_, (a5 y hy).2.1⟩, fun y hy e => ?_⟩
  · rcases (a5 y hy).1 with z | z
    · exact absurd e z
    · exact z
  · rcases (a5 y hy).2.2 with z | z
    · exact absurd e z
    · exact z
theorem LamD.has {X : Cx} {N : List Str} {scope : Scope} {pn : Str} (L : LamD N X.env.scope scope pn) (ok : X.Ok) : ∀ y ∈ scope.names, y.2 = .free → ∃ c, X.env.cells.lookup y.1 = some c := fun y hy e => by
  rcases L.free y hy e with k | k <;> exact ok.has _ (by first | exact .inl k | exact .inr k)
abbrev ldFn (q : Str) (params : Arguments) (body : Expr) (scope : Scope) (cl : List (Str × Addr)) (T : Addr) (doc pm cdv ct : Value) : FuncData :=
  PySem.W.kdv_fn "<lambda>" q params (.expr body) scope cl (.ref T) doc pm cdv ct
abbrev ldObj (q : Str) (params : Arguments) (body : Expr) (scope : Scope) (cl : List (Str × Addr)) (T : Addr) (doc pm cdv ct : Value) : Obj := { cls := .type "function", data := .func (ldFn q params body scope cl T doc pm cdv ct) }
abbrev oneTup (v : Value) : Obj := { cls := .type "tuple", data := .seq [v].toArray }
section
variable {X : Cx} {pins : List (Addr × Obj)} {σ : L2.St} {H : Hp} {s : Shared}
theorem lam_mkD {c P : Addr} {params : Arguments} {body : Expr} {scope : Scope} {pos : Pos} {Er Qr : Value → Shared → Prop} {de : Expr} (I : Inv X pins σ H s) (TB : LamX.TabB X.base X.mg c P) (hcode : X.env.code = .ref c)
    (hT : LamX.TabS H P (X.env.qual ++ "<lambda>")) (hde : params.defaults = [de]) (hkd : params.kw_defaults = []) (hko : params.kwonlyargs = []) (hc : de.isPlainConst = true) (hfree : ∀ y ∈ scope.names, y.2 = .free → ∃ c, X.env.cells.lookup y.1 = some c)
    (fin : ∀ (f c' T : Addr) (v doc pm ctv : Value) (H1 : Hp) (s1 : Shared), Inv X pins σ H1 s1 → Gr P (X.env.qual ++ "<lambda>") H H1 →
      s1.heap.get? f = some (ldObj (X.env.qual ++ "<lambda>") params body scope (cloFrom X.env.cells scope.names []) T doc pm (.ref c') ctv) → s1.heap.get? T = some (oneTup v) → H1 f = none → f ∉ frs X.stack → H1 T = none → T ∉ frs X.stack → H1 c' = some (LamX.CodeO c' (X.env.qual ++ "<lambda>")) → Qr (.ref f) s1) :
    wpAny (model X.prog X.w) X.A (eval (.Lambda params body scope pos) X.env) Qr Er s := by
  rw [arm_eval_Lambda, defaultsOf_eq, hkd, hde]
  refine wpAny_bind (wpAny_evalAll_consts _ _ _ (fun e he => by rw [List.mem_singleton.mp he]; exact hc) fun vs tk0 hvs => ?_)
  obtain ⟨v, rfl⟩ : ∃ v, vs = [v] := by
    match vs, hvs with
    | [v], _ => exact ⟨v, rfl⟩
  refine wpAny_bind (wpAny_holding (wpAny_pure ?_))
  rw [makeFunction_eq, hko]
  refine wpAny_bind (wpAny_newTextTuple (wpAny_bind (wpAny_pure (wpAny_bind (wpAny_pure ?_)))))
  have I2 : Inv X pins σ H { s with heap := s.heap.push (oneTup v), toks := tk0 } := I.kept (t' := tk0) (h' := s.heap.push (oneTup v)) fun b o e => Heap.get?_push_of_some _ e
  have gT : (s.heap.push (oneTup v)).get? s.heap.objs.size = some (oneTup v) := Heap.get?_push_size _ rfl
  have lower0 : s.heap.objs.size < (s.heap.push (oneTup v)).objs.size := Heap.lt_size gT
  have fT : H s.heap.objs.size = none := I.hok.fresh (Nat.le_refl _)
  have out0 : ∀ f, s.heap.objs.size ≤ f → f ∉ frs X.stack := fun f big mem => by
    rcases List.mem_cons.mp (I.stkSub _ mem) with same | rest
    · have low := I.lt
      rw [← same] at low
      exact absurd big (Nat.not_le.mpr low)
    · exact I.nofs big rest
  generalize s.heap.objs.size = T at gT lower0 fT out0 ⊢
  generalize (s.heap.push (oneTup v)) = h2 at I2 gT lower0 ⊢
  obtain ⟨ps, tP, tOk, tAll⟩ := hT
  have builtP : h2.BuiltinsAt X.mg P := TB.bm.keeps I2.bk
  have heapP : h2.get? P = some { cls := .none, data := .fields ps } := I2.hok P _ tP
  have TneP : T ≠ P := fun e => by rw [e, heapP] at gT; cases gT
  by_cases known : ∃ cv, codeAmong pos ps.toList = some cv
  · obtain ⟨cv, found⟩ := known
    obtain ⟨c', rfl, isCode⟩ := tAll pos cv found
    refine PySem.W.kdv_makeTailHit (c := c) (P := P) (mg := X.mg) (ps := ps) (closure_ok hfree) I2.ok.glob (I2.mod.glob.keeps I2.bk) hcode (TB.code.keeps I2.bk) heapP tOk found builtP ?_
    intro ctv doc h' tk grows big
    have inv1 := I2.kept (t' := tk) (h' := h'.push (ldObj (X.env.qual ++ "<lambda>") params body scope (cloFrom X.env.cells scope.names []) T doc ((X.mg "__name__").getD .none) (.ref c') ctv)) fun b o e => Heap.get?_push_of_some _ (grows b o e)
    have big' : T ≤ h'.objs.size := Nat.le_trans (Nat.le_of_lt lower0) big
    exact fin h'.objs.size c' T v doc _ ctv H _ inv1 ⟨fun _ _ e _ => e, ⟨ps, tP, tOk, tAll⟩, fun _ e => e⟩ (Heap.get?_push_size _ rfl) (Heap.get?_push_of_some _ (grows _ _ gT)) (I2.hok.fresh big) (out0 _ big') fT (out0 _ (Nat.le_refl _)) isCode
  · have none_ : codeAmong pos ps.toList = none := by
      cases e : codeAmong pos ps.toList with
      | none => rfl
      | some cv => exact absurd ⟨cv, e⟩ known
    refine PySem.W.kdv_makeTail (c := c) (P := P) (mg := X.mg) (ps := ps) (closure_ok hfree) I2.ok.glob (I2.mod.glob.keeps I2.bk) hcode (TB.code.keeps I2.bk) heapP tOk none_ TB.gP builtP ?_
    intro c' ctv doc h' tk others big lower isRec table
    obtain ⟨c2, oc, fs, t, sameC, getC, dataC, nameC⟩ := isRec
    cases sameC
    have freeC : H c' = none := I2.hok.fresh big
    have size : h2.objs.size ≤ h'.objs.size := Nat.le_trans big (Nat.le_of_lt lower)
    have size' : T ≤ h'.objs.size := Nat.le_trans (Nat.le_of_lt lower0) size
    have inv1 := LamX.inv_table (t' := tk) (q := X.env.qual ++ "<lambda>") (more := #[rawInt pos.line, rawInt pos.col, .ref c']) (h' := h'.push (ldObj (X.env.qual ++ "<lambda>") params body scope (cloFrom X.env.cells scope.names []) T doc ((X.mg "__name__").getD .none) (.ref c') ctv)) I2 tP
      (fun b o ne e => Heap.get?_push_of_some _ (others b o ne e)) (Heap.get?_push_of_some _ table) big ⟨oc, fs, t, Heap.get?_push_of_some _ getC, dataC, nameC⟩
    have pc : P ≠ c' := ne_of_none tP freeC
    have kept : ∀ b o, H b = some o → b ≠ P → upd (upd H P (.tbl (ps ++ #[rawInt pos.line, rawInt pos.col, .ref c']))) c' (LamX.CodeO c' (X.env.qual ++ "<lambda>")) b = some o := fun b o e ne => by
      rw [upd_ne (ne_of_none e freeC), upd_ne ne]
      exact e
    have asList : (ps ++ #[rawInt pos.line, rawInt pos.col, .ref c']).toList = ps.toList ++ [rawInt pos.line, rawInt pos.col, .ref c'] := by simp
    have tc : T ≠ c' := Nat.ne_of_lt (Nat.lt_of_lt_of_le lower0 big)
    refine fin h'.objs.size c' T v doc _ ctv _ _ inv1 ⟨kept, ⟨ps ++ #[rawInt pos.line, rawInt pos.col, .ref c'], (upd_ne pc).trans upd_same, by rw [asList]; exact PySem.TriplesOk_snoc _ _ _ _ tOk, ?_⟩, ?_⟩ (Heap.get?_push_size _ rfl) (Heap.get?_push_of_some _ (others _ _ TneP gT)) ?_ (out0 _ size') ?_ (out0 _ (Nat.le_refl _)) upd_same
    · intro pos' cv among
      rw [asList] at among
      rcases LamX.among_app _ tOk among with old | new
      · obtain ⟨c0, e0, code0⟩ := tAll pos' cv old
        exact ⟨c0, e0, kept _ _ code0 fun z => by subst z; rw [tP] at code0; unfold LamX.CodeO at code0; cases code0⟩
      · exact ⟨c', new, upd_same⟩
    · intro b e
      by_cases e1 : b = c'
      · rw [e1]; exact freeC
      · rw [upd_ne e1] at e
        by_cases e2 : b = P
        · rw [e2, upd_same] at e; cases e
        · rw [upd_ne e2] at e; exact e
    · have n1 : h'.objs.size ≠ c' := Nat.ne_of_gt lower
      have n2 : h'.objs.size ≠ P := Nat.ne_of_gt (Nat.lt_of_lt_of_le (Heap.lt_size heapP) size)
      rw [upd_ne n1, upd_ne n2]
      exact I2.hok.fresh size
    · rw [upd_ne tc, upd_ne TneP]; exact fT
/-- the body's start: the parameter stands in the frame, and no name of the caller's bears its name -/
theorem lam_startD {HZ : Hp} {s1 : Shared} {A : Around} {outer : List Env} {E : XK} {scope : Scope} {f c' : Addr} {h1 : Heap} {tk : Nat} {pn : Str} {mm : Str → Option Value} (I : Inv X pins σ H s) (L : LamD X.N X.env.scope scope pn) (e0 : Env0 X.prog X.w X.K X.mg X.base A outer s1 HZ) (hd : A.handled = none)
    (un : Un (frs X.stack) [] H HZ s.heap s1.heap) (hns : h1.Ns s1.heap.objs.size mm) (kp : ∀ b o, s1.heap.get? b = some o → h1.get? b = some o) :
    Inv (LamX.lamCx X A outer s1 HZ E scope f c') [] σ HZ { s1 with heap := h1, toks := tk } := by
  have up : ∀ {y : Str} {c : Addr}, (cloFrom X.env.cells scope.names []).lookup y = some c → X.env.cells.lookup y = some c := by
    intro y c e
    rcases cloFrom_mem (PySem.mem_of_lookup e) with inNil | ⟨isFree, same⟩
    · exact nomatch inNil
    · obtain ⟨c0, e0⟩ := L.has I.ok _ isFree rfl
      have e1 : X.env.cells.lookup y = some c0 := e0
      have : c = c0 := by rw [same, e1] <;> rfl
      rw [this]; exact e1
  have down : ∀ {y : Str}, scope.names.lookup y = some .free → ∃ c, (cloFrom X.env.cells scope.names []).lookup y = some c := by
    intro y e
    exact mem_lookup (cloFrom_has (cells := X.env.cells) (acc := []) (PySem.mem_of_lookup e))
  have cells : ∀ {c : Addr} {v : Option Value}, H c = none → s.heap.IsCell c v → h1.IsCell c v := by
    rintro c v n ⟨o, ho, hdata⟩
    obtain ⟨sl, q⟩ := un.any ho n (by simp)
    exact ⟨_, kp _ _ q, hdata⟩
  have noEx : ∀ b : Addr, b ∉ (LamX.lamCx X A outer s1 HZ E scope f c').ex := fun b z => nomatch (show b ∈ ([] : List Addr) from z)
  have okX : (LamX.lamCx X A outer s1 HZ E scope f c').Ok := by
    refine ⟨e0.mod, L.kind, rfl, rfl, Nat.le_refl _, ?_, ?_, ?_, fun _ => hd, Around.frames_deeper e0.frames, .inr ⟨rfl, rfl⟩, fun b z => absurd z (noEx b), e0.bs, e0.bsz, fun b _ _ => noEx b, fun b z => absurd z (noEx b), e0.funs, e0.frf⟩
    · exact fun y z c a b => I.ok.inj y z c (up a) (up b)
    · intro y hy
      rcases (show scope.names.lookup y = some .cell ∨ scope.names.lookup y = some .free from hy) with a | a
      · exact absurd rfl (L.own _ (PySem.mem_of_lookup a)).2
      · exact down a
    · intro y c z
      exact nomatch (show false = true from z)
  refine ⟨okX, rfl, e0.bare, Un.kept kp, ⟨_, hns, ?_⟩, ?_, e0.hok.fresh (Nat.le_refl _), ?_, ?_, e0.hok.kept kp, I.len⟩
  · intro i y v e1 e2 e3
    rcases (show Vis scope y from e3) with a | a | a
    · exact absurd (List.mem_of_getElem? e1) ((L.own _ (PySem.mem_of_lookup a)).1 rfl)
    · exact absurd rfl (L.own _ (PySem.mem_of_lookup a)).2
    · obtain ⟨m, _, all⟩ := I.loc
      have vis : Vis X.env.scope y := by
        rcases L.free _ (PySem.mem_of_lookup a) rfl with b | b
        · exact .inr (.inl b)
        · exact .inr (.inr b)
      obtain ⟨u, rel, how⟩ := all i y v e1 e2 vis
      obtain ⟨c2, e4⟩ := down a
      refine ⟨u, rel, .inr ⟨.inr a, c2, e4, ?_⟩⟩
      rcases how with ⟨b, _⟩ | ⟨_, c3, e5, isC⟩
      · have b2 : X.env.scope.names.lookup y = some .local := b
        rcases L.free _ (PySem.mem_of_lookup a) rfl with d | d
        · rw [show X.env.scope.names.lookup y = _ from d] at b2; cases b2
        · rw [show X.env.scope.names.lookup y = _ from d] at b2; cases b2
      · rw [up e4] at e5
        cases e5
        exact cells (I.freeC y _ (up e4)) isC
  · intro y c e
    obtain ⟨u, z⟩ := I.cell y c (up e)
    exact ⟨u, cells (I.freeC y c (up e)) z⟩
  · intro y c e
    obtain ⟨v, o, ho, _⟩ := I.cell y c (up e)
    exact un.free c o ho (I.freeC y c (up e)) (by simp)
  · intro q hq
    exact nomatch (show q ∈ ([] : List (Addr × Obj)) from hq)
theorem pe_actD {CXg : CXT} {Eg : XK} {Ng : List Str} {qg : Str} {sg : Scope} {g f c' T : Addr} {cdg dv doc pm ctv : Value} {params : Arguments} {body : Expr} {scope : Scope} {k i : Nat} {a pn0 : Str} {pn : List (Addr × Obj)} {xe : Value → Shared → Prop} {W : WX} {t : XK → TE} {p1 p2 : Pos}
    (I : Inv X pins σ H s) (L : LamD X.N X.env.scope scope pn0) (getF : s.heap.get? f = some (ldObj (X.env.qual ++ "<lambda>") params body scope (cloFrom X.env.cells scope.names []) T doc pm (.ref c') ctv)) (getT : s.heap.get? T = some (oneTup dv)) (freeF : H f = none) (outF : f ∉ frs X.stack) (freeT : H T = none) (outT : T ∉ frs X.stack)
    (binds : ∃ kk, bindArgs (ldFn (X.env.qual ++ "<lambda>") params body scope (cloFrom X.env.cells scope.names []) T doc pm (.ref c') ctv) ⟨[], []⟩ = seqItems? (.ref T) >>= kk ∧ ∀ v : Value, kk (some [v].toArray) = pure [(pn0, v)])
    (tk : Takes ((cxOf CXg X.prog X.w X.K X.mg X.base Ng qg sg g cdg X.A X.stack s H Eg).tr pn xe) W) (room : Room (k + 1) (X.A.deeper (envOfC qg sg s.heap.objs.size g cdg)))
    (runs : ∀ (A : Around) (outer : List Env) (s : Shared) (H : Hp) (E : XK), Room k (A.deeper (LamX.lamEnv X scope s.heap.objs.size f c')) → PE (LamX.lamCx X A outer s H E scope f c') body (t E))
    (hN : Ng[i]? = some a) (hv : Vis sg a) (hd : (a == ("__debug__" : Str)) = false := by decide) (hcd : (a == ("__classdict__" : Str)) = false := by decide) :
    PE ((cxOf CXg X.prog X.w X.K X.mg X.base Ng qg sg g cdg X.A X.stack s H Eg).tr pn xe) (.Call (.Name a p1) [] [] p2)
      (fun σZ HZ Q => ∃ Ech : XK, (∀ cls d H', Ech cls d H' → W cls d σZ H') ∧ σZ[i]? = some (some (.ref f)) ∧ HZ c' = some (LamX.CodeO c' (X.env.qual ++ "<lambda>")) ∧ t Ech σ HZ Q) := by
  refine ⟨fun pinsZ sZ σZ HZ Q IZ ⟨Ech, lets, slot, code, reads⟩ => ?_⟩
  have var := (pe_var (i := i) (pos := p1) hN hv hd hcd).run pinsZ sZ σZ HZ (fun v H1 => v = .ref f ∧ H1 = HZ) IZ ⟨.ref f, slot, rfl, rfl⟩
  refine wpAny_Call_Name_kw (thn var fun u s1 told => ?_)
  obtain ⟨v, H1, inv1, rel, sameV, sameH⟩ := told
  subst sameV
  rw [sameH] at inv1
  obtain rfl : u = Value.ref f := rel
  have nin : ∀ b : Addr, b ∉ ([] : List Addr) := fun b z => nomatch z
  have still := inv1.base.keep f _ getF freeF outF (nin f)
  have stillT := inv1.base.keep T _ getT freeT outT (nin T)
  have changes : Un (frs X.stack) [] H HZ s.heap s1.heap := inv1.base
  obtain ⟨oc, fs, tok, getC, dataC, nameC⟩ := (inv1.hok c' _ code).1
  refine PySem.W.callWith_F0 ⟨_, _, _, _, still⟩ (wpAny_call (codeAny_mono (R := CR (L2.CX X.prog X.w) (envOfC qg sg s.heap.objs.size g cdg :: X.stack) X.prog X.w HZ s1 Q Ech) ?_ ?_))
  · refine PySem.W.kla_callFunE room.depth still rfl L.co L.gen rfl ⟨c', oc, fs, tok, rfl, getC, dataC, nameC⟩ ?_
    obtain ⟨kk, e1, e2⟩ := binds
    have sameArgs : (⟨([] : List Value) ++ [], []⟩ : Args) = ⟨[], []⟩ := rfl
    rw [sameArgs, e1]
    refine wpAny_bind (wpAny_seqItems stillT rfl ?_)
    rw [e2]
    refine wpAny_pure (wpAny_newFunctionEnv (fun y hy => (L.own y hy).2) (fun y hy => by rw [List.mem_singleton.mp hy]; exact L.par) ?_ L.kind)
    intro h1 names fresh
    refine ⟨inv1.nolimit.fresh _ fresh, ?_⟩
    have keeps : ∀ b o, s1.heap.get? b = some o → h1.get? b = some o := fun b o e => fresh.extBut b o (Nat.ne_of_lt (Heap.lt_size e)) (Heap.get?_push_of_some _ e)
    have inv2 := lam_startD (f := f) (c' := c') (E := Ech) (tk := s1.toks + [(pn0, dv)].length) I L inv1.env0 room.hd changes names keeps
    refine PySem.W.kla_codeExpr (wpAny_mono ((runs _ _ s1 HZ Ech (room.deeper _)).run [] _ _ HZ Q inv2 reads) ?_ fun _ _ z => z)
    intro v s2 ⟨w2, H2, inv3, rel2, q2⟩
    exact ⟨w2, H2, inv3.os, inv3.bare, inv3.base, inv3.hok, rel2, q2⟩
  · intro r s2 told
    rcases r with e | fl
    · exact tk e s2 (XE.of_call inv1 (fun cls d H' z => lets cls d H' z) told)
    · rcases fl with _ | _ | _ | u <;> first | exact inv1.after told | exact False.elim told
theorem pe_lamKD {TT : (XK → Hp → VK → Prop) → Hp → VK → Prop} {x a pn0 : Str} {g c P : Addr} {k : Nat} {pg : Arguments} {bg : List Stmt} {sg : Scope} {dV kV doc pm cdv ct oc : Value} {an od : Option Addr} {osl : Array (Option Value)} {Ng : List Str}
    {params : Arguments} {body de : Expr} {scope : Scope} {t : XK → TE} {p lpos pos : Pos} (hg : Gl X x) (hm : X.mg x = some (.ref g)) (hk : PySem.W.keepIn X.K (.ref g) = true)
    (lk : X.K.lookup g = some ⟨oc, od, .func (PySem.W.fnOf x x pg bg sg dV kV doc pm an cdv ct), osl⟩) (hcg : PySem.W.codeIn X.K cdv x = true) (hb : L2.Binds X.K (PySem.W.fnOf x x pg bg sg dV kV doc pm an cdv ct) [a] []) (Sg : FnScope Ng [a] sg) (hNg : Ng[0]? = some a) (hva : Vis sg a)
    (hG : Gives X Ng x sg g cdv bg a (X.env.qual ++ "<lambda>") TT)
    (TB : LamX.TabB X.base X.mg c P) (hcode : X.env.code = .ref c) (hr : Room (k + 2) X.A) (L : LamD X.N X.env.scope scope pn0) (hde : params.defaults = [de]) (hkd : params.kw_defaults = []) (hko : params.kwonlyargs = []) (hc : de.isPlainConst = true)
    (hbind : ∀ (q : Str) (cl : List (Str × Addr)) (T : Addr) (doc pm cv ctv : Value), ∃ kk, bindArgs (ldFn q params body scope cl T doc pm cv ctv) ⟨[], []⟩ = seqItems? (.ref T) >>= kk ∧ ∀ v : Value, kk (some [v].toArray) = pure [(pn0, v)])
    (hbody : ∀ (A : Around) (outer : List Env) (s : Shared) (H : Hp) (E : XK) (f c' : Addr), Room k (A.deeper (LamX.lamEnv X scope s.heap.objs.size f c')) → PE (LamX.lamCx X A outer s H E scope f c') body (t E))
    (hdb : (x == ("__debug__" : Str)) = false := by decide) (hd : (a == ("__debug__" : Str)) = false := by decide) (hcd : (a == ("__classdict__" : Str)) = false := by decide) :
    PE X (.Call (.Name x p) [.Lambda params body scope lpos] [] pos) (tLamK P (X.env.qual ++ "<lambda>") TT t) := by
  refine ⟨fun pins s σ H Q I ⟨tab, rest⟩ => wpAny_Call_Name_kw (ld_glob I hg hm ?_ hdb)⟩
  refine PySem.W.callWith_K (h₀ := X.base) I.ok.mod.kin hk ?_ (by rfl) (by rfl)
  show wpAny _ _ (spliced ((false, eval (.Lambda params body scope lpos) X.env) :: backTo pos (starEach [] X.env))) _ _ s
  refine Calls.spliced_cons (lam_mkD I TB hcode tab hde hkd hko hc (L.has I.ok) ?_)
  intro f c' T dv doc' pm' ctv H1 s1 inv1 grown getF getT freeF outF freeT outT isCode
  refine Calls.spliced_nil ⟨inv1.kIn, wpAny_call (codeAny_mono (R := CR C8.CX0 X.stack X.prog X.w H1 s1 Q C8.E0) ?_ ?_)⟩
  · refine LamX.run_ofS (N := Ng) (us := [.ref f]) (vs := [.ref f]) (ps := [a]) lk hcg Sg hr inv1.env0 (hb s1 [.ref f] inv1.kIn rfl) (.cons rfl .nil) rfl ?_
    intro room
    obtain ⟨tt, run, ends⟩ := hG f c' s1 H1 Q (fun E H' Q' => t E σ H' Q') (fun W pn xe p1 p2 tk => pe_actD (i := 0) (t := t) inv1 L getF getT freeF outF freeT outT (hbind _ _ _ _ _ _ _) tk room (fun A outer s H E r => hbody A outer s H E f c' r) hNg hva hd hcd) isCode (rest H1 grown)
    exact ⟨tt, run.nox, ends⟩
  · intro r s2 told
    rcases r with e | fl
    · exact (show False from told).elim
    · rcases fl with _ | _ | _ | u <;> first | exact inv1.after told | exact False.elim told
end
end KT
set_option Elab.async false
set_option linter.all false
set_option maxRecDepth 100000
set_option maxHeartbeats 4000000
namespace KT
open PySem PySem.Spec PyProof.Rows L2 GxR
variable [GT]
section
variable {P : Program} {w : World} {K : PySem.W.Frag} {mg : Str → Option Value} {base : Heap}
theorem Tx.sup_BadTape (T : Tx w K mg) : supB K (He.ga K "BadTape") "BadTape.__init__" (defArgs s_BadTape___init__) (defBody s_BadTape___init__) (defScope s_BadTape___init__) fileS "line" = true := T.supB_BadTape
theorem sup_scopeT : SupScope ["self", "line"] ["self", "line"] (defScope s_BadTape___init__) := ⟨rfl, rfl, rfl, by decide +kernel, rfl, by decide +kernel, by decide +kernel, by decide +kernel⟩
theorem fn_BadTape (T : Tx w K mg) (hP : SupP P fileS) : ∃ fd, FnOk P w K mg base (fun _ _ _ _ _ _ => False) 1 (He.ma K (He.ga K "BadTape") "__init__") fd ["self", "line"] (sp_sup (He.ga K "BadTape") "line" "no tape in row ") ∧ Binds K fd ["self", "line"] [] :=
  fn_sup T.sup_BadTape hP T.n_super rfl sup_scopeT rfl rfl ⟨_, rfl, rfl⟩ (fun _ => rfl) (by decide) (by decide) (fun _ _ _ _ => rfl) (fun _ _ _ _ _ _ _ us hl => match us, hl with | [_, _], _ => rfl)
/-- BadTape(e) -/
theorem pmk_BadTape {N : List Str} {d : He.DefD} {cdv : Value} {A : Around} {outer : List Env} {s : Shared} {H : Hp} {E : XK} {p pos : Pos} {e : Expr} {es : List Expr} {ta : TA} (T : Tx w K mg) (hP : SupP P fileS)
    (hg : Gl (CxD P w K mg base N d cdv A outer s H E) "BadTape") (hr : Room 2 (CxD P w K mg base N d cdv A outer s H E).A) (ha : PA (CxD P w K mg base N d cdv A outer s H E) (e :: es) ta)
    (he : starEach (e :: es) (CxD P w K mg base N d cdv A outer s H E).env = (false, eval e (CxD P w K mg base N d cdv A outer s H E).env) :: starEach es (CxD P w K mg base N d cdv A outer s H E).env := by rfl)
    (hpl : (backTo pos (starEach es (CxD P w K mg base N d cdv A outer s H E).env)).any (·.1) = false := by rfl) :
    PMk (CxD P w K mg base N d cdv A outer s H E) (.Call (.Name "BadTape" p) (e :: es) [] pos) (tMkO (He.ga K "BadTape") (sp_sup (He.ga K "BadTape") "line" "no tape in row ") [] ta) := by
  obtain ⟨fd, F, hb⟩ := fn_BadTape (base := base) T hP
  have hB := T.sup_BadTape
  unfold supB at hB
  simp only [Bool.and_eq_true] at hB
  obtain ⟨hC, hI, _⟩ := hB
  obtain ⟨O, _⟩ := supC_ok hC
  obtain ⟨iC, tI, _⟩ := supI_ok hI
  exact pmk_oex (X := CxD P w K mg base N d cdv A outer s H E) O iC tI F hr hb .nil (fun _ _ _ _ _ _ _ h => h.elim) hg T.g_BadTape ha (by decide) he hpl
end
end KT
set_option Elab.async false
set_option linter.all false
set_option maxRecDepth 100000
set_option maxHeartbeats 4000000
namespace KT
open PySem PySem.Spec PyProof.Rows L2 GxR
variable [GT]
abbrev lamQ (q : Str) : Str := q ++ ".<locals>." ++ "<lambda>"
abbrev tLn (K : PySem.W.Frag) (p : He.Defn) : Addr := He.tabOf K (He.codeOf K p)
theorem Tx.noat_BadKeys {w : World} {K : PySem.W.Frag} {mg : Str → Option Value} (T : Tx w K mg) : PySem.W.findIn K (.ref (He.ga K "BadKeys")) "at" = some none := by
  have h := T.supB_BadKeys
  unfold supB at h
  simp only [Bool.and_eq_true] at h
  exact (supC_ok h.1).2.2.2.1
theorem Tx.noat_BadTape {w : World} {K : PySem.W.Frag} {mg : Str → Option Value} (T : Tx w K mg) : PySem.W.findIn K (.ref (He.ga K "BadTape")) "line" = some none := by
  have h := T.supB_BadTape
  unfold supB at h
  simp only [Bool.and_eq_true] at h
  exact (supC_ok h.1).2.2.2.1
theorem sl_listB {X : Cx} {K : PySem.W.Frag} (e : X.K = K) : SlR X (rSlL K) := e ▸ sl_list
/-- _law_kind(lambda: ..) -/
theorem pe_kind {X : Cx} (T : Tx X.w X.K X.mg) (hkx : excs = kinds10) {k : Nat} {c P : Addr} {params : Arguments} {body : Expr} {scope : Scope} {t : XK → TE} {p lpos pos : Pos} (hg : Gl X "_law_kind") (TB : LamX.TabB X.base X.mg c P) (hcode : X.env.code = .ref c) (hr : Room (k + 2) X.A)
    (L : LamX.LamS X.env.scope scope) (hdef : defaultsOf params X.env = ([], [])) (hbind : ∀ (q : Str) (cl : List (Str × Addr)) (pm cv ctv : Value), bindArgs (PySem.W.kla_fn "<lambda>" q params body scope cl pm cv ctv) ⟨[], []⟩ = pure [])
    (hbody : ∀ (A : Around) (outer : List Env) (s : Shared) (H : Hp) (E : XK) (f c' : Addr), Room k (A.deeper (LamX.lamEnv X scope s.heap.objs.size f c')) → PE (LamX.lamCx X A outer s H E scope f c') body (t E)) :
    PE X (.Call (.Name "_law_kind" p) [.Lambda params body scope lpos] [] pos) (tLamK P (X.env.qual ++ "<lambda>") (TKind X.K) t) := by
  have F : FunD X.K d__law_kind.name d__law_kind.qual d__law_kind.params d__law_kind.body d__law_kind.scope [] (d__law_kind.kws X.K) (Ad X.K d__law_kind.at_) (fdOf X.K (Ad X.K d__law_kind.at_)) := T.f__law_kind
  have b := F.bindsN (ps := ["_law_work"]) (fun _ _ _ _ _ _ us hl => match us, hl with | [_], _ => rfl)
  have kp := F.kp
  obtain ⟨oc, od, dV, kV, doc, pm, an, cdv, ct, osl, e, lk, hcd, _, _⟩ := F.ex
  rw [e] at lk b
  exact pe_lamK hg T.g__law_kind kp lk hcd b sc__law_kind rfl (.inl rfl) (kind_gives T hkx T.noat_BadKeys T.noat_BadTape _ _ _) TB hcode hr L hdef hbind hbody
/-- what a lambda's body lets out, the lambda lets out -/
theorem lam_px {X : Cx} {A : Around} {outer : List Env} {s : Shared} {H : Hp} {E : XK} {scope : Scope} {f c' : Addr} : Passes (L2.CX X.prog X.w) (LamX.lamCx X A outer s H E scope f c') E :=
  passes_call (takes_of (X := LamX.lamCx X A outer s H E scope f c') (E := E) rfl rfl rfl rfl) fun _ _ _ _ z => z
/-- _law_kind(lambda _law_a=0: ..) -/
theorem pe_kindD {X : Cx} (T : Tx X.w X.K X.mg) (hkx : excs = kinds10) {k : Nat} {c P : Addr} {params : Arguments} {body de : Expr} {scope : Scope} {pn0 : Str} {t : XK → TE} {p lpos pos : Pos} (hg : Gl X "_law_kind") (TB : LamX.TabB X.base X.mg c P) (hcode : X.env.code = .ref c) (hr : Room (k + 2) X.A)
    (L : LamD X.N X.env.scope scope pn0) (hde : params.defaults = [de]) (hkd : params.kw_defaults = []) (hko : params.kwonlyargs = []) (hc : de.isPlainConst = true)
    (hbind : ∀ (q : Str) (cl : List (Str × Addr)) (T : Addr) (doc pm cv ctv : Value), ∃ kk, bindArgs (ldFn q params body scope cl T doc pm cv ctv) ⟨[], []⟩ = seqItems? (.ref T) >>= kk ∧ ∀ v : Value, kk (some [v].toArray) = pure [(pn0, v)])
    (hbody : ∀ (A : Around) (outer : List Env) (s : Shared) (H : Hp) (E : XK) (f c' : Addr), Room k (A.deeper (LamX.lamEnv X scope s.heap.objs.size f c')) → PE (LamX.lamCx X A outer s H E scope f c') body (t E)) :
    PE X (.Call (.Name "_law_kind" p) [.Lambda params body scope lpos] [] pos) (tLamK P (X.env.qual ++ "<lambda>") (TKind X.K) t) := by
  have F : FunD X.K d__law_kind.name d__law_kind.qual d__law_kind.params d__law_kind.body d__law_kind.scope [] (d__law_kind.kws X.K) (Ad X.K d__law_kind.at_) (fdOf X.K (Ad X.K d__law_kind.at_)) := T.f__law_kind
  have b := F.bindsN (ps := ["_law_work"]) (fun _ _ _ _ _ _ us hl => match us, hl with | [_], _ => rfl)
  have kp := F.kp
  obtain ⟨oc, od, dV, kV, doc, pm, an, cdv, ct, osl, e, lk, hcd, _, _⟩ := F.ex
  rw [e] at lk b
  exact pe_lamKD hg T.g__law_kind kp lk hcd b sc__law_kind rfl (.inl rfl) (kind_gives T hkx T.noat_BadKeys T.noat_BadTape _ _ _) TB hcode hr L hde hkd hko hc hbind hbody
end KT
set_option Elab.async false
set_option linter.all false
set_option maxRecDepth 100000
set_option maxHeartbeats 4000000
namespace KT
open PySem PySem.Spec PyProof.Rows L2 GxR
variable [GT]
/-! ### what _law_kind makes of a call -/
section
variable {K : PySem.W.Frag} {H : Hp} {Q : VK} {tl : XK → Hp → VK → Prop}
theorem kind_none {x : Str} (hx : x ∈ kinds10) (n1 : x ≠ "BadKeys") (n2 : x ≠ "BadTape") (ht : ∀ (E : XK) (Q' : VK), (∀ H', Kq [] H H' → E (.ref (He.ga K x)) none H') → tl E H Q') (h : ∀ H', Kq [] H H' → Q (.str x) H') : TKind K tl H Q := by
  unfold TKind
  exact ht _ _ fun H' k => .inl ⟨x, hx, n1, n2, rfl, rfl, fun H2 k2 => h H2 (k.trans k2)⟩
theorem kind_keys {i : Nat} (ht : ∀ (E : XK) (Q' : VK), (∀ d H1, Kq [] H H1 → H1 d = none → E (.ref (He.ga K "BadKeys")) (some d) (upd H1 d (.xd [("at", .int (i : Nat))]))) → tl E H Q') (h : ∀ p H', Kq [] H H' → SqT K H' p [.str "BadKeys", .int (i : Nat)] → Q (.ref p) H') : TKind K tl H Q := by
  unfold TKind
  exact ht _ _ fun d H1 k nd => .inr (.inl ⟨d, _, rfl, rfl, upd_same, fun p H2 k2 g => h p H2 ((k.trans (Kq.alloc nd)).trans k2) (SqT.of g)⟩)
theorem kind_pass {R : V → Hp → Prop} (ht : ∀ (E : XK) (Q' : VK), (∀ v H', R v H' → Q' v H') → tl E H Q') (h : ∀ v H', R v H' → Q (.str "") H') : TKind K tl H Q := by
  unfold TKind
  exact ht _ _ fun v H' r => h v H' r
end
theorem keyB_actA {ky : Ky} (h : ky.Ok) : keyB actB (keyV ky) = true := by
  have h0 := keyB_ok h
  cases ky <;> first | exact h0 | decide +kernel
theorem bad_atK {ks : List Ky} (pk : ∀ k ∈ ks, k.Ok) {at_ : Nat} (ha : at_ ≤ ks.length) (lk : ks.length ≤ 30) {xo : List V} (ho : keyB actB xo = false) (r : List (List V)) : firstBad 30 (keyB actB) 0 ((ks.map keyV).take at_ ++ xo :: r) = some at_ := by
  have hl : ((ks.map keyV).take at_).length = at_ := by rw [List.length_take, List.length_map]; omega
  rw [firstBad_app 0 _ _ (fun i hi => by
    rw [hl] at hi
    refine ⟨by omega, ?_⟩
    rw [List.getElem_take, List.getElem_map]
    exact keyB_actA (pk _ (List.getElem_mem _))), hl, Nat.zero_add]
  show (if at_ < 30 ∧ keyB actB xo = true then firstBad 30 (keyB actB) (at_ + 1) r else some at_) = some at_
  rw [if_neg (fun z => by rw [ho] at z; exact absurd z.2 (by decide))]
theorem long_atK {ks : List Ky} (pk : ∀ k ∈ ks, k.Ok) (lk : ks.length = 30) (xo : List V) (r : List (List V)) : firstBad 30 (keyB actB) 0 (ks.map keyV ++ xo :: r) = some 30 := by
  rw [firstBad_app 0 _ _ (fun i hi => by
    rw [List.length_map] at hi
    refine ⟨by omega, ?_⟩
    rw [List.getElem_map]
    exact keyB_actA (pk _ (List.getElem_mem _))), List.length_map, lk]
  show (if 30 < 30 ∧ keyB actB xo = true then firstBad 30 (keyB actB) 31 r else some 30) = some 30
  rw [if_neg (fun z => absurd z.1 (by decide))]
theorem long_twoK {k6 : List Ky} {r12 : Nat} (hr12 : r12 < 2) (p6 : ∀ k ∈ k6, k.Ok) (l6 : k6.length = 30) (a b : List V) : firstBad 30 (keyB actB) 0 (k6.map keyV ++ ([a, b] : List (List V)).take (1 + r12)) = some 30 := by
  obtain ⟨xo, rr, er⟩ : ∃ xo rr, ([a, b] : List (List V)).take (1 + r12) = xo :: rr := ⟨a, ([b] : List (List V)).take r12, by rw [Nat.add_comm]; rfl⟩
  rw [er]
  exact long_atK p6 l6 xo rr
def strsD (l : List Str) : PyData := .list (l.map PyData.str)
theorem dp_strsL {K : PySem.W.Frag} {H : Hp} : ∀ l : List Str, DpAll K H (l.map V.str) (l.map PyData.str)
  | [] => .nil
  | z :: r => .cons (.str z) (dp_strsL r)
theorem shaped_strsL {l : List Str} (h : ∀ z ∈ l, PyData.strOk z = true) : SeqAt.shaped (strsD l) = true := by
  have h1 : ∀ l : List Str, (∀ z ∈ l, PyData.strOk z = true) → PyData.canLayAll0 (l.map PyData.str) = true ∧ PyData.depthAll (l.map PyData.str) = 0 := by
    intro l
    induction l with
    | nil => intro _; exact ⟨rfl, rfl⟩
    | cons z r ih =>
      intro h
      obtain ⟨i1, i2⟩ := ih fun y hy => h y (by simp [hy])
      refine ⟨?_, ?_⟩
      · show (PyData.strOk z && PyData.canLayAll0 (r.map PyData.str)) = true
        rw [h z (by simp), i1]; rfl
      · show max 0 (PyData.depthAll (r.map PyData.str)) = 0
        rw [i2]; rfl
  obtain ⟨i1, i2⟩ := h1 l h
  unfold SeqAt.shaped strsD
  have e1 : PyData.canLay0 (.list (l.map PyData.str)) = PyData.canLayAll0 (l.map PyData.str) := by simp [PyData.canLay0]
  have e2 : PyData.depth (.list (l.map PyData.str)) = PyData.depthAll (l.map PyData.str) + 1 := by simp [PyData.depth]
  rw [e1, e2, i1, i2]; rfl
theorem eqv_same {d : PyData} (h : SeqAt.shaped d = true) : PyData.eqv d d = true := SeqAt.eqv_refl _ (SeqAt.canLay_of_shaped h)
/-- names that are none -/
theorem badName_at {r : Nat} (h : r < 5) : ∃ z : Str, ([.str "", .str "i", .str "A", .str "ab", .str "`"] : List V)[r]? = some (.str z) ∧ nameB (.str z) = false := by
  have : r = 0 ∨ r = 1 ∨ r = 2 ∨ r = 3 ∨ r = 4 := by omega
  rcases this with rfl | rfl | rfl | rfl | rfl
  · exact ⟨_, rfl, by decide +kernel⟩
  · exact ⟨_, rfl, by decide +kernel⟩
  · exact ⟨_, rfl, by decide +kernel⟩
  · exact ⟨_, rfl, by decide +kernel⟩
  · exact ⟨_, rfl, by decide +kernel⟩
end KT
set_option Elab.async false
set_option linter.all false
set_option maxRecDepth 100000
set_option maxHeartbeats 4000000
/-! defs and comprehensions that want a token out -/
namespace KT
open PySem PySem.Spec PyProof.Rows L2
theorem thnT {α : Type} {M : Model} {A : Around} {t : Sem α} {P Q : α → Shared → Prop} {E : Value → Shared → Prop} {s : Shared} (h0 : 1 ≤ s.toks) (h : wpAny M A t P (fun _ _ => False) s) (next : ∀ a s', 1 ≤ s'.toks → P a s' → Q a s') : wpAny M A t Q E s :=
  wpAny_mono (wpAny_toks_of h0 h) (fun a s' z => next a s' z.1 z.2) fun _ _ z => z.2.elim
theorem thnU {α : Type} {M : Model} {A : Around} {t : Sem α} {P Q : α → Shared → Prop} {E : Value → Shared → Prop} {s : Shared} (h0 : 1 ≤ s.toks) (h : wpAny M A t P E s) (next : ∀ a s', 1 ≤ s'.toks → P a s' → Q a s') : wpAny M A t Q E s :=
  wpAny_mono (wpAny_toks_of h0 h) (fun a s' z => next a s' z.1 z.2) fun _ _ z => z.2
section
variable {X : Cx}
/-- y = [elt for target in iter], elt wants a token out -/
theorem pst_setLc {i : Nat} {y : Str} {py : Pos} {elt tg iter : Expr} {scope : Scope} {own : List (Str × Nat)} {pos spos : Pos} {wi : TI} {g : TG} {te : TE} (calm : X.calm = true) (nd : X.N.Nodup) (hy : X.N[i]? = some y) (yLoc : X.env.scope.names.lookup y = some .local)
    (sw : swapsWith (.ListComp elt [⟨tg, iter, [], 0⟩] scope pos) (some (.Name y py)) spos.line X.env = pure true) (walk : PI X tg iter wi) (ok : BlkOk X.N X.env.scope scope own)
    (target : ∀ (s : Shared) (H : Hp) (C : Addr) (cl : List (Str × Addr)) (fp : List Addr), PG (X.blk s H scope (compEnvC scope cl C X.env) fp) tg g)
    (item : ∀ (s : Shared) (H : Hp) (C : Addr) (cl : List (Str × Addr)) (fp : List Addr), PET (X.blk s H scope (compEnvC scope cl C X.env) fp) elt te) (plain : ∀ x, foldedSetIterable iter X.env x = pure x := by intro _; rfl) :
    PST X (.Assign [.Name y py] (.ListComp elt [⟨tg, iter, [], 0⟩] scope pos) spos) (tAsg (tLc wi g tYes te (own.map (·.2))) (gName i)) := by
  intro pins s σ H D t0 I reads
  have reads : tLc wi g tYes te (own.map (·.2)) σ H (fun x H1 => gName i x σ H1 D.nx) := reads
  rw [exec_Assign_Name_used _ _ _ _ sw]
  refine wpAny_bind (wpAny_standAt (wpAny_bind ?_))
  show wpAny _ X.A (do let _ ← comprehension (.ListComp elt [⟨tg, iter, [], 0⟩] scope pos) scope X.env (firstIterPos [⟨tg, iter, [], 0⟩] pos) (newList []) false (eval iter X.env) (some (assign (.Name y py) X.env))) _ _ s
  -- what is done with the list once it is whole
  have keep : ∀ (L C : Addr) (s' : Shared) (m : Str → Option Value) (H' : Hp), Inv X pins σ H' s' → gName i (.ref L) σ H' D.nx → s'.heap.Ns C m → FpOk X pins H' C →
      compPost (model X.prog X.w) X.A X.xe (some (assign (.Name y py) X.env)) (fun _ s2 => SP X pins D .next s2) (.ref L) C (.ok .next) s' := by
    intro L C s' m H' I' told ns away
    obtain ⟨w0, w1, w2, w3, w4, w5⟩ := away
    refine wpAny_assign_Name (store_ok2 (v := V.ref L) I' nd hy (.inl yLoc) rfl (fun s2 I2 ⟨a, same, where_⟩ => ?_) (.inr yLoc))
    have apart : C ≠ a := where_.elim (fun z => by rw [z]; exact w1) fun z e => w4 y a z e.symm
    exact ⟨m, ns.sameBut same apart, fun h3 same3 => ⟨_, H', I2.turned (t' := s2.toks) (fun b o hb e => (same3.2 b hb).trans e) w0 w1 w3 w4 w5, told⟩⟩
  refine wpAny_bind (thn (Q := fun _ s2 => SP X pins D .next s2) ?_ fun _ s' q => wpAny_pure (wpAny_pure q))
  have closes : ∀ n ∈ scope.names, n.2 = .free → ∃ c, X.env.cells.lookup n.1 = some c := fun n hn e => (ok.free n hn e).elim (fun k => I.ok.has _ (.inl k)) fun k => I.ok.has _ (.inr k)
  refine wpAny_comprehension_free (use := some (assign (.Name y py) X.env)) rfl plain (closure_ok closes) ok.kind (fun n hn e => by rw [ok.uniq n hn, e]) ?_
  refine thnU t0 (walk.run pins s σ H _ I reads) fun xv s1 t1 iterates => thnU t1 iterates fun itv s2 t2 started => ?_
  obtain ⟨it, fp, tn, J, H2, rfl, I2, T, st2, away2, more⟩ := started
  refine wpAny_newObj_type (newEnv_comp ?_) (by show 0 ≤ sizeLine; decide)
  generalize eL : s2.heap.objs.size = L
  have nL : H2 L = none := I2.hok.fresh (Nat.le_of_eq eL)
  obtain ⟨W, ⟨m0, w0⟩, turn⟩ := more L nL
  generalize es3 : ({ s2 with heap := s2.heap.push { cls := .type "list", data := .seq ([] : List Value).toArray } } : Shared) = s3
  have tk3 : 1 ≤ s3.toks := by rw [← es3]; exact t2
  have grew : s3.heap = s2.heap.push { cls := .type "list", data := .seq ([] : List Value).toArray } := by rw [← es3]
  have I3 : Inv X pins σ (upd H2 L (.lst [])) s3 := by
    rw [← es3]
    exact I2.laid (t' := s2.toks) (fun b o e => Heap.get?_push_of_some _ e) (Nat.le_of_eq eL) ⟨Nat.zero_le _, [], 0, .nil, by rw [← eL]; exact Heap.get?_push_size _ rfl⟩
  have low : ∀ b ∈ fp, b < L := fun b hb => by
    obtain ⟨o, e, _⟩ := T.obj _ _ st2 b hb
    rw [← eL]
    exact Heap.lt_size e
  have away3 : ∀ b ∈ fp, FpOk X pins (upd H2 L (.lst [])) b ∧ b < s3.heap.objs.size := fun b hb =>
    ⟨⟨by rw [upd_ne (Nat.ne_of_lt (low b hb))]; exact (away2 b hb).1, (away2 b hb).2⟩, by rw [grew, Heap.size_push, eL]; exact Nat.lt_succ_of_lt (low b hb)⟩
  have st3 : tn 0 s3.heap := T.keep _ _ _ st2 fun b _ o e => by rw [grew]; exact Heap.get?_push_of_some _ e
  have I4 := block_start I3 ok nd away3
  have PGt := target s3 (upd H2 L (.lst [])) s3.heap.objs.size (cellsFrom (s3.heap.objs.size + 1) scope.names (cloFrom X.env.cells scope.names [])) fp
  have PEt := item s3 (upd H2 L (.lst [])) s3.heap.objs.size (cellsFrom (s3.heap.objs.size + 1) scope.names (cloFrom X.env.cells scope.names [])) fp
  have none3 : ∀ b ∈ fp, (upd H2 L (.lst [])) b = none := fun b hb => (away3 b hb).1.1
  generalize ece : compEnvC scope (cellsFrom (s3.heap.objs.size + 1) scope.names (cloFrom X.env.cells scope.names [])) s3.heap.objs.size X.env = ce at I4 PGt PEt
  have atL : ce.locals = s3.heap.objs.size := by rw [← ece]; rfl
  show codeAny _ _ (.compStart (.ListComp elt [⟨tg, iter, [], 0⟩] scope pos) 0 (.ref it) (.ref L) (compEnvC scope (cellsFrom (s3.heap.objs.size + 1) scope.names (cloFrom X.env.cells scope.names [])) s3.heap.objs.size X.env)) (compPost (model X.prog X.w) X.A X.xe (some (assign (.Name y py) X.env)) (fun _ s2 => SP X pins D .next s2) (.ref L) s3.heap.objs.size) { s3 with heap := pushCells (s3.heap.push { cls := .type "dict", data := .dict #[] }) scope.names }
  rw [ece]
  generalize eH3 : upd H2 L (.lst []) = H3 at I3 I4 PGt PEt w0 none3 away3
  generalize es4 : ({ s3 with heap := pushCells (s3.heap.push { cls := .type "dict", data := .dict #[] }) scope.names } : Shared) = s4 at I4 ⊢
  have tk4 : 1 ≤ s4.toks := by rw [← es4]; exact tk3
  have st4 : tn 0 s4.heap := T.keep _ _ _ st3 fun b _ o e => by rw [← es4]; exact pushCells_keeps _ _ _ _ (Heap.get?_push_of_some _ e)
  have inBlk : ∀ {σ' : L2.St} {H' : Hp} {s' : Shared}, Inv (X.blk s3 H3 scope ce fp) [] σ' H' s' → (∀ b ∈ fp, H' b = none) → ∀ b ∈ fp, FpOk (X.blk s3 H3 scope ce fp) [] H' b := fun {σ' H' s'} J' nn b hb =>
    ⟨nn b hb, (J'.ok.exf b hb).1, J'.ok.exfs b hb, .inl hb, fun x c e => (J'.ok.exf b hb).2 x c e, fun p hp => absurd (show p ∈ ([] : List (Addr × Obj)) ++ [] from hp) (by simp)⟩
  have whole : codeAny (model X.prog X.w) X.A (.compLoop (.ListComp elt [⟨tg, iter, [], 0⟩] scope pos) 0 (.ref it) (.ref L) ce) (compPost (model X.prog X.w) X.A X.xe (some (assign (.Name y py) X.env)) (fun _ s2 => SP X pins D .next s2) (.ref L) s3.heap.objs.size) s4 := by
    refine compLoop_any (fun n s' => 1 ≤ s'.toks ∧ ∃ j H', Inv (X.blk s3 H3 scope ce fp) [] (wipe σ (own.map (·.2))) H' s' ∧ tn j s'.heap ∧ (∀ b ∈ fp, H' b = none) ∧ W j n H') ?_ m0 ⟨tk4, 0, H3, I4, st4, none3, w0⟩
    rintro n s5 ⟨tk5, j, H5, I5, st5, n5, w5⟩
    rcases turn j n H5 w5 with ⟨stop, ends⟩ | ⟨go, Nx, hNx, step⟩
    · refine thnT tk5 (T.done (X.blk s3 H3 scope ce fp) rfl rfl rfl calm j [] s5 _ H5 (fun _ _ => False) I5 (inBlk I5 n5) st5 stop) fun r s6 _ ⟨er, I6⟩ => ?_
      subst er
      have I7 : Inv X pins σ H5 s6 := I3.call' (ch := fp) I6.os I6.base I6.hok I6.bare fun b hb => ⟨(away3 b hb).1.2.2.2.1, (away3 b hb).1.2.1, (away3 b hb).1.2.2.2.2.1, (away3 b hb).1.2.2.2.2.2⟩
      obtain ⟨m, ns, _⟩ := I6.loc
      have nC : H5 ce.locals = none := I6.free
      have ns : s6.heap.Ns ce.locals m := ns
      rw [atL] at nC ns
      exact keep L s3.heap.objs.size s6 m H5 I7 ends ns (I3.fpOk (Nat.le_refl _) nC)
    · refine thnT tk5 (T.item (X.blk s3 H3 scope ce fp) rfl rfl rfl calm j [] s5 _ H5 (fun _ _ => False) I5 (inBlk I5 n5) st5 go) fun r s6 tk6 ⟨u, er, goes⟩ => ?_
      subst er
      refine thnT tk6 goes fun _ s7 tk7 ⟨x, H7, I7, r7, y7, st7, n7⟩ => ?_
      refine thnT tk7 (PGt.run _ s7 _ H7 x u _ (I7.pinned (inBlk I7 n7) (T.obj _ _ st7)) r7 (step x H7 y7)) fun _ s8 tk8 ⟨σ8, H8, I8, same8, q8⟩ => ?_
      refine wpAny_tests_nil ?_
      show wpAny _ _ (eval elt ce) _ _ s8
      have q8 : te σ8 H8 fun y H4 => ∃ acc, H4 L = some (.lst acc) ∧ acc.length < sizeLine ∧ Nx (upd H4 L (.lst (acc ++ [y]))) := by
        have z := q8
        unfold tYes at z
        dsimp only at z
        rw [if_pos rfl] at z
        exact z
      refine thnT tk8 (PEt _ s8 σ8 H8 _ tk8 I8 q8) fun z s9 tk9 ⟨yv, H9, I9, r9, acc, gL, small, nx⟩ => ?_
      refine wpAny_with_toks tk9 (app_ok (X := X.blk s3 H3 scope ce fp) I9 gL small r9 fun s10 I10 tk10 => ?_)
      obtain ⟨m', hm, w'⟩ := hNx _ nx
      have still : ∀ b ∈ fp, ∀ o, s7.heap.get? b = some o → s10.heap.get? b = some o ∧ (upd H9 L (.lst (acc ++ [yv]))) b = none := fun b hb o e =>
        let p := I10.pin (b, o) (List.mem_append_right _ (List.mem_append_right _ (mem_pinsAt hb e)))
        ⟨p.1, p.2.1⟩
      have ln : (wipe σ (own.map (·.2))).length = σ8.length := by rw [← same8, wipe_length]
      refine ⟨m', hm, tk10, j + 1, _, (I10.unpinned (pins := [])).weak ln (fun k v e => ?_), T.keep _ _ _ st7 fun b hb o e => (still b hb o e).1, fun b hb => ?_, w'⟩
      · rw [← same8] at e
        exact (wipe_some e).1
      · obtain ⟨o, e, _⟩ := T.obj _ _ st7 b hb
        exact (still b hb o e).2
  exact codeAny_compStart_list whole (T.self X.A 0 _ _ _ st4 whole)
end
section
variable {P : Program} {w : World} {K : PySem.W.Frag} {mg : Str → Option Value} {base : Heap}
/-- a def with a parameter at least: a token is out where its body begins -/
theorem mkFT {d : He.DefD} {N ps : List Str} {k : Nat} {sp : Sp} (F : FnT K d) (S : FnScope N ps d.scope) (hd : d.dfl = []) (hnc : ∀ y ∈ d.scope.names, y.2 ≠ .cell) (hps : 1 ≤ ps.length)
    (hb : ∀ (kV doc pm : Value) (an : Option Addr) (cdv ct : Value) (us : List Value), us.length = ps.length → bindArgs (PySem.W.fnOf d.name d.qual d.params d.body d.scope .none kV doc pm an cdv ct) ⟨us, []⟩ = pure (ps.zip us))
    (len : ∀ vs H Q E, sp vs H Q E → vs.length = ps.length)
    (hbody : ∀ (cdv : Value) (A : Around) (outer : List Env) (s : Shared) (H : Hp) (vs : List V) (Q : VK) (E : XK),
      PySem.W.codeIn K cdv d.qual = true → cdv = .ref (He.codeOf K d.at_) →
      Room k (CxD P w K mg base N d cdv A outer s H E).A → sp vs H Q E →
      ∃ t, PSsT (CxD P w K mg base N d cdv A outer s H E) d.body t ∧ t { nx := fun _ H' => Q .non H', rt := Q } (start N vs) H) : Fk P w K mg base (k + 1) (Ad K d.at_) ps sp := by
  have e0 : d.dvs K = [] := by unfold He.DefD.dvs; rw [hd]; rfl
  have F' : FunD K d.name d.qual d.params d.body d.scope [] (d.kws K) (Ad K d.at_) (fdOf K (Ad K d.at_)) := by
    have z := F
    unfold FnT at z
    rw [e0] at z
    exact z
  refine ⟨?_, F'.bindsN hb, F'.kp⟩
  obtain ⟨oc, od, dV, kV, doc, pm, an, cdv, ct, osl, e, lk, hcd, _, _⟩ := F'.ex
  have hcode : cdv = .ref (He.codeOf K d.at_) := by
    obtain ⟨c, hc⟩ := He.codeIn_ref hcd
    rw [hc, He.codeOf_eq lk (by rw [e]; exact hc)]
  rw [e] at lk ⊢
  exact fn_ofT lk hcd S hnc hps len fun A outer s H vs Q E hr hsp => hbody cdv A outer s H vs Q E hcd hcode hr hsp
end
end KT
set_option Elab.async false
set_option linter.all false
set_option maxRecDepth 100000
set_option maxHeartbeats 4000000
namespace KT
open PySem PySem.Spec PyProof.Rows L2
variable [GT]
/-! ### lambdas that are kept, and called later by a def that gets them -/
def LamO (q : Str) (params : Arguments) (body : Expr) (scope : Scope) (cl : List (Str × Addr)) (f c' : Addr) : HO :=
  .ext fun h => ∃ pm ctv, h.get? f = some (PySem.W.kla_obj "<lambda>" q params body scope cl pm c' ctv)
def LdO (q : Str) (params : Arguments) (body : Expr) (scope : Scope) (cl : List (Str × Addr)) (f c' T : Addr) : HO :=
  .ext fun h => ∃ doc pm ctv, h.get? f = some (ldObj q params body scope cl T doc pm (.ref c') ctv)
def OneO (T : Addr) : HO := .ext fun h => ∃ v, h.get? T = some (oneTup v)
/-- a lambda of this frame -/
def IsLam (X : Cx) (params : Arguments) (body : Expr) (scope : Scope) (H : Hp) (f : Addr) : Prop :=
  ∃ c', H f = some (LamO (X.env.qual ++ "<lambda>") params body scope (cloFrom X.env.cells scope.names []) f c') ∧ H c' = some (LamX.CodeO c' (X.env.qual ++ "<lambda>"))
/-- one with a parameter that has a default -/
def IsLamD (X : Cx) (params : Arguments) (body : Expr) (scope : Scope) (H : Hp) (f : Addr) : Prop :=
  ∃ c' T, H f = some (LdO (X.env.qual ++ "<lambda>") params body scope (cloFrom X.env.cells scope.names []) f c' T) ∧ H T = some (OneO T) ∧ H c' = some (LamX.CodeO c' (X.env.qual ++ "<lambda>"))
/-- what stays where nothing is lost -/
def Stays (fx : Hp → Addr → Prop) : Prop := ∀ (S : List Addr) (H H1 : Hp) (f : Addr), Kf S H H1 → fx H f → fx H1 f
theorem stays_lam (X : Cx) (params : Arguments) (body : Expr) (scope : Scope) : Stays (IsLam X params body scope) := by
  rintro S H H1 f k ⟨c', h1, h2⟩
  exact ⟨c', k.get h1 rfl, k.get h2 rfl⟩
theorem stays_lamD (X : Cx) (params : Arguments) (body : Expr) (scope : Scope) : Stays (IsLamD X params body scope) := by
  rintro S H H1 f k ⟨c', T, h1, h2, h3⟩
  exact ⟨c', T, k.get h1 rfl, k.get h2 rfl, k.get h3 rfl⟩
theorem Stays.kq {fx : Hp → Addr → Prop} (h : Stays fx) {H H1 : Hp} {f : Addr} (k : Kq [] H H1) (g : fx H f) : fx H1 f := h [] H H1 f (Kf.of k (fun b hb => absurd hb (by simp))) g
theorem Gr.laid {P : Addr} {q : Str} {H H1 : Hp} {f : Addr} {o : HO} (g : Gr P q H H1) (nf : H1 f = none) : Gr P q H (upd H1 f o) := by
  obtain ⟨ps, t1, t2, t3⟩ := g.tab
  refine ⟨fun b u e n => ?_, ⟨ps, (upd_ne (ne_of_none t1 nf)).trans t1, t2, fun pos cv h => ?_⟩, fun b e => ?_⟩
  · have z := g.at_ b u e n
    exact (upd_ne (ne_of_none z nf)).trans z
  · obtain ⟨c, e1, e2⟩ := t3 pos cv h
    exact ⟨c, e1, (upd_ne (ne_of_none e2 nf)).trans e2⟩
  · by_cases z : b = f
    · rw [z, upd_same] at e; cases e
    · rw [upd_ne z] at e
      exact g.fr b e
/-- what the making of a lambda reads -/
def tLamV (P : Addr) (q : Str) (fx : Hp → Addr → Prop) : TE := fun _ H Q => LamX.TabS H P q ∧ ∀ (H1 : Hp) (f : Addr), Gr P q H H1 → H f = none → fx H1 f → Q (.ref f) H1
section
variable {X : Cx} {pins : List (Addr × Obj)} {σ : L2.St} {H : Hp} {s : Shared}
theorem lam_mkV {c P : Addr} {params : Arguments} {body : Expr} {scope : Scope} {pos : Pos} {Er Qr : Value → Shared → Prop} (I : Inv X pins σ H s) (TB : LamX.TabB X.base X.mg c P) (hcode : X.env.code = .ref c)
    (hT : LamX.TabS H P (X.env.qual ++ "<lambda>")) (hdef : defaultsOf params X.env = ([], [])) (hfree : ∀ y ∈ scope.names, y.2 = .free → ∃ c, X.env.cells.lookup y.1 = some c)
    (fin : ∀ (f : Addr) (H1 : Hp) (s1 : Shared), Inv X pins σ H1 s1 → Gr P (X.env.qual ++ "<lambda>") H H1 → H f = none → IsLam X params body scope H1 f → Qr (.ref f) s1) :
    wpAny (model X.prog X.w) X.A (eval (.Lambda params body scope pos) X.env) Qr Er s := by
  obtain ⟨ps, tP, tOk, tAll⟩ := hT
  have builtP : s.heap.BuiltinsAt X.mg P := TB.bm.keeps I.bk
  have heapP : s.heap.get? P = some { cls := .none, data := .fields ps } := I.hok P _ tP
  refine PySem.W.kla_eval hdef ?_
  by_cases known : ∃ cv, codeAmong pos ps.toList = some cv
  · obtain ⟨cv, found⟩ := known
    obtain ⟨c', rfl, isCode⟩ := tAll pos cv found
    refine PySem.W.kla_makeFunctionHit (c := c) (P := P) (mg := X.mg) (ps := ps) (closure_ok hfree) I.ok.glob (I.mod.glob.keeps I.bk) hcode (TB.code.keeps I.bk) heapP tOk found builtP ?_
    intro ctv h' tk grows big
    have nf : H h'.objs.size = none := I.hok.fresh big
    have inv0 := I.kept (t' := tk) (h' := h') grows
    have inv1 := inv0.laid (a := h'.objs.size) (o := LamO (X.env.qual ++ "<lambda>") params body scope (cloFrom X.env.cells scope.names []) h'.objs.size c') (t' := tk) (h' := h'.push (PySem.W.kla_obj "<lambda>" (X.env.qual ++ "<lambda>") params body scope (cloFrom X.env.cells scope.names []) ((X.mg "__name__").getD .none) c' ctv)) (fun b o e => Heap.get?_push_of_some _ e) (Nat.le_refl _) ⟨⟨_, _, Heap.get?_push_size _ rfl⟩, ⟨_, Heap.get?_push_size _ rfl⟩, fun h1 h2 ⟨pm, ctv, e⟩ z => ⟨pm, ctv, z _ e⟩⟩
    have gr : Gr P (X.env.qual ++ "<lambda>") H H := ⟨fun _ _ e _ => e, ⟨ps, tP, tOk, tAll⟩, fun _ e => e⟩
    exact fin h'.objs.size _ _ inv1 (gr.laid nf) nf ⟨c', upd_same, (upd_ne (ne_of_none isCode nf)).trans isCode⟩
  · have none_ : codeAmong pos ps.toList = none := by
      cases e : codeAmong pos ps.toList with
      | none => rfl
      | some cv => exact absurd ⟨cv, e⟩ known
    refine PySem.W.kla_makeFunction (c := c) (P := P) (mg := X.mg) (ps := ps) (closure_ok hfree) I.ok.glob (I.mod.glob.keeps I.bk) hcode (TB.code.keeps I.bk) heapP tOk none_ TB.gP builtP ?_
    intro c' ctv h' tk others big lower isRec table
    obtain ⟨c2, oc, fs, t, sameC, getC, dataC, nameC⟩ := isRec
    cases sameC
    have freeC : H c' = none := I.hok.fresh big
    have size : s.heap.objs.size ≤ h'.objs.size := Nat.le_trans big (Nat.le_of_lt lower)
    have inv0 := LamX.inv_table (t' := tk) (q := X.env.qual ++ "<lambda>") (more := #[rawInt pos.line, rawInt pos.col, .ref c']) (h' := h') I tP others table big ⟨oc, fs, t, getC, dataC, nameC⟩
    have pc : P ≠ c' := ne_of_none tP freeC
    have kept : ∀ b o, H b = some o → b ≠ P → upd (upd H P (.tbl (ps ++ #[rawInt pos.line, rawInt pos.col, .ref c']))) c' (LamX.CodeO c' (X.env.qual ++ "<lambda>")) b = some o := fun b o e ne => by
      rw [upd_ne (ne_of_none e freeC), upd_ne ne]
      exact e
    have asList : (ps ++ #[rawInt pos.line, rawInt pos.col, .ref c']).toList = ps.toList ++ [rawInt pos.line, rawInt pos.col, .ref c'] := by simp
    have n1 : h'.objs.size ≠ c' := Nat.ne_of_gt lower
    have n2 : h'.objs.size ≠ P := Nat.ne_of_gt (Nat.lt_of_lt_of_le (Heap.lt_size heapP) size)
    have nf0 : H h'.objs.size = none := I.hok.fresh size
    have nf : upd (upd H P (.tbl (ps ++ #[rawInt pos.line, rawInt pos.col, .ref c']))) c' (LamX.CodeO c' (X.env.qual ++ "<lambda>")) h'.objs.size = none := by
      rw [upd_ne n1, upd_ne n2]
      exact nf0
    have inv1 := inv0.laid (a := h'.objs.size) (o := LamO (X.env.qual ++ "<lambda>") params body scope (cloFrom X.env.cells scope.names []) h'.objs.size c') (t' := tk) (h' := h'.push (PySem.W.kla_obj "<lambda>" (X.env.qual ++ "<lambda>") params body scope (cloFrom X.env.cells scope.names []) ((X.mg "__name__").getD .none) c' ctv)) (fun b o e => Heap.get?_push_of_some _ e) (Nat.le_refl _) ⟨⟨_, _, Heap.get?_push_size _ rfl⟩, ⟨_, Heap.get?_push_size _ rfl⟩, fun h1 h2 ⟨pm, ctv, e⟩ z => ⟨pm, ctv, z _ e⟩⟩
    have gr : Gr P (X.env.qual ++ "<lambda>") H (upd (upd H P (.tbl (ps ++ #[rawInt pos.line, rawInt pos.col, .ref c']))) c' (LamX.CodeO c' (X.env.qual ++ "<lambda>"))) := by
      refine ⟨kept, ⟨ps ++ #[rawInt pos.line, rawInt pos.col, .ref c'], (upd_ne pc).trans upd_same, by rw [asList]; exact PySem.TriplesOk_snoc _ _ _ _ tOk, ?_⟩, ?_⟩
      · intro pos' cv among
        rw [asList] at among
        rcases LamX.among_app _ tOk among with old | new
        · obtain ⟨c0, e0, code0⟩ := tAll pos' cv old
          exact ⟨c0, e0, kept _ _ code0 fun z => by subst z; rw [tP] at code0; unfold LamX.CodeO at code0; cases code0⟩
        · exact ⟨c', new, upd_same⟩
      · intro b e
        by_cases e1 : b = c'
        · rw [e1]; exact freeC
        · rw [upd_ne e1] at e
          by_cases e2 : b = P
          · rw [e2, upd_same] at e; cases e
          · rw [upd_ne e2] at e; exact e
    exact fin h'.objs.size _ _ inv1 (gr.laid nf) nf0 ⟨c', upd_same, (upd_ne n1.symm).trans upd_same⟩
theorem pe_lamV {c P : Addr} {params : Arguments} {body : Expr} {scope : Scope} {pos : Pos} (TB : LamX.TabB X.base X.mg c P) (hcode : X.env.code = .ref c) (L : LamX.LamS X.env.scope scope) (hdef : defaultsOf params X.env = ([], [])) :
    PE X (.Lambda params body scope pos) (tLamV P (X.env.qual ++ "<lambda>") (IsLam X params body scope)) :=
  ⟨fun pins s σ H Q I ⟨tab, rest⟩ => lam_mkV I TB hcode tab hdef (L.has I.ok) fun f H1 s1 inv1 gr nf isL => ⟨.ref f, H1, inv1, rfl, rest H1 f gr nf isL⟩⟩
theorem lam_mkVD {c P : Addr} {params : Arguments} {body : Expr} {scope : Scope} {pos : Pos} {Er Qr : Value → Shared → Prop} {de : Expr} (I : Inv X pins σ H s) (TB : LamX.TabB X.base X.mg c P) (hcode : X.env.code = .ref c)
    (hT : LamX.TabS H P (X.env.qual ++ "<lambda>")) (hde : params.defaults = [de]) (hkd : params.kw_defaults = []) (hko : params.kwonlyargs = []) (hc : de.isPlainConst = true) (hfree : ∀ y ∈ scope.names, y.2 = .free → ∃ c, X.env.cells.lookup y.1 = some c)
    (fin : ∀ (f : Addr) (H1 : Hp) (s1 : Shared), Inv X pins σ H1 s1 → Gr P (X.env.qual ++ "<lambda>") H H1 → H f = none → IsLamD X params body scope H1 f → Qr (.ref f) s1) :
    wpAny (model X.prog X.w) X.A (eval (.Lambda params body scope pos) X.env) Qr Er s := by
  rw [arm_eval_Lambda, defaultsOf_eq, hkd, hde]
  refine wpAny_bind (wpAny_evalAll_consts _ _ _ (fun e he => by rw [List.mem_singleton.mp he]; exact hc) fun vs tk0 hvs => ?_)
  obtain ⟨v, rfl⟩ : ∃ v, vs = [v] := by
    match vs, hvs with
    | [v], _ => exact ⟨v, rfl⟩
  refine wpAny_bind (wpAny_holding (wpAny_pure ?_))
  rw [makeFunction_eq, hko]
  refine wpAny_bind (wpAny_newTextTuple (wpAny_bind (wpAny_pure (wpAny_bind (wpAny_pure ?_)))))
  have fT0 : H s.heap.objs.size = none := I.hok.fresh (Nat.le_refl _)
  have I2 : Inv X pins σ (upd H s.heap.objs.size (OneO s.heap.objs.size)) { s with heap := s.heap.push (oneTup v), toks := tk0 } := I.laid (a := s.heap.objs.size) (o := OneO s.heap.objs.size) (t' := tk0) (h' := s.heap.push (oneTup v)) (fun b o e => Heap.get?_push_of_some _ e) (Nat.le_refl _) ⟨⟨_, Heap.get?_push_size _ rfl⟩, ⟨_, Heap.get?_push_size _ rfl⟩, fun h1 h2 ⟨v, e⟩ z => ⟨v, z _ e⟩⟩
  have gT : (s.heap.push (oneTup v)).get? s.heap.objs.size = some (oneTup v) := Heap.get?_push_size _ rfl
  have lower0 : s.heap.objs.size < (s.heap.push (oneTup v)).objs.size := Heap.lt_size gT
  generalize s.heap.objs.size = T at gT lower0 fT0 I2 ⊢
  generalize (s.heap.push (oneTup v)) = h2 at I2 gT lower0 ⊢
  have gr0 : Gr P (X.env.qual ++ "<lambda>") H (upd H T (OneO T)) := Gr.laid ⟨fun _ _ e _ => e, hT, fun _ e => e⟩ fT0
  have hT0 := hT
  have hT : LamX.TabS (upd H T (OneO T)) P (X.env.qual ++ "<lambda>") := gr0.tab
  have gTH : (upd H T (OneO T)) T = some (OneO T) := upd_same
  generalize hH0 : upd H T (OneO T) = H0 at I2 gr0 hT gTH
  obtain ⟨ps, tP, tOk, tAll⟩ := hT
  have builtP : h2.BuiltinsAt X.mg P := TB.bm.keeps I2.bk
  have heapP : h2.get? P = some { cls := .none, data := .fields ps } := I2.hok P _ tP
  by_cases known : ∃ cv, codeAmong pos ps.toList = some cv
  · obtain ⟨cv, found⟩ := known
    obtain ⟨c', rfl, isCode⟩ := tAll pos cv found
    refine PySem.W.kdv_makeTailHit (c := c) (P := P) (mg := X.mg) (ps := ps) (closure_ok hfree) I2.ok.glob (I2.mod.glob.keeps I2.bk) hcode (TB.code.keeps I2.bk) heapP tOk found builtP ?_
    intro ctv doc h' tk grows big
    have nf : H0 h'.objs.size = none := I2.hok.fresh big
    have inv0 := I2.kept (t' := tk) (h' := h') grows
    have inv1 := inv0.laid (a := h'.objs.size) (o := LdO (X.env.qual ++ "<lambda>") params body scope (cloFrom X.env.cells scope.names []) h'.objs.size c' T) (t' := tk) (h' := h'.push (ldObj (X.env.qual ++ "<lambda>") params body scope (cloFrom X.env.cells scope.names []) T doc ((X.mg "__name__").getD .none) (.ref c') ctv)) (fun b o e => Heap.get?_push_of_some _ e) (Nat.le_refl _) ⟨⟨_, _, _, Heap.get?_push_size _ rfl⟩, ⟨_, Heap.get?_push_size _ rfl⟩, fun h1 h2 ⟨doc, pm, ctv, e⟩ z => ⟨doc, pm, ctv, z _ e⟩⟩
    exact fin h'.objs.size _ _ inv1 (gr0.laid nf) (gr0.fr _ nf) ⟨c', T, upd_same, (upd_ne (ne_of_none gTH nf)).trans gTH, (upd_ne (ne_of_none isCode nf)).trans isCode⟩
  · have none_ : codeAmong pos ps.toList = none := by
      cases e : codeAmong pos ps.toList with
      | none => rfl
      | some cv => exact absurd ⟨cv, e⟩ known
    refine PySem.W.kdv_makeTail (c := c) (P := P) (mg := X.mg) (ps := ps) (closure_ok hfree) I2.ok.glob (I2.mod.glob.keeps I2.bk) hcode (TB.code.keeps I2.bk) heapP tOk none_ TB.gP builtP ?_
    intro c' ctv doc h' tk others big lower isRec table
    obtain ⟨c2, oc, fs, t, sameC, getC, dataC, nameC⟩ := isRec
    cases sameC
    have freeC : H0 c' = none := I2.hok.fresh big
    have size : h2.objs.size ≤ h'.objs.size := Nat.le_trans big (Nat.le_of_lt lower)
    have inv0 := LamX.inv_table (t' := tk) (q := X.env.qual ++ "<lambda>") (more := #[rawInt pos.line, rawInt pos.col, .ref c']) (h' := h') I2 tP others table big ⟨oc, fs, t, getC, dataC, nameC⟩
    have pc : P ≠ c' := ne_of_none tP freeC
    have kept : ∀ b o, H0 b = some o → b ≠ P → upd (upd H0 P (.tbl (ps ++ #[rawInt pos.line, rawInt pos.col, .ref c']))) c' (LamX.CodeO c' (X.env.qual ++ "<lambda>")) b = some o := fun b o e ne => by
      rw [upd_ne (ne_of_none e freeC), upd_ne ne]
      exact e
    have asList : (ps ++ #[rawInt pos.line, rawInt pos.col, .ref c']).toList = ps.toList ++ [rawInt pos.line, rawInt pos.col, .ref c'] := by simp
    have n1 : h'.objs.size ≠ c' := Nat.ne_of_gt lower
    have n2 : h'.objs.size ≠ P := Nat.ne_of_gt (Nat.lt_of_lt_of_le (Heap.lt_size heapP) size)
    have nf0 : H0 h'.objs.size = none := I2.hok.fresh size
    have TneP : T ≠ P := fun e => by rw [e, tP] at gTH; unfold OneO at gTH; cases gTH
    have nf : upd (upd H0 P (.tbl (ps ++ #[rawInt pos.line, rawInt pos.col, .ref c']))) c' (LamX.CodeO c' (X.env.qual ++ "<lambda>")) h'.objs.size = none := by
      rw [upd_ne n1, upd_ne n2]
      exact nf0
    have inv1 := inv0.laid (a := h'.objs.size) (o := LdO (X.env.qual ++ "<lambda>") params body scope (cloFrom X.env.cells scope.names []) h'.objs.size c' T) (t' := tk) (h' := h'.push (ldObj (X.env.qual ++ "<lambda>") params body scope (cloFrom X.env.cells scope.names []) T doc ((X.mg "__name__").getD .none) (.ref c') ctv)) (fun b o e => Heap.get?_push_of_some _ e) (Nat.le_refl _) ⟨⟨_, _, _, Heap.get?_push_size _ rfl⟩, ⟨_, Heap.get?_push_size _ rfl⟩, fun h1 h2 ⟨doc, pm, ctv, e⟩ z => ⟨doc, pm, ctv, z _ e⟩⟩
    have gr : Gr P (X.env.qual ++ "<lambda>") H (upd (upd H0 P (.tbl (ps ++ #[rawInt pos.line, rawInt pos.col, .ref c']))) c' (LamX.CodeO c' (X.env.qual ++ "<lambda>"))) := by
      refine ⟨fun b o e n => kept b o (gr0.at_ b o e n) n, ⟨ps ++ #[rawInt pos.line, rawInt pos.col, .ref c'], (upd_ne pc).trans upd_same, by rw [asList]; exact PySem.TriplesOk_snoc _ _ _ _ tOk, ?_⟩, ?_⟩
      · intro pos' cv among
        rw [asList] at among
        rcases LamX.among_app _ tOk among with old | new
        · obtain ⟨c0, e0, code0⟩ := tAll pos' cv old
          exact ⟨c0, e0, kept _ _ code0 fun z => by subst z; rw [tP] at code0; unfold LamX.CodeO at code0; cases code0⟩
        · exact ⟨c', new, upd_same⟩
      · intro b e
        by_cases e1 : b = c'
        · rw [e1]; exact gr0.fr _ freeC
        · rw [upd_ne e1] at e
          by_cases e2 : b = P
          · rw [e2, upd_same] at e; cases e
          · rw [upd_ne e2] at e; exact gr0.fr _ e
    have gT2 := kept T _ gTH TneP
    exact fin h'.objs.size _ _ inv1 (gr.laid nf) (gr0.fr _ nf0) ⟨c', T, upd_same, (upd_ne (ne_of_none gT2 nf)).trans gT2, (upd_ne n1.symm).trans upd_same⟩
theorem pe_lamVD {c P : Addr} {params : Arguments} {body : Expr} {scope : Scope} {pos : Pos} {de : Expr} (TB : LamX.TabB X.base X.mg c P) (hcode : X.env.code = .ref c) {pn0 : Str} (L : LamD X.N X.env.scope scope pn0) (hde : params.defaults = [de]) (hkd : params.kw_defaults = []) (hko : params.kwonlyargs = []) (hc : de.isPlainConst = true) :
    PE X (.Lambda params body scope pos) (tLamV P (X.env.qual ++ "<lambda>") (IsLamD X params body scope)) :=
  ⟨fun pins s σ H Q I ⟨tab, rest⟩ => lam_mkVD I TB hcode tab hde hkd hko hc (L.has I.ok) fun f H1 s1 inv1 gr nf isL => ⟨.ref f, H1, inv1, rfl, rest H1 f gr nf isL⟩⟩
/-- what a kept lambda does when a def that got it calls it -/
def ActV (X : Cx) (k : Nat) (Ng : List Str) (qg : Str) (sg : Scope) (g : Addr) (cdg : Value) (a : Str) (fx : Hp → Addr → Prop) (t : XK → TE) : Prop :=
  ∀ (pins : List (Addr × Obj)) (σ : L2.St) (H : Hp) (s : Shared) (f : Addr), Inv X pins σ H s → ∀ (W : WX) (pn : List (Addr × Obj)) (xe : Value → Shared → Prop) (p1 p2 : Pos),
    Takes ((cxOf C8.CX0 X.prog X.w X.K X.mg X.base Ng qg sg g cdg X.A X.stack s H C8.E0).tr pn xe) W → Room (k + 1) (X.A.deeper (envOfC qg sg s.heap.objs.size g cdg)) →
    PE ((cxOf C8.CX0 X.prog X.w X.K X.mg X.base Ng qg sg g cdg X.A X.stack s H C8.E0).tr pn xe) (.Call (.Name a p1) [] [] p2)
      (fun σZ HZ Q => ∃ Ech : XK, (∀ cls d H', Ech cls d H' → W cls d σZ H') ∧ σZ[0]? = some (some (.ref f)) ∧ fx HZ f ∧ t Ech σ HZ Q)
theorem ActV.mono {X : Cx} {k k' : Nat} {Ng : List Str} {qg : Str} {sg : Scope} {g : Addr} {cdg : Value} {a : Str} {fx : Hp → Addr → Prop} {t : XK → TE} (h : ActV X k Ng qg sg g cdg a fx t) (le : k ≤ k') : ActV X k' Ng qg sg g cdg a fx t :=
  fun pins σ H s f I W pn xe p1 p2 tk room => h pins σ H s f I W pn xe p1 p2 tk (room.mono (by omega))
theorem act_lam {Ng : List Str} {qg : Str} {sg : Scope} {g : Addr} {cdg : Value} {params : Arguments} {body : Expr} {scope : Scope} {k : Nat} {a : Str} {t : XK → TE} (L : LamX.LamS X.env.scope scope)
    (hbind : ∀ (q : Str) (cl : List (Str × Addr)) (pm cv ctv : Value), bindArgs (PySem.W.kla_fn "<lambda>" q params body scope cl pm cv ctv) ⟨[], []⟩ = pure [])
    (runs : ∀ (A : Around) (outer : List Env) (s : Shared) (H : Hp) (E : XK) (f c' : Addr), Room k (A.deeper (LamX.lamEnv X scope s.heap.objs.size f c')) → PE (LamX.lamCx X A outer s H E scope f c') body (t E))
    (hN : Ng[0]? = some a) (hv : Vis sg a) (hd : (a == ("__debug__" : Str)) = false := by decide) (hcd : (a == ("__classdict__" : Str)) = false := by decide) : ActV X k Ng qg sg g cdg a (IsLam X params body scope) t := by
  intro pins σ H s f I W pn xe p1 p2 tk room
  refine ⟨fun pinsZ sZ σZ HZ Q IZ ⟨Ech, lets, slot, ⟨c', isF, code⟩, reads⟩ => ?_⟩
  have var := (pe_var (i := 0) (pos := p1) hN hv hd hcd).run pinsZ sZ σZ HZ (fun v H1 => v = .ref f ∧ H1 = HZ) IZ ⟨.ref f, slot, rfl, rfl⟩
  refine wpAny_Call_Name_kw (thn var fun u s1 told => ?_)
  obtain ⟨v, H1, inv1, rel, sameV, sameH⟩ := told
  subst sameV
  rw [sameH] at inv1
  obtain rfl : u = Value.ref f := rel
  obtain ⟨pm, ctv, still⟩ := (inv1.hok f _ isF).1
  have changes : Un (frs X.stack) [] H HZ s.heap s1.heap := inv1.base
  obtain ⟨oc, fs, tok, getC, dataC, nameC⟩ := (inv1.hok c' _ code).1
  refine PySem.W.callWith_F0 ⟨_, _, _, _, still⟩ (wpAny_call (codeAny_mono (R := CR (L2.CX X.prog X.w) (envOfC qg sg s.heap.objs.size g cdg :: X.stack) X.prog X.w HZ s1 Q Ech) ?_ ?_))
  · refine PySem.W.kla_callFunE room.depth still rfl L.co L.gen rfl ⟨c', oc, fs, tok, rfl, getC, dataC, nameC⟩ ?_
    have sameArgs : (⟨([] : List Value) ++ [], []⟩ : Args) = ⟨[], []⟩ := rfl
    rw [sameArgs, hbind]
    refine wpAny_pure (wpAny_newFunctionEnv (fun y hy => (L.own y hy).2) (fun y hy => absurd hy (by simp)) ?_ L.kind)
    intro h1 names fresh
    refine ⟨inv1.nolimit.fresh _ fresh, ?_⟩
    have keeps : ∀ b o, s1.heap.get? b = some o → h1.get? b = some o := fun b o e => fresh.extBut b o (Nat.ne_of_lt (Heap.lt_size e)) (Heap.get?_push_of_some _ e)
    have inv2 : Inv (LamX.lamCx X (X.A.deeper (envOfC qg sg s.heap.objs.size g cdg)) (envOfC qg sg s.heap.objs.size g cdg :: X.stack) s1 HZ Ech scope f c') [] σ HZ { s1 with heap := h1, toks := s1.toks + ([] : List (Str × Value)).length } :=
      LamX.lam_start2 I L inv1.env0 room.hd changes names keeps
    refine PySem.W.kla_codeExpr (wpAny_mono ((runs _ _ s1 HZ Ech f c' (room.deeper _)).run [] _ _ HZ Q inv2 reads) ?_ fun _ _ z => z)
    intro v s2 ⟨w2, H2, inv3, rel2, q2⟩
    exact ⟨w2, H2, inv3.os, inv3.bare, inv3.base, inv3.hok, rel2, q2⟩
  · intro r s2 told
    rcases r with e | fl
    · exact tk e s2 (XE.of_call inv1 (fun cls d H' z => lets cls d H' z) told)
    · rcases fl with _ | _ | _ | u <;> first | exact inv1.after told | exact False.elim told
theorem act_lamD {Ng : List Str} {qg : Str} {sg : Scope} {g : Addr} {cdg : Value} {params : Arguments} {body : Expr} {scope : Scope} {k : Nat} {a pn0 : Str} {t : XK → TE} (L : LamD X.N X.env.scope scope pn0)
    (hbind : ∀ (q : Str) (cl : List (Str × Addr)) (T : Addr) (doc pm cv ctv : Value), ∃ kk, bindArgs (ldFn q params body scope cl T doc pm cv ctv) ⟨[], []⟩ = seqItems? (.ref T) >>= kk ∧ ∀ v : Value, kk (some [v].toArray) = pure [(pn0, v)])
    (runs : ∀ (A : Around) (outer : List Env) (s : Shared) (H : Hp) (E : XK) (f c' : Addr), Room k (A.deeper (LamX.lamEnv X scope s.heap.objs.size f c')) → PE (LamX.lamCx X A outer s H E scope f c') body (t E))
    (hN : Ng[0]? = some a) (hv : Vis sg a) (hd : (a == ("__debug__" : Str)) = false := by decide) (hcd : (a == ("__classdict__" : Str)) = false := by decide) : ActV X k Ng qg sg g cdg a (IsLamD X params body scope) t := by
  intro pins σ H s f I W pn xe p1 p2 tk room
  refine ⟨fun pinsZ sZ σZ HZ Q IZ ⟨Ech, lets, slot, ⟨c', T, isF, isT, code⟩, reads⟩ => ?_⟩
  have var := (pe_var (i := 0) (pos := p1) hN hv hd hcd).run pinsZ sZ σZ HZ (fun v H1 => v = .ref f ∧ H1 = HZ) IZ ⟨.ref f, slot, rfl, rfl⟩
  refine wpAny_Call_Name_kw (thn var fun u s1 told => ?_)
  obtain ⟨v, H1, inv1, rel, sameV, sameH⟩ := told
  subst sameV
  rw [sameH] at inv1
  obtain rfl : u = Value.ref f := rel
  obtain ⟨doc, pm, ctv, still⟩ := (inv1.hok f _ isF).1
  obtain ⟨dv, stillT⟩ := (inv1.hok T _ isT).1
  have changes : Un (frs X.stack) [] H HZ s.heap s1.heap := inv1.base
  obtain ⟨oc, fs, tok, getC, dataC, nameC⟩ := (inv1.hok c' _ code).1
  refine PySem.W.callWith_F0 ⟨_, _, _, _, still⟩ (wpAny_call (codeAny_mono (R := CR (L2.CX X.prog X.w) (envOfC qg sg s.heap.objs.size g cdg :: X.stack) X.prog X.w HZ s1 Q Ech) ?_ ?_))
  · refine PySem.W.kla_callFunE room.depth still rfl L.co L.gen rfl ⟨c', oc, fs, tok, rfl, getC, dataC, nameC⟩ ?_
    obtain ⟨kk, e1, e2⟩ := hbind (X.env.qual ++ "<lambda>") (cloFrom X.env.cells scope.names []) T doc pm (.ref c') ctv
    have sameArgs : (⟨([] : List Value) ++ [], []⟩ : Args) = ⟨[], []⟩ := rfl
    rw [sameArgs, e1]
    refine wpAny_bind (wpAny_seqItems stillT rfl ?_)
    rw [e2]
    refine wpAny_pure (wpAny_newFunctionEnv (fun y hy => (L.own y hy).2) (fun y hy => by rw [List.mem_singleton.mp hy]; exact L.par) ?_ L.kind)
    intro h1 names fresh
    refine ⟨inv1.nolimit.fresh _ fresh, ?_⟩
    have keeps : ∀ b o, s1.heap.get? b = some o → h1.get? b = some o := fun b o e => fresh.extBut b o (Nat.ne_of_lt (Heap.lt_size e)) (Heap.get?_push_of_some _ e)
    have inv2 := lam_startD (f := f) (c' := c') (E := Ech) (tk := s1.toks + [(pn0, dv)].length) I L inv1.env0 room.hd changes names keeps
    refine PySem.W.kla_codeExpr (wpAny_mono ((runs _ _ s1 HZ Ech f c' (room.deeper _)).run [] _ _ HZ Q inv2 reads) ?_ fun _ _ z => z)
    intro v s2 ⟨w2, H2, inv3, rel2, q2⟩
    exact ⟨w2, H2, inv3.os, inv3.bare, inv3.base, inv3.hok, rel2, q2⟩
  · intro r s2 told
    rcases r with e | fl
    · exact tk e s2 (XE.of_call inv1 (fun cls d H' z => lets cls d H' z) told)
    · rcases fl with _ | _ | _ | u <;> first | exact inv1.after told | exact False.elim told
end
end KT
set_option Elab.async false
set_option linter.all false
set_option maxRecDepth 100000
set_option maxHeartbeats 4000000
namespace KT
open PySem PySem.Spec PyProof.Rows L2
variable [GT]
/-! ### a comprehension that knows how the frame stood that holds it -/
/-- the frame's state where a block of it begins -/
def MkAt (X : Cx) (σ : L2.St) (s : Shared) (H : Hp) (fp : List Addr) : Prop :=
  ∃ pins, Inv X pins σ H s ∧ ∀ b ∈ fp, (b ∈ X.ex ∨ X.s_0.heap.objs.size ≤ b) ∧ b ≠ X.env.locals ∧ (∀ (x : Str) (c : Addr), X.env.cells.lookup x = some c → c ≠ b) ∧ ∀ p ∈ X.pn ++ pins, p.1 ≠ b
theorem MkAt.now {X : Cx} {σ σ' : L2.St} {s s' : Shared} {H H' : Hp} {fp : List Addr} {scope : Scope} {ce : Env} {pinsB : List (Addr × Obj)} (m : MkAt X σ s H fp) (I : Inv (X.blk s H scope ce fp) pinsB σ' H' s') : ∃ pins, Inv X pins σ H' s' := by
  obtain ⟨pins, I0, h⟩ := m
  exact ⟨pins, I0.call' (ch := fp) I.os I.base I.hok I.bare h⟩
theorem thn0 {α : Type} {M : Model} {A : Around} {t : Sem α} {P Q : α → Shared → Prop} {E : Value → Shared → Prop} {s : Shared} (h : wpAny M A t P (fun _ _ => False) s) (next : ∀ a s', P a s' → Q a s') : wpAny M A t Q E s :=
  wpAny_mono h next fun _ _ z => z.elim
section
variable {X : Cx}
theorem pe_lcM {elt tg iter : Expr} {ifs : List Expr} {scope : Scope} {own : List (Str × Nat)} {pos : Pos} {wi : TI} {g : TG} {tt : L2.St → TT} {te : L2.St → TE} (calm : X.calm = true) (nd : X.N.Nodup) (walk : PI X tg iter wi) (ok : BlkOk X.N X.env.scope scope own)
    (target : ∀ (s : Shared) (H : Hp) (C : Addr) (cl : List (Str × Addr)) (fp : List Addr), PG (X.blk s H scope (compEnvC scope cl C X.env) fp) tg g)
    (tests : ∀ (σ : L2.St) (s : Shared) (H : Hp) (C : Addr) (cl : List (Str × Addr)) (fp : List Addr), MkAt X σ s H fp → PTs (X.blk s H scope (compEnvC scope cl C X.env) fp) ifs (tt σ))
    (item : ∀ (σ : L2.St) (s : Shared) (H : Hp) (C : Addr) (cl : List (Str × Addr)) (fp : List Addr), MkAt X σ s H fp → PE (X.blk s H scope (compEnvC scope cl C X.env) fp) elt (te σ)) (plain : ∀ x, foldedSetIterable iter X.env x = pure x := by intro _; rfl) :
    PE X (.ListComp elt [⟨tg, iter, ifs, 0⟩] scope pos) (fun σ H Q => tLc wi g (tt σ) (te σ) (own.map (·.2)) σ H Q) := by
  refine ⟨fun pins s σ H Q I reads => ?_⟩
  show wpAny _ X.A (comprehension (.ListComp elt [⟨tg, iter, ifs, 0⟩] scope pos) scope X.env (firstIterPos [⟨tg, iter, ifs, 0⟩] pos) (newList []) false (eval iter X.env) none) _ _ s
  have closes : ∀ n ∈ scope.names, n.2 = .free → ∃ c, X.env.cells.lookup n.1 = some c := fun n hn e => (ok.free n hn e).elim (fun k => I.ok.has _ (.inl k)) fun k => I.ok.has _ (.inr k)
  refine wpAny_comprehension_free (use := none) rfl plain (closure_ok closes) ok.kind (fun n hn e => by rw [ok.uniq n hn, e]) ?_
  refine thn (walk.run pins s σ H _ I reads) fun xv s1 iterates => thn iterates fun itv s2 started => ?_
  obtain ⟨it, fp, tn, J, H2, rfl, I2, T, st2, away2, more⟩ := started
  refine wpAny_newObj_type (newEnv_comp ?_) (by show 0 ≤ sizeLine; decide)
  generalize eL : s2.heap.objs.size = L
  have nL : H2 L = none := I2.hok.fresh (Nat.le_of_eq eL)
  obtain ⟨W, ⟨m0, w0⟩, turn⟩ := more L nL
  generalize es3 : ({ s2 with heap := s2.heap.push { cls := .type "list", data := .seq ([] : List Value).toArray } } : Shared) = s3
  have grew : s3.heap = s2.heap.push { cls := .type "list", data := .seq ([] : List Value).toArray } := by rw [← es3]
  have I3 : Inv X pins σ (upd H2 L (.lst [])) s3 := by
    rw [← es3]
    exact I2.laid (t' := s2.toks) (fun b o e => Heap.get?_push_of_some _ e) (Nat.le_of_eq eL) ⟨Nat.zero_le _, [], 0, .nil, by rw [← eL]; exact Heap.get?_push_size _ rfl⟩
  have low : ∀ b ∈ fp, b < L := fun b hb => by
    obtain ⟨o, e, _⟩ := T.obj _ _ st2 b hb
    rw [← eL]
    exact Heap.lt_size e
  have away3 : ∀ b ∈ fp, FpOk X pins (upd H2 L (.lst [])) b ∧ b < s3.heap.objs.size := fun b hb =>
    ⟨⟨by rw [upd_ne (Nat.ne_of_lt (low b hb))]; exact (away2 b hb).1, (away2 b hb).2⟩, by rw [grew, Heap.size_push, eL]; exact Nat.lt_succ_of_lt (low b hb)⟩
  have st3 : tn 0 s3.heap := T.keep _ _ _ st2 fun b _ o e => by rw [grew]; exact Heap.get?_push_of_some _ e
  have mk : MkAt X σ s3 (upd H2 L (.lst [])) fp := ⟨pins, I3, fun b hb => ⟨(away3 b hb).1.2.2.2.1, (away3 b hb).1.2.1, (away3 b hb).1.2.2.2.2.1, (away3 b hb).1.2.2.2.2.2⟩⟩
  have I4 := block_start I3 ok nd away3
  have PGt := target s3 (upd H2 L (.lst [])) s3.heap.objs.size (cellsFrom (s3.heap.objs.size + 1) scope.names (cloFrom X.env.cells scope.names [])) fp
  have PTt := tests σ s3 (upd H2 L (.lst [])) s3.heap.objs.size (cellsFrom (s3.heap.objs.size + 1) scope.names (cloFrom X.env.cells scope.names [])) fp mk
  have PEt := item σ s3 (upd H2 L (.lst [])) s3.heap.objs.size (cellsFrom (s3.heap.objs.size + 1) scope.names (cloFrom X.env.cells scope.names [])) fp mk
  have none3 : ∀ b ∈ fp, (upd H2 L (.lst [])) b = none := fun b hb => (away3 b hb).1.1
  generalize ece : compEnvC scope (cellsFrom (s3.heap.objs.size + 1) scope.names (cloFrom X.env.cells scope.names [])) s3.heap.objs.size X.env = ce at I4 PGt PTt PEt
  have atL : ce.locals = s3.heap.objs.size := by rw [← ece]; rfl
  show codeAny _ _ (.compStart (.ListComp elt [⟨tg, iter, ifs, 0⟩] scope pos) 0 (.ref it) (.ref L) (compEnvC scope (cellsFrom (s3.heap.objs.size + 1) scope.names (cloFrom X.env.cells scope.names [])) s3.heap.objs.size X.env)) (compPost (model X.prog X.w) X.A X.xe none (EP X pins σ Q) (.ref L) s3.heap.objs.size) { s3 with heap := pushCells (s3.heap.push { cls := .type "dict", data := .dict #[] }) scope.names }
  rw [ece]
  generalize eH3 : upd H2 L (.lst []) = H3 at I3 I4 PGt PTt PEt w0 none3 away3
  generalize es4 : ({ s3 with heap := pushCells (s3.heap.push { cls := .type "dict", data := .dict #[] }) scope.names } : Shared) = s4 at I4 ⊢
  have st4 : tn 0 s4.heap := T.keep _ _ _ st3 fun b _ o e => by rw [← es4]; exact pushCells_keeps _ _ _ _ (Heap.get?_push_of_some _ e)
  have inBlk : ∀ {σ' : L2.St} {H' : Hp} {s' : Shared}, Inv (X.blk s3 H3 scope ce fp) [] σ' H' s' → (∀ b ∈ fp, H' b = none) → ∀ b ∈ fp, FpOk (X.blk s3 H3 scope ce fp) [] H' b := fun {σ' H' s'} J' nn b hb =>
    ⟨nn b hb, (J'.ok.exf b hb).1, J'.ok.exfs b hb, .inl hb, fun x c e => (J'.ok.exf b hb).2 x c e, fun p hp => absurd (show p ∈ ([] : List (Addr × Obj)) ++ [] from hp) (by simp)⟩
  have whole : codeAny (model X.prog X.w) X.A (.compLoop (.ListComp elt [⟨tg, iter, ifs, 0⟩] scope pos) 0 (.ref it) (.ref L) ce) (compPost (model X.prog X.w) X.A X.xe none (EP X pins σ Q) (.ref L) s3.heap.objs.size) s4 := by
    refine compLoop_any (fun n s' => ∃ j H', Inv (X.blk s3 H3 scope ce fp) [] (wipe σ (own.map (·.2))) H' s' ∧ tn j s'.heap ∧ (∀ b ∈ fp, H' b = none) ∧ W j n H') ?_ m0 ⟨0, H3, I4, st4, none3, w0⟩
    rintro n s5 ⟨j, H5, I5, st5, n5, w5⟩
    rcases turn j n H5 w5 with ⟨stop, ends⟩ | ⟨go, Nx, hNx, step⟩
    · refine thn0 (T.done (X.blk s3 H3 scope ce fp) rfl rfl rfl calm j [] s5 _ H5 (fun _ _ => False) I5 (inBlk I5 n5) st5 stop) fun r s6 ⟨er, I6⟩ => ?_
      subst er
      have I7 : Inv X pins σ H5 s6 := I3.call' (ch := fp) I6.os I6.base I6.hok I6.bare fun b hb => ⟨(away3 b hb).1.2.2.2.1, (away3 b hb).1.2.1, (away3 b hb).1.2.2.2.2.1, (away3 b hb).1.2.2.2.2.2⟩
      obtain ⟨m, ns, _⟩ := I6.loc
      have nC : H5 ce.locals = none := I6.free
      have ns : s6.heap.Ns ce.locals m := ns
      rw [atL] at nC ns
      obtain ⟨w0, w1, w2, w3, w4, w5⟩ := I3.fpOk (Nat.le_refl _) nC
      exact ⟨m, ns, fun h3 same3 => ⟨.ref L, H5, I7.turned (t' := s6.toks) (fun b o hb e => (same3.2 b hb).trans e) w0 w1 w3 w4 w5, rfl, ends⟩⟩
    · refine thn0 (T.item (X.blk s3 H3 scope ce fp) rfl rfl rfl calm j [] s5 _ H5 (fun _ _ => False) I5 (inBlk I5 n5) st5 go) fun r s6 ⟨u, er, goes⟩ => ?_
      subst er
      refine thn0 goes fun _ s7 ⟨x, H7, I7, r7, y7, st7, n7⟩ => ?_
      refine thn0 (PGt.run _ s7 _ H7 x u _ (I7.pinned (inBlk I7 n7) (T.obj _ _ st7)) r7 (step x H7 y7)) fun _ s8 ⟨σ8, H8, I8, same8, q8⟩ => ?_
      have ln : (wipe σ (own.map (·.2))).length = σ8.length := by rw [← same8, wipe_length]
      have back : ∀ (H9 : Hp) (s9 : Shared), Inv (X.blk s3 H3 scope ce fp) ([] ++ pinsAt fp s7.heap) σ8 H9 s9 → Nx H9 → ∃ m', m' < n ∧ ∃ j H', Inv (X.blk s3 H3 scope ce fp) [] (wipe σ (own.map (·.2))) H' s9 ∧ tn j s9.heap ∧ (∀ b ∈ fp, H' b = none) ∧ W j m' H' := fun H9 s9 I9 nx => by
        obtain ⟨m', hm, w'⟩ := hNx _ nx
        have still : ∀ b ∈ fp, ∀ o, s7.heap.get? b = some o → s9.heap.get? b = some o ∧ H9 b = none := fun b hb o e =>
          let p := I9.pin (b, o) (List.mem_append_right _ (List.mem_append_right _ (mem_pinsAt hb e)))
          ⟨p.1, p.2.1⟩
        refine ⟨m', hm, j + 1, _, (I9.unpinned (pins := [])).weak ln (fun k v e => ?_), T.keep _ _ _ st7 fun b hb o e => (still b hb o e).1, fun b hb => ?_, w'⟩
        · rw [← same8] at e
          exact (wipe_some e).1
        · obtain ⟨o, e, _⟩ := T.obj _ _ st7 b hb
          exact (still b hb o e).2
      refine thn0 (PTt.run _ s8 σ8 H8 _ I8 q8) fun b s9 ⟨H9, I9, q9⟩ => ?_
      cases b with
      | false =>
        rw [if_neg (by decide)]
        exact back H9 s9 I9 q9
      | true =>
        rw [if_pos rfl]
        refine thn0 (PEt.run _ s9 σ8 H9 _ I9 q9) fun z s10 ⟨yv, H10, I10, r10, acc, gL, small, nx⟩ => ?_
        exact app_ok (X := X.blk s3 H3 scope ce fp) I10 gL small r10 fun s11 I11 => back _ s11 I11 nx
  exact codeAny_compStart_list whole (T.self X.A 0 _ _ _ st4 whole)
/-- what a call with a kept lambda reads: which it is, and what it does -/
def tKindV (i : Nat) (TT : (XK → Hp → VK → Prop) → Hp → VK → Prop) (σ0 : L2.St) (specs : List ((Hp → Addr → Prop) × (XK → TE))) : TE := fun σ H Q =>
  ∃ f sp, sp ∈ specs ∧ σ[i]? = some (some (.ref f)) ∧ sp.1 H f ∧ TT (fun E H' Q' => sp.2 E σ0 H' Q') H Q
theorem pe_kindV {σ0 : L2.St} {s0 : Shared} {H0 : Hp} {fp : List Addr} {bscope : Scope} {ce : Env} {i k : Nat} {TT : (XK → Hp → VK → Prop) → Hp → VK → Prop} {x a wk : Str} {g : Addr} {pg : Arguments} {bg : List Stmt} {sg : Scope} {dV kV doc pm cdv ct oc : Value} {an od : Option Addr} {osl : Array (Option Value)} {Ng : List Str}
    {specs : List ((Hp → Addr → Prop) × (XK → TE))} {p wp pos : Pos} (mk : MkAt X σ0 s0 H0 fp) (hg : Gl (X.blk s0 H0 bscope ce fp) x) (hm : X.mg x = some (.ref g)) (hk : PySem.W.keepIn X.K (.ref g) = true)
    (lk : X.K.lookup g = some ⟨oc, od, .func (PySem.W.fnOf x x pg bg sg dV kV doc pm an cdv ct), osl⟩) (hcg : PySem.W.codeIn X.K cdv x = true) (hb : L2.Binds X.K (PySem.W.fnOf x x pg bg sg dV kV doc pm an cdv ct) [a] []) (Sg : FnScope Ng [a] sg)
    (hG : ∀ Z : Hp → Prop, GivesZ X Ng x sg g cdv bg a Z TT) (hr : Room (k + 2) X.A) (acts : ∀ sp ∈ specs, ActV X k Ng x sg g cdv a sp.1 sp.2)
    (hN : X.N[i]? = some wk) (hv : Vis (X.blk s0 H0 bscope ce fp).env.scope wk)
    (hdb : (x == ("__debug__" : Str)) = false := by decide) (hd : (wk == ("__debug__" : Str)) = false := by decide) (hcd : (wk == ("__classdict__" : Str)) = false := by decide) :
    PE (X.blk s0 H0 bscope ce fp) (.Call (.Name x p) [.Name wk wp] [] pos) (tKindV i TT σ0 specs) := by
  refine ⟨fun pins s σ H Q I ⟨f, sp, hsp, hslot, hfx, rest⟩ => wpAny_Call_Name_kw (ld_glob I hg hm ?_ hdb)⟩
  refine PySem.W.callWith_K (h₀ := X.base) I.ok.mod.kin hk ?_ (by rfl) (by rfl)
  show wpAny _ _ (spliced ((false, eval (.Name wk wp) (X.blk s0 H0 bscope ce fp).env) :: backTo pos (starEach [] (X.blk s0 H0 bscope ce fp).env))) _ _ s
  have var := (pe_var (X := X.blk s0 H0 bscope ce fp) (i := i) (pos := wp) hN hv hd hcd).run pins s σ H (fun v H1 => v = .ref f ∧ H1 = H) I ⟨.ref f, hslot, rfl, rfl⟩
  refine Calls.spliced_cons (thn var fun u s1 told => ?_)
  obtain ⟨v, H1, inv1, rel, sameV, sameH⟩ := told
  subst sameV
  rw [sameH] at inv1
  obtain rfl : u = Value.ref f := rel
  refine Calls.spliced_nil ⟨inv1.kIn, wpAny_call (codeAny_mono (R := CR C8.CX0 X.stack X.prog X.w H s1 Q C8.E0) ?_ ?_)⟩
  · refine LamX.run_ofS (N := Ng) (us := [.ref f]) (vs := [.ref f]) (ps := [a]) lk hcg Sg hr inv1.env0 (hb s1 [.ref f] inv1.kIn rfl) (.cons rfl .nil) rfl ?_
    intro room
    obtain ⟨pinsX, IX⟩ := mk.now inv1
    obtain ⟨tt, run, ends⟩ := hG (fun HZ => sp.1 HZ f) f s1 H Q (fun E H' Q' => sp.2 E σ0 H' Q') (fun W pn xe p1 p2 tk => acts sp hsp pinsX σ0 H s1 f IX W pn xe p1 p2 tk room) hfx rest
    exact ⟨tt, run.nox, ends⟩
  · intro r s2 told
    rcases r with e | fl
    · exact (show False from told).elim
    · rcases fl with _ | _ | _ | u <;> first | exact inv1.after told | exact False.elim told
end
end KT
set_option Elab.async false
set_option linter.all false
set_option maxRecDepth 100000
set_option maxHeartbeats 4000000
namespace KT
open PySem PySem.Spec PyProof.Rows L2 GxR
variable [GT]
/-! ### where in a def's text a lambda stands -/
def stF : Stmt → List Stmt
  | .For _ _ b _ _ => b
  | .If _ b _ _ => b
  | _ => []
def stAt (l : List Stmt) (i : Nat) : Stmt := l.getD i (.Pass ⟨0, 0, 0, 0⟩)
def stV : Stmt → Expr
  | .Assign _ v _ => v
  | .Expr v _ => v
  | s => .Constant (.int 0) 0 ⟨0, 0, 0, 0⟩
def exE (e : Expr) (i : Nat) : Expr :=
  match e with
  | .List l _ => l.getD i e
  | .Call _ l _ _ => l.getD i e
  | _ => e
def lmP : Expr → Arguments
  | .Lambda p _ _ _ => p
  | _ => ⟨[], [], none, [], [], none, []⟩
def lmB : Expr → Expr
  | .Lambda _ b _ _ => b
  | e => e
def lmS : Expr → Scope
  | .Lambda _ _ s _ => s
  | _ => ⟨.function, [], false, false, []⟩
theorem sl_tupUB {X : Cx} {K : PySem.W.Frag} (e : X.K = K) : SlR X (fun x lo hi H Q => ∃ a xs, x = .ref a ∧ SqT K H a xs ∧ ∀ q H', Kq [] H H' → SqT K H' q (cutV xs lo hi) → Q (.ref q) H') := e ▸ sl_tupU
/-! ### kept lambdas that _law_kind calls -/
def ActW (X : Cx) (k : Nat) (fx : Hp → Addr → Prop) (t : XK → TE) : Prop := ∀ cdg : Value, ActV X k Nk "_law_kind" d__law_kind.scope (Ad X.K d__law_kind.at_) cdg "_law_work" fx t
def ActsW (X : Cx) (k : Nat) (specs : List ((Hp → Addr → Prop) × (XK → TE))) : Prop := ∀ sp ∈ specs, ActW X k sp.1 sp.2
section
variable {X : Cx} {k : Nat}
theorem actsW_nil : ActsW X k [] := fun _ h => absurd h (by simp)
theorem actsW_cons {fx : Hp → Addr → Prop} {t : XK → TE} {specs : List ((Hp → Addr → Prop) × (XK → TE))} (h : ActW X k fx t) (r : ActsW X k specs) : ActsW X k ((fx, t) :: specs) := fun sp hs => by
  rcases List.mem_cons.mp hs with rfl | z
  · exact h
  · exact r sp z
theorem actW_lam {params : Arguments} {body : Expr} {scope : Scope} {t : XK → TE} (L : LamX.LamS X.env.scope scope)
    (hbind : ∀ (q : Str) (cl : List (Str × Addr)) (pm cv ctv : Value), bindArgs (PySem.W.kla_fn "<lambda>" q params body scope cl pm cv ctv) ⟨[], []⟩ = pure [])
    (runs : ∀ (A : Around) (outer : List Env) (s : Shared) (H : Hp) (E : XK) (f c' : Addr), Room k (A.deeper (LamX.lamEnv X scope s.heap.objs.size f c')) → PE (LamX.lamCx X A outer s H E scope f c') body (t E)) : ActW X k (IsLam X params body scope) t :=
  fun _ => act_lam L hbind runs rfl (.inl rfl)
theorem actW_lamD {params : Arguments} {body : Expr} {scope : Scope} {pn0 : Str} {t : XK → TE} (L : LamD X.N X.env.scope scope pn0)
    (hbind : ∀ (q : Str) (cl : List (Str × Addr)) (T : Addr) (doc pm cv ctv : Value), ∃ kk, bindArgs (ldFn q params body scope cl T doc pm cv ctv) ⟨[], []⟩ = seqItems? (.ref T) >>= kk ∧ ∀ v : Value, kk (some [v].toArray) = pure [(pn0, v)])
    (runs : ∀ (A : Around) (outer : List Env) (s : Shared) (H : Hp) (E : XK) (f c' : Addr), Room k (A.deeper (LamX.lamEnv X scope s.heap.objs.size f c')) → PE (LamX.lamCx X A outer s H E scope f c') body (t E)) : ActW X k (IsLamD X params body scope) t :=
  fun _ => act_lamD L hbind runs rfl (.inl rfl)
/-- _law_kind(_law_work) in a comprehension -/
theorem pe_kindW (T : Tx X.w X.K X.mg) (hkx : excs = kinds10) {σ0 : L2.St} {s0 : Shared} {H0 : Hp} {fp : List Addr} {bscope : Scope} {ce : Env} {i : Nat} {wk : Str} {specs : List ((Hp → Addr → Prop) × (XK → TE))} {p wp pos : Pos} (mk : MkAt X σ0 s0 H0 fp) (hg : Gl (X.blk s0 H0 bscope ce fp) "_law_kind") (hr : Room (k + 2) X.A) (acts : ActsW X k specs)
    (hN : X.N[i]? = some wk) (hv : Vis (X.blk s0 H0 bscope ce fp).env.scope wk) (hd : (wk == ("__debug__" : Str)) = false := by decide) (hcd : (wk == ("__classdict__" : Str)) = false := by decide) :
    PE (X.blk s0 H0 bscope ce fp) (.Call (.Name "_law_kind" p) [.Name wk wp] [] pos) (tKindV i (TKind X.K) σ0 specs) := by
  have F : FunD X.K d__law_kind.name d__law_kind.qual d__law_kind.params d__law_kind.body d__law_kind.scope [] (d__law_kind.kws X.K) (Ad X.K d__law_kind.at_) (fdOf X.K (Ad X.K d__law_kind.at_)) := T.f__law_kind
  have b := F.bindsN (ps := ["_law_work"]) (fun _ _ _ _ _ _ us hl => match us, hl with | [_], _ => rfl)
  have kp := F.kp
  obtain ⟨oc, od, dV, kV, doc, pm, an, cdv, ct, osl, e, lk, hcd2, _, _⟩ := F.ex
  rw [e] at lk b
  exact pe_kindV mk hg T.g__law_kind kp lk hcd2 b sc__law_kind (fun Z => kind_givesZ T hkx T.noat_BadKeys T.noat_BadTape _ _ Z) hr (fun sp hs => acts sp hs cdv) hN hv rfl hd hcd
end
theorem kindV_of {K : PySem.W.Frag} {i : Nat} {σ0 σ : L2.St} {H : Hp} {Q : VK} {f : Addr} {fx : Hp → Addr → Prop} {t : XK → TE} {specs : List ((Hp → Addr → Prop) × (XK → TE))} (mem : (fx, t) ∈ specs) (slot : σ[i]? = some (some (.ref f))) (h : fx H f) (k : TKind K (fun E H' Q' => t E σ0 H' Q') H Q) : tKindV i (TKind K) σ0 specs σ H Q := ⟨f, (fx, t), mem, slot, h, k⟩
end KT
set_option Elab.async false
set_option linter.all false
set_option maxRecDepth 100000
set_option maxHeartbeats 4000000
namespace KT
open PySem PySem.Spec PyProof.Rows L2 GxR
variable [GT]
/-- a tuple so many times, once among them: then it is itself -/
theorem tuple_mul1 (l : Addr) (items : Array Value) (n : Nat) (dd : Option Addr) (sl : Array (Option Value)) (u : Tok) :
    Meets (Builtin.«tuple.__mul__» ⟨[.ref l, .int 1 u], []⟩) (fun _ R s => s.heap.get? l = some { cls := .type "tuple", dict := dd, data := .seq items n, slots := sl } ∧ R (.ok (.ret (Value.ref l))) s) :=
  .of_wp fun prog w A R s h => by
    obtain ⟨hp, g, d, tk, os⟩ := s
    obtain ⟨hl, h⟩ := h
    have f1 := AutoSeq1.idx_int
    have c1 : (items.isEmpty || (1 : Int) == 1) = true := by simp
    wp_walk using PySem.MeetsSeq.wpAny_loadPart' hl
    exact ⟨_, rfl, h⟩
def rRepA (K : PySem.W.Frag) : R2 := fun x y H Q => ∃ l k xs, x = .ref l ∧ y = .int k ∧ SqT K H l xs ∧ xs ≠ [] ∧ 1 ≤ k ∧ k ≤ 1000 ∧ xs.length ≤ 1000 ∧ (k = 1 → Q (.ref l) H) ∧ (2 ≤ k → ∀ p, H p = none → Q (.ref p) (upd H p (.tup (List.replicate k.toNat xs).flatten)))
theorem op_repA {X : Cx} : OpR X (binaryOp .Mult) (rRepA X.K) := by
  intro pins s σ H x y v u Q I rx ry h
  obtain ⟨l, k, xs, ex, ey, hT, hne, h1, h2, hz, q1, q2⟩ := h
  by_cases h3 : 2 ≤ k
  · exact op_repT pins s σ H x y v u Q I rx ry ⟨l, k, xs, ex, ey, hT, hne, h3, h2, hz, q2 h3⟩
  · have hk : k = 1 := by omega
    subst hk ex ey
    cases rx
    obtain ⟨t, rfl⟩ := ry
    obtain ⟨its, r, ⟨⟨cls, dd, data, sl⟩, ho, hc, n, hd⟩, hs⟩ := I.tuple hT
    simp only at hc hd
    subst hc hd
    refine wpAny_binaryOp_repeat_ref (T := "tuple") (U := "int") (by decide) ⟨_, ho, rfl⟩ (fun s' => typeIs_int s' 1 t) noFill_tuple_mul F.fills_int_mul F.slot_int_rmul repeat_tuple F.slot_int_index.lookup
      (call_meets F.slot_int_rmul (typeIs_int s 1 t) F.entry_int_rmul (F.args_int_rmul_2 _ _) (int_rmul_tuple 1 t l its.toArray n dd sl)
        ⟨ho, rfl, ⟨_, ho, rfl⟩, call_meets F.slot_tuple_mul ⟨_, ho, rfl⟩ F.entry_tuple_mul (F.args_tuple_mul_2 _ _) (tuple_mul1 l its.toArray n dd sl t) ⟨ho, ?_⟩⟩)
    exact ⟨.ref l, H, I, rfl, q1 rfl⟩
end KT
set_option Elab.async false
set_option linter.all false
set_option maxRecDepth 100000
set_option maxHeartbeats 4000000
namespace KT
open PySem PySem.Spec PyProof.Rows L2 GxR
variable [GT]
theorem tuple_mul0 (l : Addr) (items : Array Value) (n : Nat) (dd : Option Addr) (sl : Array (Option Value)) (u : Tok) (hi : items.isEmpty = false) :
    Meets (Builtin.«tuple.__mul__» ⟨[.ref l, .int 0 u], []⟩) (fun _ R s => s.heap.get? l = some { cls := .type "tuple", dict := dd, data := .seq items n, slots := sl } ∧
      R (.ok (.ret (Value.ref s.heap.objs.size))) { s with heap := s.heap.push { cls := Value.type "tuple", data := Data.seq #[] }, toks := s.toks }) :=
  .of_wp fun prog w A R s h => by
    obtain ⟨hp, g, d, tk, os⟩ := s
    obtain ⟨hl, h⟩ := h
    have f1 := AutoSeq1.idx_int
    have c1 : (items.isEmpty || (0 : Int) == 1) = false := by rw [hi]; rfl
    wp_walk using PySem.MeetsSeq.wpAny_loadPart' hl
    repeat (first
      | (refine wpAny_ite_false (decide_eq_false (by rw [c1]; exact Bool.false_ne_true)) ?_; wp_walk using PySem.MeetsSeq.wpAny_loadPart' hl))
    exact ⟨_, rfl, h⟩
/-- a tuple so many times, or none -/
def rRepZ (K : PySem.W.Frag) : R2 := fun x y H Q => ∃ l k xs, x = .ref l ∧ y = .int k ∧ SqT K H l xs ∧ xs ≠ [] ∧ 0 ≤ k ∧ k ≤ 1000 ∧ xs.length ≤ 1000 ∧ ∀ p H', Kq [] H H' → SqT K H' p (List.replicate k.toNat xs).flatten → Q (.ref p) H'
theorem op_repZ {X : Cx} : OpR X (binaryOp .Mult) (rRepZ X.K) := by
  intro pins s σ H x y v u Q I rx ry h
  obtain ⟨l, k, xs, ex, ey, hT, hne, h0, h2, hz, q⟩ := h
  by_cases h1 : 1 ≤ k
  · refine op_repA pins s σ H x y v u Q I rx ry ⟨l, k, xs, ex, ey, hT, hne, h1, h2, hz, fun e => q l H Kq.refl ?_, fun _ p np => q p _ (Kq.alloc np) (SqT.of upd_same)⟩
    rw [e]
    show SqT X.K H l (List.replicate 1 xs).flatten
    simpa using hT
  · have hk : k = 0 := by omega
    subst hk ex ey
    cases rx
    obtain ⟨t, rfl⟩ := ry
    obtain ⟨its, r, ⟨⟨cls, dd, data, sl⟩, ho, hc, n, hd⟩, hs⟩ := I.tuple hT
    simp only at hc hd
    subst hc hd
    have hle : its.length = xs.length := r.length.symm
    have hn : its ≠ [] := fun e => hne (by
      rw [e] at hle
      exact List.eq_nil_of_length_eq_zero hle.symm)
    have hi : its.toArray.isEmpty = false := by
      cases its with
      | nil => exact absurd rfl hn
      | cons a b => rfl
    refine wpAny_binaryOp_repeat_ref (T := "tuple") (U := "int") (by decide) ⟨_, ho, rfl⟩ (fun s' => typeIs_int s' 0 t) noFill_tuple_mul F.fills_int_mul F.slot_int_rmul repeat_tuple F.slot_int_index.lookup
      (call_meets F.slot_int_rmul (typeIs_int s 0 t) F.entry_int_rmul (F.args_int_rmul_2 _ _) (int_rmul_tuple 0 t l its.toArray n dd sl)
        ⟨ho, rfl, ⟨_, ho, rfl⟩, call_meets F.slot_tuple_mul ⟨_, ho, rfl⟩ F.entry_tuple_mul (F.args_tuple_mul_2 _ _) (tuple_mul0 l its.toArray n dd sl t hi) ⟨ho, ?_⟩⟩)
    have np : H s.heap.objs.size = none := I.hok.fresh (Nat.le_refl _)
    refine ⟨.ref s.heap.objs.size, _, I.laid (t' := s.toks) (o := .tup []) (fun b ob q => Heap.get?_push_of_some _ q) (Nat.le_refl _) ?_, rfl, q _ _ (Kq.alloc np) (SqT.of upd_same)⟩
    exact ⟨by simp, [], .nil, IsTup.new _ _⟩
end KT
set_option Elab.async false
set_option linter.all false
set_option maxRecDepth 100000
set_option maxHeartbeats 4000000
namespace KT
open PySem PySem.Spec PyProof.Rows L2 GxR
variable [GT]
def rNeE (K : PySem.W.Frag) : R2 := fun x y H Q => ∃ (a b : Addr) (xs : List V), x = .ref a ∧ y = .ref b ∧ SqL K H a xs ∧ SqL K H b [] ∧ Q (.bl (!xs.isEmpty)) H
/-- a list != [], whatever it holds -/
theorem op_neE {X : Cx} (hu : X.A.units < cLine) : OpR X (compareOp .NotEq) (rNeE X.K) := by
  intro pins s σ H x y v u Q I rx ry h
  obtain ⟨a, b, xs, e1, e2, ha, hb, k⟩ := h
  subst e1 e2
  cases rx
  cases ry
  obtain ⟨is1, v1, t1, _⟩ := I.list ha
  obtain ⟨is2, v2, t2, _⟩ := I.list hb
  have l1 := v1.length
  have l2 := v2.length
  cases xs with
  | nil =>
    refine PySem.SeqAt.RcNeAt.lists (e := fun _ => true) t1.isList t2.isList (by simp at l1 l2 ⊢; omega) hu (fun i h1 h2 => ?_) _ _ _ _ ⟨.bl false, H, I, ?_, k⟩
    · simp at l1; simp at h1; omega
    · have h0 : is1.toArray.size = 0 := by rw [List.size_toArray]; simpa using l1.symm
      rw [h0]; rfl
  | cons x xs =>
    exact PySem.SeqAt.RcNeAt.lists_lengths t1.isList t2.isList (by simp at l1 l2 ⊢; omega) hu _ _ _ _ ⟨.bl true, H, I, rfl, k⟩
end KT
set_option Elab.async false
set_option linter.all false
set_option maxRecDepth 100000
set_option maxHeartbeats 4000000
namespace KT
open PySem PySem.Spec PyProof.Rows L2
/-! slices of lists by numbers -/
theorem cut_take (xs : List V) {i : Int} {n : Nat} (e : i = (n : Int)) : cutV xs none (some i) = xs.take n := by
  subst e
  unfold cutV
  rw [show HT.sIx xs.length 0 none = 0 from rfl, HT.sIx_nat]
  rw [List.drop_zero, Nat.sub_zero]
  by_cases h : n ≤ xs.length
  · rw [Nat.min_eq_left h]
  · rw [Nat.min_eq_right (by omega), List.take_length, List.take_of_length_le (by omega)]
theorem cut_drop (xs : List V) {i : Int} {n : Nat} (e : i = (n : Int)) : cutV xs (some i) none = xs.drop n := by
  subst e
  unfold cutV
  rw [show HT.sIx xs.length xs.length none = xs.length from rfl, HT.sIx_nat]
  by_cases h : n ≤ xs.length
  · rw [Nat.min_eq_left h, List.take_of_length_le (by rw [List.length_drop]; exact Nat.le_refl _)]
  · rw [Nat.min_eq_right (by omega), List.drop_length, List.drop_of_length_le (by omega), List.take_nil]
theorem cut_both (xs : List V) {i j : Int} {a b : Nat} (ea : i = (a : Int)) (eb : j = (b : Int)) : cutV xs (some i) (some j) = (xs.drop a).take (b - a) := by
  subst ea eb
  unfold cutV
  rw [HT.sIx_nat, HT.sIx_nat]
  by_cases h1 : a ≤ xs.length
  · rw [Nat.min_eq_left h1]
    by_cases h2 : b ≤ xs.length
    · rw [Nat.min_eq_left h2]
    · rw [Nat.min_eq_right (by omega), List.take_of_length_le (by rw [List.length_drop]; exact Nat.le_refl _), List.take_of_length_le (by rw [List.length_drop]; omega)]
  · rw [Nat.min_eq_right (by omega : xs.length ≤ a), List.drop_length, List.drop_of_length_le (by omega : xs.length ≤ a), List.take_nil, List.take_nil]
end KT
set_option Elab.async false
set_option linter.all false
set_option maxRecDepth 100000
set_option maxHeartbeats 4000000
namespace KT
open PySem PySem.Spec PyProof.Rows L2 GxR
variable [GT]
theorem edAt_head {K : PySem.W.Frag} {H : Hp} {m : EdM} {ed : EdSt} (h : EdAt K H m ed) : ∃ dx p, H m.e = some (.ins (He.ga K "Editor") dx (edF p m.t (recV ed.taped) m.pr m.un m.ud)) := by
  obtain ⟨dx, p, ap, au, ad, h1, _⟩ := h.ex
  exact ⟨dx, p, h1⟩
section
variable {P : Program} {w : World} {K : PySem.W.Frag} {mg : Str → Option Value} {base : Heap}
def sp_refd (K : PySem.W.Frag) : Sp := fun vs H Q _ => ∃ (h l : Addr) (m : EdM) (ed : EdSt), vs = [.ref h, .ref m.e] ∧ DrAt H h l ∧ EdAt K H m ed ∧ (∀ b ∈ m.l, b ∉ [h, l]) ∧ LamX.TabS H (tLn K ("_law_are_refused", none)) (lamQ "_law_are_refused") ∧ ∀ H', Kf [h, l] H H' → DrAt H' h l → Q (.bl true) H'
theorem sc__law_are_refused : FnScope ["_law_h", "_law_editor", "_law_k", "_law_work", "_law_bad", "_law_name", "_law_tape_here", "_law_at", "_law_worse", "_law_works", "_law_long"] ["_law_h", "_law_editor"] (defScope s__law_are_refused) := ⟨rfl, rfl, rfl, by decide +kernel, rfl, by decide +kernel, by decide +kernel⟩
theorem ok__law_are_refused (T : Tx w K mg) (hP : SupP P fileS) (B : TabB base mg (cS K) (tS K)) (BL : LamX.TabB base mg (He.codeOf K ("_law_are_refused", none)) (tLn K ("_law_are_refused", none))) (memL : (tLn K ("_law_are_refused", none), lamQ "_law_are_refused") ∈ GT.l) (unL : ∀ p ∈ GT.l, p.1 = tLn K ("_law_are_refused", none) → p.2 = lamQ "_law_are_refused") : Fk P w K mg base 73 (Ad K d__law_are_refused.at_) ["_law_h", "_law_editor"] (sp_refd K) := by
  have F_Editor_hand := ok_Editor_handX (P := P) (base := base) T B
  have F_Editor_press := ok_Editor_pressX (P := P) (base := base) T B
  have F_Editor_record := ok_Editor_recordX (P := P) (base := base) T
  have F_Editor_tape := ok_Editor_tapeX (P := P) (base := base) T hP B
  have F_Editor_tape_of := ok_Editor_tape_ofX (P := P) (base := base) T
  have F__law_key := ok__law_key (P := P) (base := base) T
  have F__law_next := ok__law_next (P := P) (base := base) T
  have F__law_odd_key := ok__law_odd_key (P := P) (base := base) T
  refine mkF T.f__law_are_refused sc__law_are_refused rfl (fun _ _ _ _ _ _ us hl => match us, hl with | [_, _], _ => rfl) (fun vs H Q E h => by obtain ⟨_, _, _, _, rfl, _⟩ := h; rfl) (fun cdv A outer s H vs Q E hcd hcode hr h => ?_)
  refine ⟨_, (pss_cons (ps_asg (pe_cF F__law_odd_key (hr.mono (by decide)) T.g__law_odd_key px (pa_cons (pv 0) pa_nil)) (pg_name (i := 4) sc__law_are_refused.nd rfl (.inr rfl)))
      (pss_cons (ps_asg (pe_ix ix_list (pe_lst (pa_cons pe_str (pa_cons pe_str (pa_cons pe_str (pa_cons pe_str (pa_cons pe_str pa_nil)))))) (pe_cF F__law_next (hr.mono (by decide)) T.g__law_next px (pa_cons (pv 0) (pa_cons pe_int pa_nil))) (fun _ _ => rfl)) (pg_name (i := 5) sc__law_are_refused.nd rfl (.inr rfl)))
      (pss_cons (ps_asg (pe_callTy call_tuple_of (by rfl) T.n_tuple (by decide +kernel) (pa_cons (pe_lc (own := [("_law_k", 2)]) (by rfl) sc__law_are_refused.nd (pi_range1 (by rfl) T.n_range (pa_cons (pe_cF F__law_next (hr.mono (by decide)) T.g__law_next px (pa_cons (pv 0) (pa_cons pe_int pa_nil))) pa_nil)) (blkOk_by (own := [("_law_k", 2)]) (N := ["_law_h", "_law_editor", "_law_k", "_law_work", "_law_bad", "_law_name", "_law_tape_here", "_law_at", "_law_worse", "_law_works", "_law_long"]) (sc := defScope s__law_are_refused) (by decide +kernel)) (fun _ _ _ _ _ => (pg_name (i := 2) sc__law_are_refused.nd rfl (.inl rfl))) (fun _ _ _ _ _ => pts_nil) (fun _ _ _ _ _ => (pe_cF F__law_key (hr.mono (by decide)) T.g__law_key passL (pa_cons (pv 0) pa_nil)))) pa_nil)) (pg_name (i := 6) sc__law_are_refused.nd rfl (.inl rfl)))
      (pss_cons (ps_asg (pe_cF F__law_next (hr.mono (by decide)) T.g__law_next px (pa_cons (pv 0) (pa_cons (pe_op op_add (pe_callB call_len_seq (by rfl) T.n_len (by decide +kernel) (pa_cons (pv 6) pa_nil)) pe_int) pa_nil))) (pg_name (i := 7) sc__law_are_refused.nd rfl (.inl rfl)))
      (pss_cons (ps_asg (pe_op op_catU (pe_op op_catU (pe_op op_catU (pe_slice sl_tupU (pv 6) po_none (po_some (pv 7))) (pe_tup (pa_cons (pv 4) pa_nil))) (pe_slice sl_tupU (pv 6) (po_some (pv 7)) po_none)) (pe_op op_repZ (pe_tup (pa_cons (pe_cF F__law_odd_key (hr.mono (by decide)) T.g__law_odd_key px (pa_cons (pv 0) pa_nil)) pa_nil)) (pe_cF F__law_next (hr.mono (by decide)) T.g__law_next px (pa_cons (pv 0) (pa_cons pe_int pa_nil))))) (pg_name (i := 8) sc__law_are_refused.nd rfl (.inr rfl)))
      (pss_cons (ps_if (pt_cmpR (op_neD hr.units) (pe_lst (pa_cons (pe_kind (X := (CxD P w K mg base ["_law_h", "_law_editor", "_law_k", "_law_work", "_law_bad", "_law_name", "_law_tape_here", "_law_at", "_law_worse", "_law_works", "_law_long"] d__law_are_refused cdv A outer s H E)) T rfl (k := 70) rfl BL hcode (hr.mono (by decide)) (LamX.lamS_by (sc := defScope s__law_are_refused) (by decide +kernel)) rfl (fun _ _ _ _ _ => rfl) (fun A2 o2 s2 H2 E2 f2 c2 room => (pe_mF _ (pv 1) T.c_Editor T.m_Editor_press F_Editor_press (room.mono (by decide)) (lam_px (X := (CxD P w K mg base ["_law_h", "_law_editor", "_law_k", "_law_work", "_law_bad", "_law_name", "_law_tape_here", "_law_at", "_law_worse", "_law_works", "_law_long"] d__law_are_refused cdv A outer s H E)) (A := A2) (outer := o2) (s := s2) (H := H2) (E := E2) (f := f2) (c' := c2)) (pa_cons (pv 4) pa_nil)))) (pa_cons (pe_kindD (X := (CxD P w K mg base ["_law_h", "_law_editor", "_law_k", "_law_work", "_law_bad", "_law_name", "_law_tape_here", "_law_at", "_law_worse", "_law_works", "_law_long"] d__law_are_refused cdv A outer s H E)) T rfl (k := 70) (pn0 := "_law_a") rfl BL hcode (hr.mono (by decide)) (lamD_by (N := ["_law_h", "_law_editor", "_law_k", "_law_work", "_law_bad", "_law_name", "_law_tape_here", "_law_at", "_law_worse", "_law_works", "_law_long"]) (sc := defScope s__law_are_refused) (by decide +kernel)) rfl rfl rfl rfl (fun _ _ _ _ _ _ _ => ⟨_, rfl, fun _ => rfl⟩) (fun A2 o2 s2 H2 E2 f2 c2 room => (pe_mF _ (pv 1) T.c_Editor T.m_Editor_hand F_Editor_hand (room.mono (by decide)) (lam_px (X := (CxD P w K mg base ["_law_h", "_law_editor", "_law_k", "_law_work", "_law_bad", "_law_name", "_law_tape_here", "_law_at", "_law_worse", "_law_works", "_law_long"] d__law_are_refused cdv A outer s H E)) (A := A2) (outer := o2) (s := s2) (H := H2) (E := E2) (f := f2) (c' := c2)) (pa_cons (pv 4) pa_nil)))) pa_nil))) (pe_op op_rep (pe_lst (pa_cons pe_str pa_nil)) pe_int) (nomark _)) (pss_one (ps_ret pe_bl)) pss_nil)
      (pss_cons (ps_asg (pe_lst (pa_cons (pe_lamV (X := (CxD P w K mg base ["_law_h", "_law_editor", "_law_k", "_law_work", "_law_bad", "_law_name", "_law_tape_here", "_law_at", "_law_worse", "_law_works", "_law_long"] d__law_are_refused cdv A outer s H E)) BL hcode (LamX.lamS_by (sc := defScope s__law_are_refused) (by decide +kernel)) rfl) (pa_cons (pe_lamVD (X := (CxD P w K mg base ["_law_h", "_law_editor", "_law_k", "_law_work", "_law_bad", "_law_name", "_law_tape_here", "_law_at", "_law_worse", "_law_works", "_law_long"] d__law_are_refused cdv A outer s H E)) (pn0 := "_law_a") BL hcode (lamD_by (N := ["_law_h", "_law_editor", "_law_k", "_law_work", "_law_bad", "_law_name", "_law_tape_here", "_law_at", "_law_worse", "_law_works", "_law_long"]) (sc := defScope s__law_are_refused) (by decide +kernel)) rfl rfl rfl rfl) (pa_cons (pe_lamVD (X := (CxD P w K mg base ["_law_h", "_law_editor", "_law_k", "_law_work", "_law_bad", "_law_name", "_law_tape_here", "_law_at", "_law_worse", "_law_works", "_law_long"] d__law_are_refused cdv A outer s H E)) (pn0 := "_law_b") BL hcode (lamD_by (N := ["_law_h", "_law_editor", "_law_k", "_law_work", "_law_bad", "_law_name", "_law_tape_here", "_law_at", "_law_worse", "_law_works", "_law_long"]) (sc := defScope s__law_are_refused) (by decide +kernel)) rfl rfl rfl rfl) pa_nil)))) (pg_name (i := 9) sc__law_are_refused.nd rfl (.inl rfl)))
      (pss_cons (ps_if (pt_cmpR (op_neD hr.units) (pe_lcM (own := [("_law_work", 3)]) (by rfl) sc__law_are_refused.nd (pi_list (pv 9)) (blkOk_by (own := [("_law_work", 3)]) (N := ["_law_h", "_law_editor", "_law_k", "_law_work", "_law_bad", "_law_name", "_law_tape_here", "_law_at", "_law_worse", "_law_works", "_law_long"]) (sc := defScope s__law_are_refused) (by decide +kernel)) (fun _ _ _ _ _ => (pg_name (i := 3) sc__law_are_refused.nd rfl (.inl rfl))) (fun _ _ _ _ _ _ mk0 => pts_nil) (fun _ _ _ _ _ _ mk0 => (pe_kindW (X := (CxD P w K mg base ["_law_h", "_law_editor", "_law_k", "_law_work", "_law_bad", "_law_name", "_law_tape_here", "_law_at", "_law_worse", "_law_works", "_law_long"] d__law_are_refused cdv A outer s H E)) T rfl (k := 70) (i := 3) mk0 rfl (hr.mono (by decide)) (actsW_cons (actW_lam (X := (CxD P w K mg base ["_law_h", "_law_editor", "_law_k", "_law_work", "_law_bad", "_law_name", "_law_tape_here", "_law_at", "_law_worse", "_law_works", "_law_long"] d__law_are_refused cdv A outer s H E)) (k := 70) (params := lmP (exE (stV (stAt (defBody s__law_are_refused) 6)) 0)) (body := lmB (exE (stV (stAt (defBody s__law_are_refused) 6)) 0)) (scope := lmS (exE (stV (stAt (defBody s__law_are_refused) 6)) 0)) (LamX.lamS_by (sc := defScope s__law_are_refused) (by decide +kernel)) (fun _ _ _ _ _ => rfl) (fun A2 o2 s2 H2 E2 f2 c2 room => (pe_mF _ (pv 1) T.c_Editor T.m_Editor_tape F_Editor_tape (room.mono (by decide)) (lam_px (X := (CxD P w K mg base ["_law_h", "_law_editor", "_law_k", "_law_work", "_law_bad", "_law_name", "_law_tape_here", "_law_at", "_law_worse", "_law_works", "_law_long"] d__law_are_refused cdv A outer s H E)) (A := A2) (outer := o2) (s := s2) (H := H2) (E := E2) (f := f2) (c' := c2)) (pa_cons (pv 5) (pa_cons (pv 8) pa_nil))))) (actsW_cons (actW_lamD (X := (CxD P w K mg base ["_law_h", "_law_editor", "_law_k", "_law_work", "_law_bad", "_law_name", "_law_tape_here", "_law_at", "_law_worse", "_law_works", "_law_long"] d__law_are_refused cdv A outer s H E)) (k := 70) (params := lmP (exE (stV (stAt (defBody s__law_are_refused) 6)) 1)) (body := lmB (exE (stV (stAt (defBody s__law_are_refused) 6)) 1)) (scope := lmS (exE (stV (stAt (defBody s__law_are_refused) 6)) 1)) (pn0 := "_law_a") (lamD_by (N := ["_law_h", "_law_editor", "_law_k", "_law_work", "_law_bad", "_law_name", "_law_tape_here", "_law_at", "_law_worse", "_law_works", "_law_long"]) (sc := defScope s__law_are_refused) (by decide +kernel)) (fun _ _ _ _ _ _ _ => ⟨_, rfl, fun _ => rfl⟩) (fun A2 o2 s2 H2 E2 f2 c2 room => (pe_mF _ (pv 1) T.c_Editor T.m_Editor_tape_of F_Editor_tape_of (room.mono (by decide)) (lam_px (X := (CxD P w K mg base ["_law_h", "_law_editor", "_law_k", "_law_work", "_law_bad", "_law_name", "_law_tape_here", "_law_at", "_law_worse", "_law_works", "_law_long"] d__law_are_refused cdv A outer s H E)) (A := A2) (outer := o2) (s := s2) (H := H2) (E := E2) (f := f2) (c' := c2)) (pa_cons (pv 5) pa_nil)))) (actsW_cons (actW_lamD (X := (CxD P w K mg base ["_law_h", "_law_editor", "_law_k", "_law_work", "_law_bad", "_law_name", "_law_tape_here", "_law_at", "_law_worse", "_law_works", "_law_long"] d__law_are_refused cdv A outer s H E)) (k := 70) (params := lmP (exE (stV (stAt (defBody s__law_are_refused) 6)) 2)) (body := lmB (exE (stV (stAt (defBody s__law_are_refused) 6)) 2)) (scope := lmS (exE (stV (stAt (defBody s__law_are_refused) 6)) 2)) (pn0 := "_law_b") (lamD_by (N := ["_law_h", "_law_editor", "_law_k", "_law_work", "_law_bad", "_law_name", "_law_tape_here", "_law_at", "_law_worse", "_law_works", "_law_long"]) (sc := defScope s__law_are_refused) (by decide +kernel)) (fun _ _ _ _ _ _ _ => ⟨_, rfl, fun _ => rfl⟩) (fun A2 o2 s2 H2 E2 f2 c2 room => (pe_mF _ (pv 1) T.c_Editor T.m_Editor_record F_Editor_record (room.mono (by decide)) (lam_px (X := (CxD P w K mg base ["_law_h", "_law_editor", "_law_k", "_law_work", "_law_bad", "_law_name", "_law_tape_here", "_law_at", "_law_worse", "_law_works", "_law_long"] d__law_are_refused cdv A outer s H E)) (A := A2) (outer := o2) (s := s2) (H := H2) (E := E2) (f := f2) (c' := c2)) (pa_cons (pv 5) pa_nil)))) actsW_nil))) rfl (by first | exact Or.inl rfl | exact Or.inr (Or.inl rfl) | exact Or.inr (Or.inr rfl))))) (pe_op op_rep (pe_lst (pa_cons pe_str pa_nil)) pe_int) (nomark _)) (pss_one (ps_ret pe_bl)) pss_nil)
      (pss_cons (ps_if (pt_cmpR (op_neD hr.units) (pe_kind (X := (CxD P w K mg base ["_law_h", "_law_editor", "_law_k", "_law_work", "_law_bad", "_law_name", "_law_tape_here", "_law_at", "_law_worse", "_law_works", "_law_long"] d__law_are_refused cdv A outer s H E)) T rfl (k := 70) rfl BL hcode (hr.mono (by decide)) (LamX.lamS_by (sc := defScope s__law_are_refused) (by decide +kernel)) rfl (fun _ _ _ _ _ => rfl) (fun A2 o2 s2 H2 E2 f2 c2 room => (pe_mF _ (pv 1) T.c_Editor T.m_Editor_tape F_Editor_tape (room.mono (by decide)) (lam_px (X := (CxD P w K mg base ["_law_h", "_law_editor", "_law_k", "_law_work", "_law_bad", "_law_name", "_law_tape_here", "_law_at", "_law_worse", "_law_works", "_law_long"] d__law_are_refused cdv A outer s H E)) (A := A2) (outer := o2) (s := s2) (H := H2) (E := E2) (f := f2) (c' := c2)) (pa_cons pe_str (pa_cons (pv 8) pa_nil))))) (pe_tup (pa_cons pe_str (pa_cons (pv 7) pa_nil))) (nomark _)) (pss_one (ps_ret pe_bl)) pss_nil)
      (pss_cons (ps_asg (pe_op op_catU (pe_slice sl_tupU (pe_op op_catU (pv 6) (pe_op op_repZ (pe_tup (pa_cons (pe_tup (pa_cons pe_str pa_nil)) pa_nil)) pe_int)) po_none (po_some pe_int)) (pe_slice sl_tupU (pe_tup (pa_cons (pe_tup (pa_cons pe_str pa_nil)) (pa_cons (pv 4) pa_nil))) po_none (po_some (pe_op op_add pe_int (pe_cF F__law_next (hr.mono (by decide)) T.g__law_next px (pa_cons (pv 0) (pa_cons pe_int pa_nil))))))) (pg_name (i := 10) sc__law_are_refused.nd rfl (.inr rfl)))
      (pss_one (ps_ret (pe_cmpR (op_eqD hr.units) (pe_kind (X := (CxD P w K mg base ["_law_h", "_law_editor", "_law_k", "_law_work", "_law_bad", "_law_name", "_law_tape_here", "_law_at", "_law_worse", "_law_works", "_law_long"] d__law_are_refused cdv A outer s H E)) T rfl (k := 70) rfl BL hcode (hr.mono (by decide)) (LamX.lamS_by (sc := defScope s__law_are_refused) (by decide +kernel)) rfl (fun _ _ _ _ _ => rfl) (fun A2 o2 s2 H2 E2 f2 c2 room => (pe_mF _ (pv 1) T.c_Editor T.m_Editor_tape F_Editor_tape (room.mono (by decide)) (lam_px (X := (CxD P w K mg base ["_law_h", "_law_editor", "_law_k", "_law_work", "_law_bad", "_law_name", "_law_tape_here", "_law_at", "_law_worse", "_law_works", "_law_long"] d__law_are_refused cdv A outer s H E)) (A := A2) (outer := o2) (s := s2) (H := H2) (E := E2) (f := f2) (c' := c2)) (pa_cons pe_str (pa_cons (pv 10) pa_nil))))) (pe_tup (pa_cons pe_str (pa_cons pe_int pa_nil))) (nomark _)))))))))))))), ?_⟩
  obtain ⟨h, l, m, ed, rfl, hD, hE, dj, hTab, kQ⟩ := h
  have tabK : ∀ {S : List Addr} {Ha Hb : Hp}, Kq S Ha Hb → LamX.TabS Ha (tLn K ("_law_are_refused", none)) (lamQ "_law_are_refused") → LamX.TabS Hb (tLn K ("_law_are_refused", none)) (lamQ "_law_are_refused") := fun k z => k.tabS _ memL z
  refine ⟨_, rfl, h, l, rfl, hD, fun bad H1 k1 hD1 hbad => ?_⟩
  refine ⟨line16 (by show 5 ≤ 1000000; decide), fun Z nZ => ?_⟩
  have kZ : Kq [] H1 (upd H1 Z (.lst [.str "", .str "i", .str "A", .str "ab", .str "`"])) := Kq.alloc nZ
  have gZ : (upd H1 Z (.lst [.str "", .str "i", .str "A", .str "ab", .str "`"])) Z = some (.lst [.str "", .str "i", .str "A", .str "ab", .str "`"]) := upd_same
  have mZ : Z ∉ [h, l] := fresh_ne hD1.some nZ
  have hD2 := hD1.kq kZ
  generalize (upd H1 Z (.lst [.str "", .str "i", .str "A", .str "ab", .str "`"])) = H2 at kZ gZ hD2 ⊢
  refine ⟨_, rfl, h, l, 5, rfl, hD2, by decide, by decide, fun r1 H3 hr1 k3 hD3 => ?_⟩
  obtain ⟨nm, enm, hnm⟩ := badName_at hr1
  refine ⟨Z, _, _, .str nm, rfl, rfl, SqL.of (k3.q.gets gZ mZ), at_of (j := r1) rfl enm, ?_⟩
  have k03 := (k1.kq kZ).trans k3
  have hbad := (hbad.kq kZ).kf k3
  clear enm gZ mZ kZ k3 hD2 hD1 k1 nZ
  -- a tape
  refine ⟨_, rfl, h, l, 30, rfl, hD3, by decide, by decide, fun r2 H4 hr2 k4 hD4 => ⟨_, rfl, by omega, by omega, fun D nD => ?_⟩⟩
  have hbad := hbad.kf k4
  have k04 := k03.trans k4
  have mD : D ∉ [h, l] := fresh_ne hD4.some nD
  have nDh : D ≠ h := fun e => mD (by rw [e]; simp)
  have nDl : D ≠ l := fun e => mD (by rw [e]; simp)
  clear k03 k4 hD3
  refine lc_range (lo := 0) (n := (r2 : Int).toNat) (vs := [2]) (fun i H' => Kf [h, l] H4 H' ∧ DrAt H' h l ∧ ∃ as ks, as.length = i ∧ (∀ k ∈ ks, k.Ok) ∧ KeysAt K H' as ks ∧ H' D = some (.lst (as.map V.ref))) ⟨Kf.of (Kq.alloc nD) hD4.wr, hD4.kq (Kq.alloc nD), [], [], rfl, by simp, .nil, upd_same⟩ ?_ ?_
  · rintro i H' hi ⟨kq, hDi, as, ks, hl, hok, hks, gD⟩
    refine ⟨rfl, ?_⟩
    unfold tYes
    dsimp only
    rw [if_pos rfl]
    refine ⟨_, rfl, h, l, rfl, hDi, fun a ky Ha kok k3 hD3 hk => ?_⟩
    have g : Ha D = some (.lst (as.map V.ref)) := k3.q.gets gD mD
    have kw : Kf [D] Ha (upd Ha D (.lst (as.map V.ref ++ [.ref a]))) := Kf.one g
    have hDn := hD3.upd (D := D) (o := .lst (as.map V.ref ++ [.ref a])) nDh nDl
    refine ⟨_, g, ?_, ⟨(kq.trans k3).q.writeF nD g, hD4.wr, hDn.wr⟩, hDn, as ++ [a], ks ++ [ky], by simp [hl], fun k hk' => ?_, (kw.keys (k3.keys hks)).snoc (kw.key hk), ?_⟩
    · rw [List.length_map]; exact small1000 (by omega)
    · rcases List.mem_append.mp hk' with z | z
      · exact hok k z
      · rw [List.mem_singleton.mp z]; exact kok
    · rw [upd_same, List.map_append]; rfl
  rintro H5 ⟨kf5, hD5, as, ks, hl, pk, hks, gD⟩
  have hlk := hks.len
  have lk : ks.length ≤ 29 := by omega
  refine ⟨D, _, rfl, .inl ⟨SqL.of gD, fun T_ nT => ?_⟩⟩
  have kT : Kq [] H5 (upd H5 T_ (.tup (as.map V.ref))) := Kq.alloc nT
  have sT : SqT K (upd H5 T_ (.tup (as.map V.ref))) T_ (as.map V.ref) := SqT.of upd_same
  have hks := kT.keys hks
  have k06 := (k04.trans kf5).kq kT
  have hbad := (hbad.kf kf5).kq kT
  have hD6 := hD5.kq kT
  generalize (upd H5 T_ (.tup (as.map V.ref))) = H6 at kT sT hks k06 hbad hD6 ⊢
  clear k04 kf5 kT gD hD5 hD4 nDh nDl mD nD nT
  -- one that is bad in it
  refine ⟨_, rfl, _, rfl, T_, _, rfl, .inr sT, _, _, rfl, rfl, h, l, (as.map V.ref).length + 1, rfl, hD6, by omega, by rw [List.length_map]; omega, fun at_ H7 hat k7 hD7 => ?_⟩
  rw [List.length_map] at hat
  have sT := k7.tup sT
  have hks := k7.keys hks
  have hbad := hbad.kf k7
  have k07 := k06.trans k7
  clear k06 k7 hD6
  refine ⟨_, rfl, _, rfl, _, rfl, T_, _, rfl, sT, fun u1 Ha ka su1 => ?_⟩
  rw [cut_take (as.map V.ref) (n := at_) rfl, ← List.map_take] at su1
  refine ⟨_, rfl, line16 (by show 1 ≤ 1000000; decide), fun u2 nu2 => ?_⟩
  have ku2 : Kq [] Ha (upd Ha u2 (.tup [.ref bad])) := Kq.alloc nu2
  have su2 : SqT K (upd Ha u2 (.tup [.ref bad])) u2 ([bad].map V.ref) := SqT.of upd_same
  generalize (upd Ha u2 (.tup [.ref bad])) = Hb at ku2 su2 ⊢
  refine ⟨u1, u2, _, _, rfl, rfl, ku2.tup su1, su2, line16 (by rw [List.length_map, List.length_map, List.length_take]; show _ + 1 ≤ _; omega), fun u3 Hc kc su3 => ?_⟩
  rw [← List.map_append] at su3
  have k7c := (ka.trans ku2).trans kc
  clear su1 su2 ku2 nu2 ka kc
  refine ⟨_, rfl, _, rfl, _, rfl, T_, _, rfl, k7c.tup sT, fun u4 Hd kd su4 => ?_⟩
  rw [cut_drop (as.map V.ref) (n := at_) rfl, ← List.map_drop] at su4
  refine ⟨u3, u4, _, _, rfl, rfl, kd.tup su3, su4, line16 (by rw [List.length_map, List.length_map, List.length_append, List.length_take, List.length_drop]; show _ + 1 + _ ≤ _; omega), fun u5 He_ ke su5 => ?_⟩
  rw [← List.map_append] at su5
  have k7e := (k7c.trans kd).trans ke
  clear su3 su4 k7c kd ke
  refine ⟨_, rfl, h, l, rfl, hD7.kq k7e, fun o8 Hf kf hDf hod => ⟨line16 (by show 1 ≤ 1000000; decide), fun u6 nu6 => ?_⟩⟩
  have ku6 : Kq [] Hf (upd Hf u6 (.tup [.ref o8])) := Kq.alloc nu6
  have su6 : SqT K (upd Hf u6 (.tup [.ref o8])) u6 [.ref o8] := SqT.of upd_same
  have hod := hod.kq ku6
  have su5 := ku6.tup (kf.tup su5)
  have k7g := (Kf.cat k7e kf hD7.wr).kq ku6
  have hDg := hDf.kq ku6
  generalize (upd Hf u6 (.tup [.ref o8])) = Hg at ku6 su6 hod su5 k7g hDg ⊢
  refine ⟨_, rfl, h, l, 2, rfl, hDg, by decide, by decide, fun n8 Hi hn8 ki hDi => ?_⟩
  refine ⟨u6, (n8 : Int), [.ref o8], rfl, rfl, ki.tup su6, by simp, by omega, by omega, by show 1 ≤ 1000; decide, fun u7 Hj kj su7 => ?_⟩
  rw [flat_rep1, Int.toNat_natCast, show List.replicate n8 (V.ref o8) = (List.replicate n8 o8).map V.ref from (List.map_replicate ..).symm] at su7
  refine ⟨u5, u7, _, _, rfl, rfl, kj.tup (ki.tup su5), su7, line16 (by rw [List.length_map, List.length_map, List.length_append, List.length_append, List.length_take, List.length_drop, List.length_replicate]; show _ + 1 + _ + _ ≤ _; omega), fun q Hk kk sq => ?_⟩
  rw [← List.map_append] at sq
  have kgk := (ki.kq kj).kq kk
  have k7k := k7g.trans kgk
  have hDk := (hDi.kq kj).kq kk
  have hod := hod.kf kgk
  have hbad := hbad.kf k7k
  have sT := k7k.tup sT
  have hks := k7k.keys hks
  have k0k := k07.trans k7k
  clear k7k kgk kk kj ki k7g ku6 su6 su5 su7 kf k7e hD7 hDf hDg hDi nu6 k07
  obtain ⟨xb, sb, ob, pb⟩ := hbad
  obtain ⟨xp, sp, op, _⟩ := hod
  have hworse : TpAt K Hk q ((ks.map keyV).take at_ ++ [xb] ++ (ks.map keyV).drop at_ ++ List.replicate n8 xp) := ⟨_, sq, (((hks.tups.take at_).app (.cons sb .nil)).app (hks.tups.drop at_)).app (TupsAt.rep sp n8)⟩
  have fworse : firstBad 30 (keyB actB) 0 ((ks.map keyV).take at_ ++ [xb] ++ (ks.map keyV).drop at_ ++ List.replicate n8 xp) = some at_ := by
    rw [List.append_assoc, List.append_assoc]
    exact bad_atK pk (by omega) (by omega) pb _
  have oks : ∀ xs ∈ ks.map keyV, OddOk K xs := fun xs hx => by
    obtain ⟨k, hk, rfl⟩ := List.mem_map.mp hx
    exact oddOk_keyA T (pk k hk)
  have oworse : OddsOk K ((ks.map keyV).take at_ ++ [xb] ++ (ks.map keyV).drop at_ ++ List.replicate n8 xp) := by
    refine ⟨fun xs hx => ?_, by simp only [List.length_append, List.length_take, List.length_drop, List.length_map, List.length_replicate, List.length_cons, List.length_nil]; omega⟩
    rcases List.mem_append.mp hx with hx | hx
    · rcases List.mem_append.mp hx with hx | hx
      · rcases List.mem_append.mp hx with hx | hx
        · exact oks xs (List.mem_of_mem_take hx)
        · rw [List.mem_singleton.mp hx]; exact ob
      · exact oks xs (List.mem_of_mem_drop hx)
    · rw [(List.mem_replicate.mp hx).2]; exact op
  generalize (ks.map keyV).take at_ ++ [xb] ++ (ks.map keyV).drop at_ ++ List.replicate n8 xp = wss at hworse fworse oworse
  clear sq sp op
  have hE := hE.kf k0k dj
  have hTab := tabK k0k.q hTab
  have hT := hE.sign
  have k2 : ∀ z ∈ (["BadKey", "BadKey"] : List Str), PyData.strOk z = true := by decide +kernel
  have k3 : ∀ z ∈ (["BadName", "BadName", "BadName"] : List Str), PyData.strOk z = true := by decide +kernel
  refine ⟨hTab, fun G1 gr => ?_⟩
  have ka := gr.kq hTab unL
  have hTa := gr.tab
  obtain ⟨dx1, p1, e1⟩ := edAt_head (hE.kq ka)
  refine kind_none (x := "BadKey") (by decide +kernel) (by decide +kernel) (by decide +kernel) (fun E Q' y => ⟨_, rfl, m.e, dx1, _, rfl, e1, edF_nx_press _ _ _ _ _ _, _, rfl, m.e, bad, xb, actB, rfl, ka.tup sb, ob.1, ka.tab _ hT, ob.2, pb, y⟩) fun G2 kb => ?_
  have hTb := tabK kb hTa
  have kab := ka.trans kb
  clear ka kb hTa gr e1
  refine ⟨hTb, fun G3 gr => ?_⟩
  have kc := kab.trans (gr.kq hTb unL)
  have hTc := gr.tab
  obtain ⟨dx2, p2, e2⟩ := edAt_head (hE.kq kc)
  refine kind_none (x := "BadKey") (by decide +kernel) (by decide +kernel) (by decide +kernel) (fun E Q' y => ⟨_, rfl, m.e, dx2, _, rfl, e2, edF_nx_hand _ _ _ _ _ _, _, rfl, m.e, bad, xb, actB, rfl, kc.tup sb, ob.1, kc.tab _ hT, ob.2, pb, y⟩) fun G4 kd => ⟨line16 (by show 2 ≤ 1000000; decide), fun L1 nL1 => ?_⟩
  have ke := kc.trans kd
  have kL1 : Kq [] G4 (upd G4 L1 (.lst [.str "BadKey", .str "BadKey"])) := Kq.alloc nL1
  have gL1 : (upd G4 L1 (.lst [.str "BadKey", .str "BadKey"])) L1 = some (.lst ((["BadKey", "BadKey"] : List Str).map V.str)) := upd_same
  have hTe := tabK kL1 (tabK kd hTc)
  generalize (upd G4 L1 (.lst [.str "BadKey", .str "BadKey"])) = G5 at kL1 gL1 hTe ⊢
  refine ⟨line16 (by show 1 ≤ 1000000; decide), fun L2_ nL2 => ⟨L2_, 2, _, rfl, rfl, upd_same, by decide, by decide, line16 (by decide), fun L3 nL3 => ?_⟩⟩
  have kL2 : Kq [] G5 (upd G5 L2_ (.lst [.str "BadKey"])) := Kq.alloc nL2
  have kL3 : Kq [] (upd G5 L2_ (.lst [.str "BadKey"])) (upd (upd G5 L2_ (.lst [.str "BadKey"])) L3 (.lst (List.replicate (Int.toNat 2) [V.str "BadKey"]).flatten)) := Kq.alloc nL3
  have kL23 := kL2.trans kL3
  refine ⟨strsD ["BadKey", "BadKey"], strsD ["BadKey", "BadKey"], .lst (SqL.of (kL23.get gL1)) (dp_strsL _), .lst (SqL.of upd_same) (dp_strsL ["BadKey", "BadKey"]), shaped_strsL k2, shaped_strsL k2, _, rfl, ?_⟩
  rw [eqv_same (shaped_strsL k2)]
  refine iteF ?_
  have kf := (ke.trans kL1).trans kL23
  have hTf := tabK kL23 hTe
  generalize (upd (upd G5 L2_ (.lst [.str "BadKey"])) L3 (.lst (List.replicate (Int.toNat 2) [V.str "BadKey"]).flatten)) = G6 at kf hTf ⊢
  clear kL3 kL23 kL2 kL1 gL1 nL1 nL2 nL3 hTe ke kc kd hTc hTb kab gr e2
  -- names that are none
  refine ⟨hTf, fun G7 f1 g1 nf1 is1 => ?_⟩
  have kg := g1.kq hTf unL
  have hTg := g1.tab
  refine ⟨hTg, fun G8 f2 g2 nf2 is2 => ?_⟩
  have kh := g2.kq hTg unL
  have hTh := g2.tab
  have is1 := (stays_lam _ _ _ _).kq kh is1
  refine ⟨hTh, fun G9 f3 g3 nf3 is3 => ?_⟩
  have ki := g3.kq hTh unL
  have hTi := g3.tab
  have is1 := (stays_lam _ _ _ _).kq ki is1
  have is2 := (stays_lamD _ _ _ _).kq ki is2
  refine ⟨line16 (by show 3 ≤ 1000000; decide), fun W nW => ?_⟩
  have kW : Kq [] G9 (upd G9 W (.lst [.ref f1, .ref f2, .ref f3])) := Kq.alloc nW
  have gW : (upd G9 W (.lst [.ref f1, .ref f2, .ref f3])) W = some (.lst (([f1, f2, f3] : List Addr).map V.ref)) := upd_same
  have is1 := (stays_lam _ _ _ _).kq kW is1
  have is2 := (stays_lamD _ _ _ _).kq kW is2
  have is3 := (stays_lamD _ _ _ _).kq kW is3
  have kw := (((kf.trans kg).trans kh).trans ki).trans kW
  have hTw := tabK kW hTi
  generalize (upd G9 W (.lst [.ref f1, .ref f2, .ref f3])) = Hw at kW gW is1 is2 is3 kw hTw ⊢
  clear kW kf kg kh ki hTf hTg hTh hTi g1 g2 g3 nf1 nf2 nf3 nW
  have hE := hE.kq kw
  have hworse := hworse.kq kw
  have hT := hE.sign
  have sb := kw.tup sb
  have sT := kw.tup sT
  have hks := kw.keys hks
  have k0k := k0k.kq kw
  have hDk := hDk.kq kw
  clear kw
  refine ⟨_, rfl, W, rfl, ⟨_, SqL.of gW⟩, fun D nD => ?_⟩
  refine lc_list (K := K) (a := W) (xs := ([f1, f2, f3] : List Addr).map V.ref) (fun i H' => Kq [] Hw H' ∧ H' D = some (.lst ((List.replicate i ("BadName" : Str)).map V.str))) ⟨Kq.alloc nD, upd_same⟩ (fun i H' _ z => SqL.of (z.1.get gW)) ?_ ?_
  · rintro i x Hx hx ⟨kx, gD⟩
    have isx1 := (stays_lam _ _ _ _).kq kx is1
    have isx2 := (stays_lamD _ _ _ _).kq kx is2
    have isx3 := (stays_lamD _ _ _ _).kq kx is3
    obtain ⟨dx, p, e1⟩ := edAt_head (hE.kq kx)
    have hi3 : i < 3 := (List.getElem?_eq_some_iff.mp hx).1
    have fin : ∀ H', Kq [] Hx H' → ∃ acc, H' D = some (HO.lst acc) ∧ acc.length < sizeLine ∧ Kq [] Hw (upd H' D (.lst (acc ++ [V.str "BadName"]))) ∧ (upd H' D (.lst (acc ++ [V.str "BadName"]))) D = some (.lst ((List.replicate (i + 1) ("BadName" : Str)).map V.str)) := fun H' k => by
      have g := k.get gD
      refine ⟨_, g, by rw [List.length_map, List.length_replicate]; exact small1000 (by omega), (kx.trans k).writeF nD g, ?_⟩
      rw [upd_same, List.replicate_succ', List.map_append]; rfl
    refine ⟨rfl, ?_⟩
    unfold tYes
    dsimp only
    rw [if_pos rfl]
    match i, hx with
    | 0, hx =>
      cases hx
      refine kindV_of (K := K) (.head _) rfl isx1 ?_
      exact kind_none (x := "BadName") (by decide +kernel) (by decide +kernel) (by decide +kernel) (fun E Q' y => ⟨_, rfl, m.e, dx, _, rfl, e1, edF_nx_tape _ _ _ _ _ _, _, rfl, _, rfl, m.e, .str nm, q, wss, rfl, rfl, hworse.kq kx, oworse, kx.tab _ hT, .inl ⟨hnm, y _ Kq.refl⟩⟩) fun H' k => fin H' k
    | 1, hx =>
      cases hx
      refine kindV_of (K := K) (.tail _ (.head _)) rfl isx2 ?_
      exact kind_none (x := "BadName") (by decide +kernel) (by decide +kernel) (by decide +kernel) (fun E Q' y => ⟨_, rfl, m.e, dx, _, rfl, e1, edF_nx_tape_of _ _ _ _ _ _, _, rfl, m.e, .str nm, rfl, rfl, hnm, y _ Kq.refl⟩) fun H' k => fin H' k
    | 2, hx =>
      cases hx
      refine kindV_of (K := K) (.tail _ (.tail _ (.head _))) rfl isx3 ?_
      exact kind_none (x := "BadName") (by decide +kernel) (by decide +kernel) (by decide +kernel) (fun E Q' y => ⟨_, rfl, m.e, dx, _, rfl, e1, edF_nx_record _ _ _ _ _ _, _, rfl, m.e, .str nm, rfl, rfl, hnm, y _ Kq.refl⟩) fun H' k => fin H' k
    | n + 3, _ => omega
  rintro Hx ⟨kx, gD⟩
  refine ⟨line16 (by show 1 ≤ 1000000; decide), fun M1 nM1 => ⟨M1, 3, _, rfl, rfl, upd_same, by decide, by decide, line16 (by decide), fun M2 nM2 => ?_⟩⟩
  have kM1 : Kq [] Hx (upd Hx M1 (.lst [.str "BadName"])) := Kq.alloc nM1
  have kM2 : Kq [] (upd Hx M1 (.lst [.str "BadName"])) (upd (upd Hx M1 (.lst [.str "BadName"])) M2 (.lst (List.replicate (Int.toNat 3) [V.str "BadName"]).flatten)) := Kq.alloc nM2
  have kM := kM1.trans kM2
  refine ⟨strsD ["BadName", "BadName", "BadName"], strsD ["BadName", "BadName", "BadName"], .lst (SqL.of (kM.get gD)) (dp_strsL ["BadName", "BadName", "BadName"]), .lst (SqL.of upd_same) (dp_strsL ["BadName", "BadName", "BadName"]), shaped_strsL k3, shaped_strsL k3, _, rfl, ?_⟩
  rw [eqv_same (shaped_strsL k3)]
  refine iteF ?_
  have ky := kx.trans kM
  generalize (upd (upd Hx M1 (.lst [.str "BadName"])) M2 (.lst (List.replicate (Int.toNat 3) [V.str "BadName"]).flatten)) = Y0 at ky ⊢
  clear kM kM1 kM2 nM1 nM2 gD kx is1 is2 is3 gW nD
  have hE := hE.kq ky
  have hworse := hworse.kq ky
  have hT := hE.sign
  have sb := ky.tup sb
  have sT := ky.tup sT
  have hks := ky.keys hks
  have k0k := k0k.kq ky
  have hDk := hDk.kq ky
  have hTy := tabK ky hTw
  clear ky hTw
  -- keys that are none
  refine ⟨hTy, fun Y1 gr => ?_⟩
  have k1 := gr.kq hTy unL
  have hT1 := gr.tab
  obtain ⟨dx3, p3, e3⟩ := edAt_head (hE.kq k1)
  refine kind_keys (i := at_) (fun E Q' y => ⟨_, rfl, m.e, dx3, _, rfl, e3, edF_nx_tape _ _ _ _ _ _, _, rfl, m.e, .str "a", q, wss, rfl, rfl, hworse.kq k1, oworse, k1.tab _ hT, .inr ⟨by decide +kernel, at_, fworse, y⟩⟩) fun p Y2 k2' sp => ⟨_, rfl, line16 (by show 2 ≤ 1000000; decide), fun q2 nq2 => ?_⟩
  have kq2 : Kq [] Y2 (upd Y2 q2 (.tup [.str "BadKeys", .int (at_ : Nat)])) := Kq.alloc nq2
  refine ⟨badKD at_, badKD at_, dp_badK (kq2.tup sp), dp_badK (SqT.of upd_same), shaped_badK at_, shaped_badK at_, _, rfl, ?_⟩
  rw [eqv_badK]
  refine iteF ?_
  have ky := (k1.trans k2').trans kq2
  have hT3 := tabK (k2'.trans kq2) hT1
  generalize (upd Y2 q2 (.tup [.str "BadKeys", .int (at_ : Nat)])) = Y3 at ky hT3 ⊢
  clear kq2 nq2 sp k1 k2' gr hT1 e3 hTy
  have hE := hE.kq ky
  have hT := hE.sign
  have sb := ky.tup sb
  have sT := ky.tup sT
  have hks := ky.keys hks
  have k0k := k0k.kq ky
  have hDk := hDk.kq ky
  clear ky hworse fworse oworse
  -- thirty-one
  refine ⟨_, rfl, line16 (by show 1 ≤ 1000000; decide), fun w1 nw1 => ⟨line16 (by show 1 ≤ 1000000; decide), fun w2 nw2 => ?_⟩⟩
  have kw1 : Kq [] Y3 (upd Y3 w1 (.tup [.str "home"])) := Kq.alloc nw1
  have sw1 : SqT K (upd Y3 w1 (.tup [.str "home"])) w1 (keyV .home) := SqT.of upd_same
  generalize (upd Y3 w1 (.tup [.str "home"])) = Y4 at kw1 sw1 nw2 ⊢
  have kw2 : Kq [] Y4 (upd Y4 w2 (.tup [.ref w1])) := Kq.alloc nw2
  have sw2 : SqT K (upd Y4 w2 (.tup [.ref w1])) w2 [.ref w1] := SqT.of upd_same
  have sw1 := kw2.tup sw1
  have k02 := kw1.trans kw2
  generalize (upd Y4 w2 (.tup [.ref w1])) = Y5 at kw2 sw1 sw2 k02 ⊢
  refine ⟨w2, 30, [.ref w1], rfl, rfl, sw2, by simp, by decide, by decide, by show 1 ≤ 1000; decide, fun w3 Y6 k3' sw3 => ?_⟩
  have sw3 : SqT K Y6 w3 ((List.replicate 30 w1).map V.ref) := by
    rw [flat_rep1, show (30 : Int).toNat = 30 from rfl] at sw3
    rw [List.map_replicate]; exact sw3
  have k03 := k02.trans k3'
  refine ⟨T_, w3, _, _, rfl, rfl, k03.tup sT, sw3, line16 (by rw [List.length_map, List.length_map, List.length_replicate]; omega), fun w4 Y7 k4 sw4 => ?_⟩
  rw [← List.map_append] at sw4
  refine ⟨_, rfl, w4, _, rfl, sw4, fun w5 Y8 k5 sw5 => ?_⟩
  rw [cut_take (i := 30) _ (n := 30) rfl, ← List.map_take] at sw5
  have k05 := (k03.trans k4).trans k5
  have sw1 := k5.tup (k4.tup (k3'.tup sw1))
  have h6 : TupsAt K Y8 ((as ++ List.replicate 30 w1).take 30) (((ks ++ List.replicate 30 Ky.home).take 30).map keyV) := by
    rw [List.map_take, List.map_append, List.map_replicate]
    exact (((k05.keys hks).tups).app (TupsAt.rep sw1 30)).take 30
  have p6 : ∀ k ∈ (ks ++ List.replicate 30 Ky.home).take 30, k.Ok := fun k hk => by
    rcases List.mem_append.mp (List.mem_of_mem_take hk) with z | z
    · exact pk k z
    · rw [(List.mem_replicate.mp z).2]; trivial
  have l6 : ((ks ++ List.replicate 30 Ky.home).take 30).length = 30 := by rw [List.length_take, List.length_append, List.length_replicate]; omega
  have hl6 : ((as ++ List.replicate 30 w1).take 30).length = 30 := by rw [List.length_take, List.length_append, List.length_replicate]; omega
  generalize (ks ++ List.replicate 30 Ky.home).take 30 = k6 at h6 p6 l6
  generalize (as ++ List.replicate 30 w1).take 30 = a6 at h6 hl6 sw5
  have sb := k05.tup sb
  clear sw1 sw2 sw3 sw4 k03 k02 kw1 kw2 k3' k4 k5 nw1 nw2 sT hks
  refine ⟨line16 (by show 1 ≤ 1000000; decide), fun e1 ne1 => ⟨_, rfl, line16 (by show 2 ≤ 1000000; decide), fun e3 ne3 => ?_⟩⟩
  have ke1 : Kq [] Y8 (upd Y8 e1 (.tup [.str "end"])) := Kq.alloc ne1
  have se1 : SqT K (upd Y8 e1 (.tup [.str "end"])) e1 (keyV .end_) := SqT.of upd_same
  generalize (upd Y8 e1 (.tup [.str "end"])) = Y9 at ke1 se1 ne3 ⊢
  have ke3 : Kq [] Y9 (upd Y9 e3 (.tup [.ref e1, .ref bad])) := Kq.alloc ne3
  have se3 : SqT K (upd Y9 e3 (.tup [.ref e1, .ref bad])) e3 (([e1, bad] : List Addr).map V.ref) := SqT.of upd_same
  have se1 := ke3.tup se1
  have k8a := ke1.trans ke3
  have sb := k8a.tup sb
  generalize (upd Y9 e3 (.tup [.ref e1, .ref bad])) = Ya at ke3 se1 se3 k8a sb ⊢
  have k0a := k05.trans k8a
  refine ⟨_, rfl, h, l, 2, rfl, hDk.kq k0a, by decide, by decide, fun r12 Yb hr12 kb hDb => ⟨_, _, rfl, rfl, _, rfl, e3, _, rfl, kb.tup se3, fun e4 Yc kc se4 => ?_⟩⟩
  rw [cut_take _ (n := 1 + r12) (by omega), ← List.map_take] at se4
  have kac := kb.kq kc
  have hDc := hDb.kq kc
  refine ⟨w5, e4, _, _, rfl, rfl, kac.tup (k8a.tup sw5), se4, line16 (by rw [List.length_map, List.length_map, List.length_take, hl6]; show 30 + min _ 2 ≤ _; omega), fun lg Yd kd slg => ?_⟩
  rw [← List.map_append] at slg
  have hDd := hDc.kq kd
  have kad := kac.kq kd
  have k3d := Kf.cat k0a kad hDk.wr
  have h6 := (h6.kq k8a).kfX kad
  have hlong : TpAt K Yd lg (k6.map keyV ++ ([keyV .end_, xb] : List (List V)).take (1 + r12)) := ⟨_, slg, h6.app (TupsAt.take (1 + r12) (.cons (kad.tup se1) (.cons (kad.tup sb) .nil)))⟩
  have flong := long_twoK hr12 p6 l6 (keyV .end_) xb
  have olong : OddsOk K (k6.map keyV ++ ([keyV .end_, xb] : List (List V)).take (1 + r12)) := by
    refine ⟨fun xs hx => ?_, by rw [List.length_append, List.length_map, List.length_take, l6]; show 30 + min (1 + r12) 2 ≤ 100; omega⟩
    rcases List.mem_append.mp hx with z | z
    · obtain ⟨k, hk, rfl⟩ := List.mem_map.mp z
      exact oddOk_keyA T (p6 k hk)
    · have z := List.mem_of_mem_take z
      simp only [List.mem_cons, List.not_mem_nil, or_false] at z
      rcases z with rfl | rfl
      · exact oddOk_keyA T (k := .end_) trivial
      · exact ob
  generalize k6.map keyV ++ ([keyV .end_, xb] : List (List V)).take (1 + r12) = lss at hlong flong olong
  have hE := hE.kf k3d dj
  have hT := hE.sign
  have hTd := tabK k3d.q hT3
  have k0d := k0k.trans k3d
  clear slg se1 se3 se4 sw5 k8a kad kac k3d k0a k05 ke1 ke3 kb kc kd hDk hDb hDc
  refine ⟨hTd, fun Z1 gr => ?_⟩
  have k1 := gr.kq hTd unL
  obtain ⟨dx4, p4, e4'⟩ := edAt_head (hE.kq k1)
  refine kind_keys (i := 30) (fun E Q' y => ⟨_, rfl, m.e, dx4, _, rfl, e4', edF_nx_tape _ _ _ _ _ _, _, rfl, m.e, .str "h", lg, lss, rfl, rfl, hlong.kq k1, olong, k1.tab _ hT, .inr ⟨by decide +kernel, 30, flong, y⟩⟩) fun p Z2 k2' sp => ⟨line16 (by show 2 ≤ 1000000; decide), fun q2 nq2 => ?_⟩
  have kq2 : Kq [] Z2 (upd Z2 q2 (.tup [.str "BadKeys", .int 30])) := Kq.alloc nq2
  refine ⟨badKD 30, badKD 30, dp_badK (kq2.tup sp), dp_badK (SqT.of upd_same), shaped_badK 30, shaped_badK 30, ?_⟩
  rw [eqv_badK]
  have kz := (k1.trans k2').trans kq2
  exact kQ _ (k0d.kq kz) (hDd.kq kz)
end
end KT
set_option Elab.async false
set_option linter.all false
set_option maxRecDepth 100000
set_option maxHeartbeats 4000000
namespace KT
open PySem PySem.Spec PyProof.Rows L2 GxR
variable [GT]
theorem units65 {k : Nat} {A : Around} (h : Room k A) : A.units + 65 < cLine := by have := h.un; omega
def Ky.goes : Ky → Bool
  | .find _ => true
  | .home => true
  | .end_ => true
  | .left => true
  | .right => true
  | .up => true
  | .down => true
  | _ => false
/-! ### places in the heap -/
inductive PosAt (H : Hp) : List Addr → List (Nat × Nat) → Prop where
  | nil : PosAt H [] []
  | cons {a : Addr} {p : Nat × Nat} {as : List Addr} {ps : List (Nat × Nat)} (h : H a = some (.tup [.int p.1, .int p.2])) (r : PosAt H as ps) : PosAt H (a :: as) (p :: ps)
theorem PosAt.kq {H H1 : Hp} (k : Kq [] H H1) {as : List Addr} {ps : List (Nat × Nat)} (h : PosAt H as ps) : PosAt H1 as ps := by
  induction h with
  | nil => exact .nil
  | cons h _ ih => exact .cons (k.get h) ih
theorem PosAt.kf {S : List Addr} {H H1 : Hp} (k : Kf S H H1) {as : List Addr} {ps : List (Nat × Nat)} (h : PosAt H as ps) : PosAt H1 as ps := by
  induction h with
  | nil => exact .nil
  | cons h _ ih => exact .cons (k.get h rfl) ih
theorem PosAt.app {H : Hp} {as bs : List Addr} {ps qs : List (Nat × Nat)} (h : PosAt H as ps) (h' : PosAt H bs qs) : PosAt H (as ++ bs) (ps ++ qs) := by
  induction h with
  | nil => exact h'
  | cons h _ ih => exact .cons h ih
theorem PosAt.snoc {H : Hp} {as : List Addr} {ps : List (Nat × Nat)} {a : Addr} {p : Nat × Nat} (h : PosAt H as ps) (ha : H a = some (.tup [.int p.1, .int p.2])) : PosAt H (as ++ [a]) (ps ++ [p]) := h.app (.cons ha .nil)
theorem PosAt.len {H : Hp} {as : List Addr} {ps : List (Nat × Nat)} (h : PosAt H as ps) : as.length = ps.length := by
  induction h with
  | nil => rfl
  | cons _ _ ih => simp [ih]
theorem PosAt.at_ {H : Hp} {as : List Addr} {ps : List (Nat × Nat)} (h : PosAt H as ps) : ∀ {i : Nat} {p : Nat × Nat}, ps[i]? = some p → ∃ a, as[i]? = some a ∧ H a = some (.tup [.int p.1, .int p.2]) := by
  induction h with
  | nil => intro i p hp; simp at hp
  | cons h _ ih =>
    intro i p hp
    cases i with
    | zero => cases hp; exact ⟨_, rfl, h⟩
    | succ i => exact ih (by simpa using hp)
theorem ref_at {as : List Addr} {i : Nat} {a : Addr} (h : as[i]? = some a) : (as.map V.ref)[i]? = some (.ref a) := by rw [List.getElem?_map, h]; rfl
def posD (p : Nat × Nat) : PyData := .tuple [.int p.1, .int p.2]
theorem PosAt.dp {K : PySem.W.Frag} {H : Hp} {as : List Addr} {ps : List (Nat × Nat)} (h : PosAt H as ps) : DpAll K H (as.map V.ref) (ps.map posD) := by
  induction h with
  | nil => exact .nil
  | cons h _ ih => exact .cons (.tup (SqT.of h) (.cons (.int _) (.cons (.int _) .nil))) ih
theorem posD_eqv (p q : Nat × Nat) : PyData.eqv (posD p) (posD q) = decide (p = q) := by
  have : PyData.eqv (posD p) (posD q) = (decide ((p.1 : Int) = (q.1 : Int)) && decide ((p.2 : Int) = (q.2 : Int))) := by
    simp [posD, PyData.eqv, PyData.eqvAll]
    rfl
  rw [this]
  by_cases h : p = q
  · subst h; simp
  · rw [decide_eq_false h]
    by_cases h1 : (p.1 : Int) = q.1
    · by_cases h2 : (p.2 : Int) = q.2
      · exact absurd (Prod.ext (by omega) (by omega)) h
      · simp [h2]
    · simp [h1]
theorem canLay_pos : ∀ ps : List (Nat × Nat), PyData.canLayAll0 (ps.map posD) = true
  | [] => rfl
  | p :: r => by
    show (PyData.canLay0 (posD p) && PyData.canLayAll0 (r.map posD)) = true
    rw [canLay_pos r]
    simp [posD, PyData.canLay0, PyData.canLayAll0]
theorem depth_pos : ∀ ps : List (Nat × Nat), PyData.depthAll (ps.map posD) ≤ 1
  | [] => Nat.zero_le _
  | p :: r => by
    show max (PyData.depth (posD p)) (PyData.depthAll (r.map posD)) ≤ 1
    have := depth_pos r
    have h1 : PyData.depth (posD p) = 1 := by simp [posD, PyData.depth, PyData.depthAll]
    omega
theorem shaped_pos (ps : List (Nat × Nat)) : SeqAt.shaped (.list (ps.map posD)) = true := by
  unfold SeqAt.shaped
  have h1 : PyData.canLay0 (.list (ps.map posD)) = PyData.canLayAll0 (ps.map posD) := by simp [PyData.canLay0]
  have h2 : PyData.depth (.list (ps.map posD)) = PyData.depthAll (ps.map posD) + 1 := by simp [PyData.depth]
  have h3 := depth_pos ps
  rw [h1, h2, canLay_pos, decide_eq_true (by omega)]; rfl
theorem shaped_posD (p : Nat × Nat) : SeqAt.shaped (posD p) = true := by
  unfold SeqAt.shaped
  simp [posD, PyData.canLay0, PyData.canLayAll0, PyData.depth, PyData.depthAll]
theorem goes_cases {ky : Ky} (h : ky.goes = true) : (∃ w, ky = .find w) ∨ (∃ b : Bool, keyV ky = [.str (bif b then "end" else "home")] ∧ ∀ g : Pg, g.does ky = some (g.at_ g.row (bif b then g.line.length else 0))) ∨
    (∃ b : Bool, keyV ky = [.str (bif b then "left" else "right")] ∧ ∀ g : Pg, g.does ky = bif b then g.left else g.right) ∨ (∃ b : Bool, keyV ky = [.str (bif b then "up" else "down")] ∧ ∀ g : Pg, g.does ky = bif b then g.up else g.down) := by
  cases ky with
  | find w => exact .inl ⟨w, rfl⟩
  | home => exact .inr (.inl ⟨false, rfl, fun _ => rfl⟩)
  | end_ => exact .inr (.inl ⟨true, rfl, fun _ => rfl⟩)
  | left => exact .inr (.inr (.inl ⟨true, rfl, fun _ => rfl⟩))
  | right => exact .inr (.inr (.inl ⟨false, rfl, fun _ => rfl⟩))
  | up => exact .inr (.inr (.inr ⟨true, rfl, fun _ => rfl⟩))
  | down => exact .inr (.inr (.inr ⟨false, rfl, fun _ => rfl⟩))
  | _ => cases h
section
variable {P : Program} {w : World} {K : PySem.W.Frag} {mg : Str → Option Value} {base : Heap}
def sp_goes (K : PySem.W.Frag) : Sp := fun vs H Q _ => ∃ sm g m kl a ky, vs = [.ref sm.s, .ref a] ∧ ShAt K H sm g m kl ∧ g.Ok ∧ KeyAt K H a ky ∧ ky.Ok ∧ ky.goes = true ∧ (g.does ky = none → ∀ H', Kq [] H H' → Q .non H') ∧ ∀ q r c H', Kq [] H H' → g.does ky = some (g.at_ r c) → H' q = some (.tup [.int (r : Nat), .int (c : Nat)]) → Q (.ref q) H'
end
end KT
set_option Elab.async false
set_option linter.all false
set_option maxRecDepth 100000
set_option maxHeartbeats 4000000
namespace KT
open PySem PySem.Spec PyProof.Rows L2 GxR
variable [GT]
def lettersS : Str := Str.ofString "abcdefghijklmnopqrstuvwxyz"
theorem letters_cps : lettersS.cps.toList = List.range' 97 26 := by decide +kernel
theorem in_letters (c : Nat) : decide (c ∈ lettersS.cps.toList) = isLet c := by
  rw [letters_cps]
  unfold isLet
  by_cases h : 97 ≤ c ∧ c ≤ 122
  · rw [decide_eq_true h.1, decide_eq_true h.2, decide_eq_true (by rw [List.mem_range']; exact ⟨c - 97, by omega, by omega⟩)]; rfl
  · rw [decide_eq_false (by rw [List.mem_range']; rintro ⟨i, h1, h2⟩; omega)]
    by_cases h1 : 97 ≤ c
    · rw [decide_eq_false (show ¬ c ≤ 122 by omega), Bool.and_false]
    · rw [decide_eq_false h1, Bool.false_and]
def signsV (cs : Ln) : List V := cs.map fun c => V.str (S [c])
theorem dp_signs {K : PySem.W.Frag} {H : Hp} : ∀ cs : Ln, DpAll K H (signsV cs) (cs.map fun c => PyData.str (S [c]))
  | [] => .nil
  | _ :: cs => .cons (.str _) (dp_signs cs)
theorem shaped_signs {cs : Ln} (h : ∀ c ∈ cs, okSign c) : SeqAt.shaped (.list (cs.map fun c => PyData.str (S [c]))) = true := by
  have e : (cs.map fun c => PyData.str (S [c])) = ((cs.map fun c => [c]).map fun l => PyData.str (S l)) := by rw [List.map_map]; rfl
  unfold SeqAt.shaped
  have h1 : PyData.canLay0 (.list (cs.map fun c => PyData.str (S [c]))) = PyData.canLayAll0 (cs.map fun c => PyData.str (S [c])) := by simp [PyData.canLay0]
  have h2 : PyData.depth (.list (cs.map fun c => PyData.str (S [c]))) = PyData.depthAll (cs.map fun c => PyData.str (S [c])) + 1 := by simp [PyData.depth]
  rw [h1, h2, e, canLay_strs _ (by
    intro l hl
    obtain ⟨c, hc, rfl⟩ := List.mem_map.mp hl
    intro d hd
    rw [List.mem_singleton.mp hd]
    exact h c hc), depth_strs]; rfl
theorem ShAt.put {K : PySem.W.Frag} {H : Hp} {sm : ShM} {g g' : Pg} {m : Int} {kl : List Ky} {pl : Addr} (h : ShAt K H sm g m kl) (er : g'.rows = g.rows) (hp : H pl = some (.tup [.int g'.row, .int g'.col])) :
    Kf [sm.s] H (upd H sm.s (.dK (sheet sm.lr pl (S g'.clip) m sm.ka))) ∧ ShAt K (upd H sm.s (.dK (sheet sm.lr pl (S g'.clip) m sm.ka))) sm g' m kl := by
  have hw := h.wr
  obtain ⟨pl0, as, s1, s2, s3, s4, s5⟩ := h
  have kw : Kf [sm.s] H (upd H sm.s (.dK (sheet sm.lr pl (S g'.clip) m sm.ka))) := Kf.write s1 (by simp) rfl hw
  have n1 : sm.lr ≠ sm.s := fun e => by rw [e, s1] at s2; cases s2
  have n2 : sm.ka ≠ sm.s := fun e => by rw [e, s1] at s4; cases s4
  exact ⟨kw, pl, as, upd_same, (upd_ne n1).trans (by rw [er]; exact s2), kw.get hp rfl, (upd_ne n2).trans s4, kw.keys s5⟩
theorem does_cases {g : Pg} {ky : Ky} (hk : ky.Ok) (h : ky.single = true) :
    (∃ (b : Bool) (t : Ln), ((b = true ∧ keyV ky = [.str "put", .str (S t)] ∧ t.length = 1) ∨ (b = false ∧ keyV ky = [.str "lay"] ∧ t = g.clip)) ∧ g.does ky = if t = [] then none else g.write t) ∨
    ky = .brk ∨ ky = .rub ∨ ky = .take ∨ (ky.goes = true ∧ ∃ (wd : Str) (r : List V), keyV ky = .str wd :: r ∧ inV (.str wd) [.str "put", .str "lay"] = false ∧ wd ≠ "break" ∧ wd ≠ "rub" ∧ wd ≠ "take") := by
  cases ky with
  | put s =>
    refine .inl ⟨true, s, .inl ⟨rfl, rfl, hk.1⟩, ?_⟩
    rw [if_neg (by intro e; rw [e] at hk; exact absurd hk.1 (by decide))]; rfl
  | lay => exact .inl ⟨false, g.clip, .inr ⟨rfl, rfl, rfl⟩, rfl⟩
  | brk => exact .inr (.inl rfl)
  | rub => exact .inr (.inr (.inl rfl))
  | take => exact .inr (.inr (.inr (.inl rfl)))
  | find w => exact .inr (.inr (.inr (.inr ⟨rfl, _, _, rfl, by decide +kernel, by decide +kernel, by decide +kernel, by decide +kernel⟩)))
  | home => exact .inr (.inr (.inr (.inr ⟨rfl, _, _, rfl, by decide +kernel, by decide +kernel, by decide +kernel, by decide +kernel⟩)))
  | end_ => exact .inr (.inr (.inr (.inr ⟨rfl, _, _, rfl, by decide +kernel, by decide +kernel, by decide +kernel, by decide +kernel⟩)))
  | left => exact .inr (.inr (.inr (.inr ⟨rfl, _, _, rfl, by decide +kernel, by decide +kernel, by decide +kernel, by decide +kernel⟩)))
  | right => exact .inr (.inr (.inr (.inr ⟨rfl, _, _, rfl, by decide +kernel, by decide +kernel, by decide +kernel, by decide +kernel⟩)))
  | up => exact .inr (.inr (.inr (.inr ⟨rfl, _, _, rfl, by decide +kernel, by decide +kernel, by decide +kernel, by decide +kernel⟩)))
  | down => exact .inr (.inr (.inr (.inr ⟨rfl, _, _, rfl, by decide +kernel, by decide +kernel, by decide +kernel, by decide +kernel⟩)))
  | _ => cases h
section
variable {P : Program} {w : World} {K : PySem.W.Frag} {mg : Str → Option Value} {base : Heap}
def sp_does (K : PySem.W.Frag) : Sp := fun vs H Q _ => ∃ sm g m kl a ky, vs = [.ref sm.s, .ref a] ∧ ShAt K H sm g m kl ∧ g.Ok ∧ KeyAt K H a ky ∧ ky.Ok ∧ ky.single = true ∧ ∀ lr H', (lr = sm.lr ∨ H lr = none) → Kf [sm.s] H H' → ShAt K H' ⟨sm.s, lr, sm.ka⟩ ((g.does ky).getD g) m kl → Q (.bl (g.does ky).isSome) H'
end
end KT
set_option Elab.async false
set_option linter.all false
set_option maxRecDepth 100000
set_option maxHeartbeats 4000000
namespace KT
open PySem PySem.Spec PyProof.Rows L2 GxR
variable [GT]
def signsL (z : Str) : List V := z.cps.toList.map fun c => .str ⟨#[c]⟩
def rListS : List V → Hp → VK → Prop := fun xs H Q => ∃ z, xs = [.str z] ∧ z.length ≤ sizeLine ∧ ∀ q, H q = none → Q (.ref q) (upd H q (.lst (signsL z)))
theorem vals_signsL {z : Str} {acc : Array Value} (h : ItemsOf (SignAt z) acc z.cps.size) : Vals (signsL z) acc.toList := by
  refine vals_of_at ?_ fun j x u h1 h2 => ?_
  · unfold signsL
    rw [List.length_map, Array.length_toList, Array.length_toList, h.1]
  · unfold signsL at h1
    rw [List.getElem?_map] at h1
    obtain ⟨c, hc, rfl⟩ := Option.map_eq_some_iff.mp h1
    obtain ⟨d, t, hd, rfl⟩ := h.2 j u (by rw [← h2, Array.getElem?_toList])
    rw [Array.getElem?_toList] at hc
    rw [hc] at hd
    cases hd
    exact ⟨t, rfl⟩
/-- list of a text -/
theorem call_listS {X : Cx} (hc : X.calm = true) : CallR X (.type "list") rListS := by
  intro pins s σ H xs us Q I r h
  obtain ⟨z, rfl, hz, q⟩ := h
  obtain ⟨u, rfl, rx⟩ := vals1 r
  obtain ⟨t, rfl⟩ := rx
  refine PySem.call_list_str (I.ok.hd hc) z t (hn := hz) fun h' tk acc' c' hk e' hi => ?_
  refine ⟨.ref s.heap.objs.size, upd H s.heap.objs.size (.lst (signsL z)), I.laid hk (Nat.le_refl _) (show ObjOk X.prog X.w _ _ _ (.lst (signsL z)) from ⟨?_, acc'.toList, c', vals_signsL hi, ?_⟩), rfl, q _ (I.hok.fresh (Nat.le_refl _))⟩
  · unfold signsL; rw [List.length_map, Array.length_toList]; exact hz
  · rw [Array.toArray_toList]; exact e'
end KT
set_option Elab.async false
set_option linter.all false
set_option maxRecDepth 100000
set_option maxHeartbeats 4000000
namespace KT
open PySem PySem.Spec PyProof.Rows L2 GxR
variable [GT]
/-! ### texts that are none -/
theorem rowsV_map (ls : List Ln) : rowsV ls = ls.map fun l => V.str (S l) := rfl
/-- rows that may be joined, and are no text -/
def BadRows (ls : List Ln) : Prop := ls ≠ [] ∧ (∀ l ∈ ls, 10 ∉ l) ∧ (∀ l ∈ ls, l.length ≤ 1000) ∧ ls.length ≤ 900 ∧ goodB ls = false
theorem good_rows {ls : List Ln} (h : goodB ls = true) : ls.length ≤ 12 ∧ (∀ l ∈ ls, l.length ≤ 60) ∧ ∀ l ∈ ls, 10 ∉ l := by
  unfold goodB at h
  simp only [Bool.and_eq_true, decide_eq_true_eq, List.all_eq_true] at h
  have hr : ∀ l ∈ ls, l.length ≤ 60 ∧ l.all signB = true := fun l hl => by
    have := h.2 l hl
    unfold goodRow at this
    simp only [Bool.and_eq_true, decide_eq_true_eq] at this
    exact this
  exact ⟨h.1, fun l hl => (hr l hl).1, fun l hl => good_no10 (hr l hl).2⟩
theorem bad_row {ls : List Ln} {l : Ln} (hl : l ∈ ls) (h : goodRow l = false) : goodB ls = false := by
  unfold goodB
  have : ls.all goodRow = false := by
    rw [List.all_eq_false]
    exact ⟨l, hl, by rw [h]; simp⟩
  rw [this, Bool.and_false]
theorem bad_many {ls : List Ln} (h : 12 < ls.length) : goodB ls = false := by
  unfold goodB
  rw [decide_eq_false (by omega)]; rfl
theorem rep_one (c : Nat) (k : Nat) : repS (S [c]) k = S (List.replicate k c) := by
  have h : ∀ n : Nat, ∀ acc : Array Nat, ((List.replicate n (S [c]).cps).foldl (· ++ ·) acc).toList = acc.toList ++ List.replicate n c := by
    intro n
    induction n with
    | zero => intro acc; simp
    | succ n ih => intro acc; rw [List.replicate_succ, List.foldl_cons, ih, Array.toList_append, List.append_assoc]; rfl
  refine TL.ext_tl ?_
  show (repS (S [c]) k).cps.toList = (S (List.replicate k c)).cps.toList
  have := h k #[]
  simpa [repS] using this
theorem sum_len {B : Nat} : ∀ (ls : List Ln), (∀ l ∈ ls, l.length ≤ B) → ((ls.map S).map (·.length)).sum ≤ ls.length * B
  | [], _ => by simp
  | l :: r, h => by
    have h1 := h l (by simp)
    have h2 := sum_len (B := B) r fun m hm => h m (by simp [hm])
    show (S l).length + ((r.map S).map (·.length)).sum ≤ (r.length + 1) * B
    rw [S_len, Nat.succ_mul]
    omega
theorem joinB_ok {ls : List Ln} (h : BadRows ls) : ((ls.map S).map (·.length)).sum + (ls.map S).length * nl.length ≤ 16777216 := by
  have h1 := sum_len ls h.2.2.1
  have h2 := h.2.2.2.1
  have h3 : nl.length = 1 := by rw [nl_eq]; rfl
  rw [h3, List.length_map]
  have h4 : ls.length * 1000 ≤ 900 * 1000 := Nat.mul_le_mul_right _ h2
  omega
theorem flat_rows (ls : List Ln) : ∀ n : Nat, (List.replicate n (rowsV ls)).flatten = rowsV (List.replicate n ls).flatten
  | 0 => rfl
  | n + 1 => by
    rw [List.replicate_succ, List.flatten_cons, flat_rows ls n, List.replicate_succ, List.flatten_cons]
    unfold rowsV
    rw [List.map_append]
theorem flat_len {α : Type} (ls : List α) : ∀ n : Nat, (List.replicate n ls).flatten.length = n * ls.length
  | 0 => by simp
  | n + 1 => by rw [List.replicate_succ, List.flatten_cons, List.length_append, flat_len ls n, Nat.succ_mul]; omega
theorem flat_mem {α : Type} {x : α} (ls : List α) : ∀ n : Nat, x ∈ (List.replicate n ls).flatten → x ∈ ls
  | 0, h => by simp at h
  | n + 1, h => by
    rw [List.replicate_succ, List.flatten_cons] at h
    rcases List.mem_append.mp h with z | z
    · exact z
    · exact flat_mem ls n z
def oddSigns : List Ln := [[9], [9, 9], [97, 9]]
section
variable {P : Program} {w : World} {K : PySem.W.Frag} {mg : Str → Option Value} {base : Heap}
def sp_badtext (K : PySem.W.Frag) : Sp := fun vs H Q _ => ∃ (h l : Addr) (ls : List Ln), vs = [.ref h, .str (textS ls)] ∧ DrAt H h l ∧ ls ≠ [] ∧ goodB ls = true ∧ ∀ ls' H', BadRows ls' → Kf [h, l] H H' → DrAt H' h l → Q (.str (textS ls')) H'
theorem sc__law_bad_text : FnScope ["_law_h", "_law_text_here", "_law_rows", "_law_k", "_law_at", "_law_sign_here", "_law_long", "_law_odd"] ["_law_h", "_law_text_here"] (defScope s__law_bad_text) := ⟨rfl, rfl, rfl, by decide +kernel, rfl, by decide +kernel, by decide +kernel⟩
theorem ok__law_bad_text (T : Tx w K mg) : Fk P w K mg base 2 (Ad K d__law_bad_text.at_) ["_law_h", "_law_text_here"] (sp_badtext K) := by
  have F__law_next := ok__law_next (P := P) (base := base) T
  refine mkF T.f__law_bad_text sc__law_bad_text rfl (fun _ _ _ _ _ _ us hl => match us, hl with | [_, _], _ => rfl) (fun vs H Q E h => by obtain ⟨_, _, _, rfl, _⟩ := h; rfl) (fun cdv A outer s H vs Q E hcd hcode hr h => ?_)
  refine ⟨_, (pss_cons (ps_asg (pe_split (pv 1) pe_str) (pg_name (i := 2) sc__law_bad_text.nd rfl (.inl rfl)))
      (pss_cons (ps_asg (pe_cF F__law_next (hr.mono (by decide)) T.g__law_next px (pa_cons (pv 0) (pa_cons (pe_callB call_len_seq (by rfl) T.n_len (by decide +kernel) (pa_cons (pv 2) pa_nil)) pa_nil))) (pg_name (i := 3) sc__law_bad_text.nd rfl (.inl rfl)))
      (pss_cons (ps_asg (pe_cF F__law_next (hr.mono (by decide)) T.g__law_next px (pa_cons (pv 0) (pa_cons (pe_op op_add (pe_callB call_len_str (by rfl) T.n_len (by decide +kernel) (pa_cons (pe_ix ix_list (pv 2) (pv 3) (fun _ _ => rfl)) pa_nil)) pe_int) pa_nil))) (pg_name (i := 4) sc__law_bad_text.nd rfl (.inl rfl)))
      (pss_cons (ps_asg (pe_ix ix_list (pe_lst (pa_cons pe_str (pa_cons pe_str (pa_cons pe_str pa_nil)))) (pe_cF F__law_next (hr.mono (by decide)) T.g__law_next px (pa_cons (pv 0) (pa_cons pe_int pa_nil))) (fun _ _ => rfl)) (pg_name (i := 5) sc__law_bad_text.nd rfl (.inl rfl)))
      (pss_cons (ps_asg (pe_op op_cat (pe_op op_cat (pe_slice sl_list (pv 2) po_none (po_some (pv 3))) (pe_lst (pa_cons (pe_op op_mulS pe_str (pe_op op_add pe_int (pe_cF F__law_next (hr.mono (by decide)) T.g__law_next px (pa_cons (pv 0) (pa_cons pe_int pa_nil))))) pa_nil))) (pe_slice sl_list (pv 2) (po_some (pe_op op_add (pv 3) pe_int)) po_none)) (pg_name (i := 6) sc__law_bad_text.nd rfl (.inl rfl)))
      (pss_cons (ps_asg (pe_callTy call_list_of (by rfl) T.n_list (by decide +kernel) (pa_cons (pv 2) pa_nil)) (pg_name (i := 7) sc__law_bad_text.nd rfl (.inl rfl)))
      (pss_cons (ps_asg (pe_op op_add_str (pe_op op_add_str (pe_slice sl_str (pe_ix ix_list (pv 2) (pv 3) (fun _ _ => rfl)) po_none (po_some (pv 4))) (pv 5)) (pe_slice sl_str (pe_ix ix_list (pv 2) (pv 3) (fun _ _ => rfl)) (po_some (pv 4)) po_none)) (pg_sub (pv 7) (pv 3) set_list))
      (pss_one (ps_ret (pe_join pe_str (pe_ix ix_list (pe_lst (pa_cons (pv 6) (pa_cons (pv 7) (pa_cons (pe_slice sl_list (pe_op op_rep (pv 2) pe_int) po_none (po_some (pe_op op_add pe_int (pe_cF F__law_next (hr.mono (by decide)) T.g__law_next px (pa_cons (pv 0) (pa_cons pe_int pa_nil)))))) pa_nil)))) (pe_cF F__law_next (hr.mono (by decide)) T.g__law_next px (pa_cons (pv 0) (pa_cons pe_int pa_nil))) (fun _ _ => rfl)))))))))))), ?_⟩
  obtain ⟨h, l, ls, rfl, hD, hne, hg, kQ⟩ := h
  obtain ⟨h12, h60, h10⟩ := good_rows hg
  have hlen : (textS ls).length ≤ 1000000 := Nat.le_trans (textS_len h60) (Nat.le_trans (Nat.mul_le_mul_right _ h12) (by decide))
  have hsz : sizeLine = 16777216 := sizeLine_eq
  refine ⟨_, rfl, ⟨_, rfl⟩, _, nl, rfl, rfl, by rw [nl_eq]; rfl, by omega, fun R nR => ?_⟩
  rw [textS_split hne h10, show (ls.map S).map V.str = rowsV ls by unfold rowsV; rw [List.map_map]; rfl]
  have kR : Kq [] H (upd H R (.lst (rowsV ls))) := Kq.alloc nR
  have gR : (upd H R (.lst (rowsV ls))) R = some (.lst (rowsV ls)) := upd_same
  have mR : R ∉ [h, l] := fresh_ne hD.some nR
  have hD1 := hD.kq kR
  generalize (upd H R (.lst (rowsV ls))) = H1 at kR gR hD1 ⊢
  have hlr : (rowsV ls).length = ls.length := rowsV_len ls
  have hpos : 0 < ls.length := List.length_pos_iff.mpr hne
  refine ⟨_, rfl, _, rfl, R, rowsV ls, rfl, .inl (SqL.of gR), h, l, (rowsV ls).length, rfl, hD1, by omega, by omega, fun k H2 hk k2 hD2 => ?_⟩
  rw [hlr] at hk
  have gR2 := k2.q.gets gR mR
  have atk : (rowsV ls)[k]? = some (.str (S ls[k])) := by unfold rowsV; rw [List.getElem?_map, List.getElem?_eq_getElem hk]; rfl
  have r60 := h60 _ (List.getElem_mem hk)
  refine ⟨_, rfl, _, rfl, _, rfl, R, _, _, .str (S ls[k]), rfl, rfl, SqL.of gR2, at_of (j := k) rfl atk, _, rfl, S16 (by omega), _, _, rfl, rfl, h, l, (S ls[k]).length + 1, rfl, hD2, by omega, by rw [S_len]; omega, fun at_ H3 hat k3 hD3 => ?_⟩
  rw [S_len] at hat
  have gR3 := k3.q.gets gR2 mR
  have k03 := ((Kf.of kR hD.wr).trans k2).trans k3
  clear kR gR hD1 k2 hD2 gR2 k3
  refine ⟨line16 (by show 3 ≤ 1000000; decide), fun Z nZ => ?_⟩
  have kZ : Kq [] H3 (upd H3 Z (.lst [.str "\t", .str "\t\t", .str "a\t"])) := Kq.alloc nZ
  have gZ : (upd H3 Z (.lst [.str "\t", .str "\t\t", .str "a\t"])) Z = some (.lst (oddSigns.map fun l => V.str (S l))) := upd_same
  have mZ : Z ∉ [h, l] := fresh_ne hD3.some nZ
  have hD4 := hD3.kq kZ
  have gR4 := kZ.get gR3
  generalize (upd H3 Z (.lst [.str "\t", .str "\t\t", .str "a\t"])) = H4 at kZ gZ hD4 gR4 ⊢
  refine ⟨_, rfl, h, l, 3, rfl, hD4, by decide, by decide, fun r H5 hr k5 hD5 => ?_⟩
  have hr3 : r < oddSigns.length := hr
  refine ⟨Z, _, _, .str (S oddSigns[r]), rfl, rfl, SqL.of (k5.q.gets gZ mZ), at_of (j := r) rfl (by rw [List.getElem?_map, List.getElem?_eq_getElem hr3]; rfl), ?_⟩
  have hsg : 9 ∈ oddSigns[r] ∧ 10 ∉ oddSigns[r] ∧ oddSigns[r].length ≤ 2 := (show ∀ l ∈ oddSigns, 9 ∈ l ∧ 10 ∉ l ∧ l.length ≤ 2 by decide) _ (List.getElem_mem hr3)
  generalize oddSigns[r] = sg at hsg ⊢
  have gR5 := k5.q.gets gR4 mR
  have k05 := (k03.kq kZ).trans k5
  clear k03 kZ gZ mZ hD4 gR4 k5 hD3 gR3 nZ
  -- the long one
  refine ⟨_, rfl, _, rfl, _, rfl, R, _, rfl, SqL.of gR5, fun s1 ns1 => ?_⟩
  rw [cut_take (rowsV ls) (n := k) rfl]
  have ks1 : Kq [] H5 (upd H5 s1 (.lst ((rowsV ls).take k))) := Kq.alloc ns1
  have gs1 : (upd H5 s1 (.lst ((rowsV ls).take k))) s1 = _ := upd_same
  have ms1 : s1 ∉ [h, l] := fresh_ne hD5.some ns1
  have hD6 := hD5.kq ks1
  have gR6 := ks1.get gR5
  generalize (upd H5 s1 (.lst ((rowsV ls).take k))) = H6 at ks1 gs1 hD6 gR6 ⊢
  refine ⟨_, rfl, h, l, 2, rfl, hD6, by decide, by decide, fun r2 H7 hr2 k7 hD7 => ⟨_, _, rfl, rfl, "a", 61 + r2, rfl, by show V.int ((61 : Int) + (r2 : Int)) = _; congr 1, by omega, by omega, by decide, by decide, line16 (by show 1 ≤ 1000000; decide), fun s2 ns2 => ?_⟩⟩
  have el : repS "a" (61 + r2) = S (List.replicate (61 + r2) 97) := rep_one 97 (61 + r2)
  rw [el]
  have ks2 : Kq [] H7 (upd H7 s2 (.lst [.str (S (List.replicate (61 + r2) 97))])) := Kq.alloc ns2
  have gs2 : (upd H7 s2 (.lst [.str (S (List.replicate (61 + r2) 97))])) s2 = some (.lst [.str (S (List.replicate (61 + r2) 97))]) := upd_same
  have gs1 := ks2.get (k7.q.gets gs1 ms1)
  have gR8 := ks2.get (k7.q.gets gR6 mR)
  have hD8 := hD7.kq ks2
  have k08 := (k05.kq ks1).trans (k7.kq ks2)
  generalize (upd H7 s2 (.lst [.str (S (List.replicate (61 + r2) 97))])) = H8 at ks2 gs2 gs1 gR8 hD8 k08 ⊢
  clear k05 ks1 k7 ks2 gR6 hD6 hD7 hD5 gR5 ns1 ns2
  refine ⟨s1, s2, _, _, rfl, rfl, gs1, gs2, line16 (by rw [List.length_take, hlr]; show _ + 1 ≤ _; omega), fun s3 ns3 => ?_⟩
  have ks3 : Kq [] H8 (upd H8 s3 (.lst ((rowsV ls).take k ++ [.str (S (List.replicate (61 + r2) 97))]))) := Kq.alloc ns3
  have gs3 : (upd H8 s3 (.lst ((rowsV ls).take k ++ [.str (S (List.replicate (61 + r2) 97))]))) s3 = _ := upd_same
  have gR9 := ks3.get gR8
  generalize (upd H8 s3 (.lst ((rowsV ls).take k ++ [.str (S (List.replicate (61 + r2) 97))]))) = H9 at ks3 gs3 gR9 ⊢
  refine ⟨_, rfl, _, rfl, _, _, rfl, rfl, _, rfl, R, _, rfl, SqL.of gR9, fun s4 ns4 => ?_⟩
  rw [cut_drop (rowsV ls) (n := k + 1) (by omega)]
  have ks4 : Kq [] H9 (upd H9 s4 (.lst ((rowsV ls).drop (k + 1)))) := Kq.alloc ns4
  have gs4 : (upd H9 s4 (.lst ((rowsV ls).drop (k + 1)))) s4 = _ := upd_same
  have gs3 := ks4.get gs3
  have gR10 := ks4.get gR9
  generalize (upd H9 s4 (.lst ((rowsV ls).drop (k + 1)))) = H10 at ks4 gs4 gs3 gR10 ⊢
  refine ⟨s3, s4, _, _, rfl, rfl, gs3, gs4, line16 (by rw [List.length_append, List.length_take, List.length_drop, hlr]; show _ + 1 + _ ≤ _; omega), fun lo nlo => ?_⟩
  have elong : (rowsV ls).take k ++ [.str (S (List.replicate (61 + r2) 97))] ++ (rowsV ls).drop (k + 1) = rowsV (ls.take k ++ [List.replicate (61 + r2) 97] ++ ls.drop (k + 1)) := by
    unfold rowsV
    rw [List.map_append, List.map_append, List.map_take, List.map_drop]; rfl
  rw [elong]
  have bLong : BadRows (ls.take k ++ [List.replicate (61 + r2) 97] ++ ls.drop (k + 1)) := by
    refine ⟨by simp, fun m hm => ?_, fun m hm => ?_, by rw [List.length_append, List.length_append, List.length_take, List.length_drop]; show _ + 1 + _ ≤ _; omega, bad_row (l := List.replicate (61 + r2) 97) (by simp) ?_⟩
    · rcases List.mem_append.mp hm with hm | hm
      · rcases List.mem_append.mp hm with hm | hm
        · exact h10 m (List.mem_of_mem_take hm)
        · rw [List.mem_singleton.mp hm]; intro z; have := (List.mem_replicate.mp z).2; omega
      · exact h10 m (List.mem_of_mem_drop hm)
    · rcases List.mem_append.mp hm with hm | hm
      · rcases List.mem_append.mp hm with hm | hm
        · exact Nat.le_trans (h60 m (List.mem_of_mem_take hm)) (by decide)
        · rw [List.mem_singleton.mp hm, List.length_replicate]; omega
      · exact Nat.le_trans (h60 m (List.mem_of_mem_drop hm)) (by decide)
    · unfold goodRow
      rw [List.length_replicate, decide_eq_false (by omega)]; rfl
  generalize ls.take k ++ [List.replicate (61 + r2) 97] ++ ls.drop (k + 1) = Lo at bLong ⊢
  have mlo0 : lo ∉ [h, l] := fresh_ne (hD8.kq (ks3.trans ks4)).some nlo
  have klo : Kq [] H10 (upd H10 lo (.lst (rowsV Lo))) := Kq.alloc nlo
  have glo : (upd H10 lo (.lst (rowsV Lo))) lo = some (.lst (rowsV Lo)) := upd_same
  have k811 := (ks3.trans ks4).trans klo
  have hD11 := hD8.kq k811
  have gR11 := klo.get gR10
  have k011 := k08.kq k811
  generalize (upd H10 lo (.lst (rowsV Lo))) = H11 at klo glo k811 hD11 gR11 k011 ⊢
  clear ks3 ks4 klo gs1 gs2 gs3 gs4 gR8 gR9 gR10 hD8 k08 k811 ns3 ns4 nlo
  -- the odd one
  refine ⟨_, rfl, R, _, rfl, .inl (SqL.of gR11), fun o no => ?_⟩
  have ko : Kq [] H11 (upd H11 o (.lst (rowsV ls))) := Kq.alloc no
  have go : (upd H11 o (.lst (rowsV ls))) o = some (.lst (rowsV ls)) := upd_same
  have nolo : lo ≠ o := ne_of_none glo no
  have glo0 := glo
  have gR12 := ko.get gR11
  have noR : R ≠ o := ne_of_none gR11 no
  generalize (upd H11 o (.lst (rowsV ls))) = H12 at ko go gR12 ⊢
  refine ⟨_, rfl, _, rfl, R, _, _, .str (S ls[k]), rfl, rfl, SqL.of gR12, at_of (j := k) rfl atk, _, rfl, _, rfl, _, rfl, S16 (by omega), ?_⟩
  rw [cut_to ls[k] (n := at_) rfl]
  refine ⟨_, rfl, _, _, rfl, rfl, by rw [S_len, S_len, List.length_take]; omega, ?_⟩
  rw [S_app]
  refine ⟨_, rfl, _, rfl, R, _, _, .str (S ls[k]), rfl, rfl, SqL.of gR12, at_of (j := k) rfl atk, _, rfl, _, rfl, _, rfl, S16 (by omega), ?_⟩
  rw [cut_from ls[k] (n := at_) rfl]
  refine ⟨_, _, rfl, rfl, by rw [S_len, S_len, List.length_append, List.length_take, List.length_drop]; omega, ?_⟩
  rw [S_app]
  have hrow : 9 ∈ ls[k].take at_ ++ sg ++ ls[k].drop at_ ∧ 10 ∉ ls[k].take at_ ++ sg ++ ls[k].drop at_ ∧ (ls[k].take at_ ++ sg ++ ls[k].drop at_).length ≤ 1000 := by
    have h1 := h10 _ (List.getElem_mem hk)
    refine ⟨by simp [hsg.1], fun z => ?_, by rw [List.length_append, List.length_append, List.length_take, List.length_drop]; omega⟩
    rcases List.mem_append.mp z with z | z
    · rcases List.mem_append.mp z with z | z
      · exact h1 (List.mem_of_mem_take z)
      · exact hsg.2.1 z
    · exact h1 (List.mem_of_mem_drop z)
  generalize ls[k].take at_ ++ sg ++ ls[k].drop at_ = ro at hrow ⊢
  refine ⟨_, rfl, _, rfl, o, _, _, k, rfl, rfl, go, by rw [hlr]; exact ixN_nat hk, ?_⟩
  have eodd : (rowsV ls).set k (.str (S ro)) = rowsV (ls.set k ro) := by unfold rowsV; rw [List.map_set]
  rw [eodd]
  have bOdd : BadRows (ls.set k ro) := by
    refine ⟨fun e => by rw [← List.length_eq_zero_iff, List.length_set] at e; omega, fun m hm => ?_, fun m hm => ?_, by rw [List.length_set]; omega, bad_row (l := ro) (List.mem_set hk ro) ?_⟩
    · rcases List.mem_or_eq_of_mem_set hm with z | z
      · exact h10 m z
      · rw [z]; exact hrow.2.1
    · rcases List.mem_or_eq_of_mem_set hm with z | z
      · exact Nat.le_trans (h60 m z) (by decide)
      · rw [z]; exact hrow.2.2
    · unfold goodRow
      have : ro.all signB = false := by
        rw [List.all_eq_false]
        exact ⟨9, hrow.1, by decide⟩
      rw [this, Bool.and_false]
  generalize ls.set k ro = Od at bOdd ⊢
  have kw : Kq [] H11 (upd H12 o (.lst (rowsV Od))) := ko.writeF no go
  have gOd : (upd H12 o (.lst (rowsV Od))) o = some (.lst (rowsV Od)) := upd_same
  have hD13 := hD11.kq kw
  have mo : o ∉ [h, l] := fresh_ne hD11.some no
  have mlo : lo ∉ [h, l] := mlo0
  have glo := kw.get glo0
  have gR13 := kw.get gR11
  have k013 := k011.kq kw
  generalize (upd H12 o (.lst (rowsV Od))) = H13 at kw gOd hD13 glo gR13 k013 ⊢
  clear ko go gR12 gR11 kw glo0 hD11 k011
  refine ⟨⟨_, rfl⟩, _, rfl, _, rfl, _, rfl, R, 13, _, rfl, rfl, gR13, by decide, by decide, by rw [hlr, hsz]; show _ * 13 ≤ _; omega, fun M nM => ?_⟩
  rw [show (13 : Int).toNat = 13 from rfl, flat_rows]
  have kM : Kq [] H13 (upd H13 M (.lst (rowsV (List.replicate 13 ls).flatten))) := Kq.alloc nM
  have gM : (upd H13 M (.lst (rowsV (List.replicate 13 ls).flatten))) M = _ := upd_same
  have mM : M ∉ [h, l] := fresh_ne hD13.some nM
  have hD14 := hD13.kq kM
  have gOd := kM.get gOd
  have glo := kM.get glo
  generalize (upd H13 M (.lst (rowsV (List.replicate 13 ls).flatten))) = H14 at kM gM hD14 gOd glo ⊢
  refine ⟨_, rfl, h, l, 2, rfl, hD14, by decide, by decide, fun r3 H15 hr3 k15 hD15 => ⟨_, _, rfl, rfl, _, rfl, M, _, rfl, SqL.of (k15.q.gets gM mM), fun N nN => ?_⟩⟩
  rw [cut_take _ (n := 13 + r3) (by omega), show (rowsV (List.replicate 13 ls).flatten).take (13 + r3) = rowsV ((List.replicate 13 ls).flatten.take (13 + r3)) by unfold rowsV; rw [List.map_take]]
  have bMany : BadRows ((List.replicate 13 ls).flatten.take (13 + r3)) := by
    have hl13 : 13 ≤ ((List.replicate 13 ls).flatten.take (13 + r3)).length := by rw [List.length_take, flat_len]; omega
    refine ⟨fun e => by rw [e] at hl13; simp at hl13, fun m hm => h10 m (flat_mem ls 13 (List.mem_of_mem_take hm)), fun m hm => Nat.le_trans (h60 m (flat_mem ls 13 (List.mem_of_mem_take hm))) (by decide), by rw [List.length_take, flat_len]; omega, bad_many (by omega)⟩
  generalize (List.replicate 13 ls).flatten.take (13 + r3) = Mn at bMany ⊢
  have kN : Kq [] H15 (upd H15 N (.lst (rowsV Mn))) := Kq.alloc nN
  have gN : (upd H15 N (.lst (rowsV Mn))) N = some (.lst (rowsV Mn)) := upd_same
  have mN : N ∉ [h, l] := fresh_ne hD15.some nN
  have gOd := kN.get (k15.q.gets gOd mo)
  have glo := kN.get (k15.q.gets glo mlo)
  have k016 := ((k013.kq kM).trans k15).kq kN
  have hD16 := hD15.kq kN
  generalize (upd H15 N (.lst (rowsV Mn))) = H16 at kN gN gOd glo k016 hD16 ⊢
  clear k013 kM k15 kN hD15 hD14 hD13 gM mM gR13
  refine ⟨line16 (by show 3 ≤ 1000000; decide), fun W nW => ?_⟩
  have kW : Kq [] H16 (upd H16 W (.lst [.ref lo, .ref o, .ref N])) := Kq.alloc nW
  have gW : (upd H16 W (.lst [.ref lo, .ref o, .ref N])) W = some (.lst [.ref lo, .ref o, .ref N]) := upd_same
  have mW : W ∉ [h, l] := fresh_ne hD16.some nW
  have gOd := kW.get gOd
  have glo := kW.get glo
  have gN := kW.get gN
  have hD17 := hD16.kq kW
  have k017 := k016.kq kW
  generalize (upd H16 W (.lst [.ref lo, .ref o, .ref N])) = H17 at kW gW gOd glo gN hD17 k017 ⊢
  refine ⟨_, rfl, h, l, 3, rfl, hD17, by decide, by decide, fun r4 H18 hr4 k18 hD18 => ?_⟩
  have gW := k18.q.gets gW mW
  have gOd := k18.q.gets gOd mo
  have glo := k18.q.gets glo mlo
  have gN := k18.q.gets gN mN
  have fin : ∃ (x : Addr) (rs : List Ln), ([.ref lo, .ref o, .ref N] : List V)[r4]? = some (.ref x) ∧ H18 x = some (.lst (rowsV rs)) ∧ BadRows rs := by
    have : r4 = 0 ∨ r4 = 1 ∨ r4 = 2 := by omega
    rcases this with rfl | rfl | rfl
    · exact ⟨lo, Lo, rfl, glo, bLong⟩
    · exact ⟨o, Od, rfl, gOd, bOdd⟩
    · exact ⟨N, Mn, rfl, gN, bMany⟩
  obtain ⟨x, rs, ex, gx, bx⟩ := fin
  refine ⟨W, _, _, .ref x, rfl, rfl, SqL.of gW, at_of (j := r4) rfl ex, nl, x, rs.map S, rfl, rfl, .inl (SqL.of (by rw [gx, List.map_map]; rfl)), joinB_ok bx, ?_⟩
  exact kQ rs _ bx (k017.trans k18) hD18
end
end KT
set_option Elab.async false
set_option linter.all false
set_option maxRecDepth 100000
set_option maxHeartbeats 4000000
namespace KT
open PySem PySem.Spec PyProof.Rows L2 GxR
variable [GT]
/-- an editor that taped nothing, and changed nothing -/
structure Fresh (ed : EdSt) : Prop where
  t : ed.taped = none
  p : ed.pressed = []
  u : ed.units = []
  d : ed.undone = []
  b : ed.tapes 1 = []
theorem Fresh.small {ed : EdSt} (f : Fresh ed) : ed.Small := ⟨by rw [f.p]; simp, by rw [f.u]; simp, by rw [f.d]; simp⟩
structure One (K : PySem.W.Frag) (H : Hp) (h l L : Addr) (m : EdM) (ed : EdSt) : Prop where
  at_ : EdAt K H m ed
  fr : Fresh ed
  dj : ∀ b ∈ m.l, b ∉ [h, l]
  nL : L ∉ m.l
theorem One.kq {K : PySem.W.Frag} {H H1 : Hp} {h l L : Addr} {m : EdM} {ed : EdSt} (o : One K H h l L m ed) (k : Kq [] H H1) : One K H1 h l L m ed := ⟨o.at_.kq k, o.fr, o.dj, o.nL⟩
abbrev EdM.pr' (m : EdM) (pr : Addr) : EdM := ⟨m.e, m.t, pr, m.un, m.ud⟩
theorem prL {m : EdM} {pr : Addr} {H : Hp} {S : List Addr} (d : ∀ b ∈ m.l, b ∉ S) (np : H pr = none) (hs : ∀ s ∈ S, H s ≠ none) : ∀ b ∈ (m.pr' pr).l, b ∉ S := by
  intro b hb
  simp only [EdM.l, List.mem_cons, List.not_mem_nil, or_false] at hb
  rcases hb with rfl | rfl | rfl | rfl | rfl
  · exact d _ (by simp [EdM.l])
  · exact d _ (by simp [EdM.l])
  · exact fun z => hs _ z np
  · exact d _ (by simp [EdM.l])
  · exact d _ (by simp [EdM.l])
/-- two editors side by side -/
def Two (K : PySem.W.Frag) (H : Hp) (h l L e1 e2 : Addr) : Prop := ∃ m1 d1 m2 d2, m1.e = e1 ∧ m2.e = e2 ∧ One K H h l L m1 d1 ∧ One K H h l L m2 d2 ∧ ∀ b ∈ m1.l, b ∉ m2.l
theorem Two.swap {K : PySem.W.Frag} {H : Hp} {h l L e1 e2 : Addr} (t : Two K H h l L e1 e2) : Two K H h l L e2 e1 := by
  obtain ⟨m1, d1, m2, d2, a, b, c, d, e⟩ := t
  exact ⟨m2, d2, m1, d1, b, a, d, c, fun x h1 h2 => e x h2 h1⟩
theorem One.kf {K : PySem.W.Frag} {H H1 : Hp} {h l L : Addr} {m : EdM} {ed : EdSt} {S : List Addr} (o : One K H h l L m ed) (k : Kf S H H1) (d : ∀ b ∈ m.l, b ∉ S) : One K H1 h l L m ed := ⟨o.at_.kf k d, o.fr, o.dj, o.nL⟩
theorem keysAt_rep {K : PySem.W.Frag} {H : Hp} {a : Addr} {k : Ky} (h : KeyAt K H a k) : ∀ n : Nat, KeysAt K H (List.replicate n a) (List.replicate n k)
  | 0 => .nil
  | n + 1 => .cons h (keysAt_rep h n)
def ls12 : List Ln := List.replicate 12 (List.replicate 60 126)
theorem ls12_join : ((ls12.map S).map (·.length)).sum + (ls12.map S).length * (Str.ofString "\n").length ≤ 16777216 := by decide +kernel
theorem ls12_rows : (List.replicate (Int.toNat 12) [V.str (S (List.replicate 60 126))]).flatten = (ls12.map S).map V.str := by
  rw [flat_rep1]
  unfold ls12
  rw [List.map_replicate, List.map_replicate]; rfl
theorem ls12_ok : goodB ls12 = true ∧ ls12 ≠ [] := by decide +kernel
section
variable {P : Program} {w : World} {K : PySem.W.Frag} {mg : Str → Option Value} {base : Heap}
def sp_law1 (K : PySem.W.Frag) : Sp := fun vs H Q _ => ∃ (a : Addr) (ns : List Int), vs = [.ref a] ∧ SqL K H a (ns.map V.int) ∧ TabG H (tS K) ∧ LamX.TabS H (tLn K ("_law_are_refused", none)) (lamQ "_law_are_refused") ∧ LamX.TabS H (tLn K ("law", none)) (lamQ "law") ∧ ∀ H', Q (.bl true) H'
theorem sc_law : FnScope ["_law_script", "_law_h", "_law_text_here", "_law_turn", "_law_editor", "_law_other", "_law_some", "_law_bad", "_law_ahead"] ["_law_script"] (defScope s_law) := ⟨rfl, rfl, rfl, by decide +kernel, rfl, by decide +kernel, by decide +kernel⟩
theorem ok_law (T : Tx w K mg) (hP : SupP P fileS) (B : TabB base mg (cS K) (tS K)) (BR : LamX.TabB base mg (He.codeOf K ("_law_are_refused", none)) (tLn K ("_law_are_refused", none))) (BL : LamX.TabB base mg (He.codeOf K ("law", none)) (tLn K ("law", none))) (GL : GT.l = [(tLn K ("_law_are_refused", none), lamQ "_law_are_refused"), (tLn K ("law", none), lamQ "law")]) : Fk P w K mg base 76 (Ad K d_law.at_) ["_law_script"] (sp_law1 K) := by
  have nd0 : tLn K ("_law_are_refused", none) ≠ tLn K ("law", none) := by
    have h1 := T.more1
    unfold ex1 makers at h1
    simp only [Bool.and_eq_true, decide_eq_true_eq] at h1
    have h2 := h1.2
    simp only [List.map_cons, List.map_nil, List.nodup_cons, List.mem_cons, List.not_mem_nil, or_false] at h2
    exact h2.1
  have memR : (tLn K ("_law_are_refused", none), lamQ "_law_are_refused") ∈ GT.l := by rw [GL]; simp
  have memL : (tLn K ("law", none), lamQ "law") ∈ GT.l := by rw [GL]; simp
  have unR : ∀ p ∈ GT.l, p.1 = tLn K ("_law_are_refused", none) → p.2 = lamQ "_law_are_refused" := fun p hp e => by
    rw [GL] at hp
    simp only [List.mem_cons, List.not_mem_nil, or_false] at hp
    rcases hp with rfl | rfl
    · rfl
    · exact absurd e.symm nd0
  have unL : ∀ p ∈ GT.l, p.1 = tLn K ("law", none) → p.2 = lamQ "law" := fun p hp e => by
    rw [GL] at hp
    simp only [List.mem_cons, List.not_mem_nil, or_false] at hp
    rcases hp with rfl | rfl
    · exact absurd e nd0
    · rfl
  have F_Editor___init__ := ok_Editor___init__ (P := P) (base := base) T B
  have F_Editor_back := ok_Editor_back (P := P) (base := base) T
  have F_Editor_record := ok_Editor_record (P := P) (base := base) T
  have F_Editor_stop := ok_Editor_stop (P := P) (base := base) T
  have F_Editor_tape := ok_Editor_tape (P := P) (base := base) T B
  have F__law_alike := ok_alike (P := P) (base := base) T 4
  have F__law_are_refused := ok__law_are_refused (P := P) (base := base) T hP B BR memR unR
  have F__law_bad_text := ok__law_bad_text (P := P) (base := base) T
  have F__law_mix := ok__law_mix (P := P) (base := base) T
  have F__law_stands := ok__law_stands (P := P) (base := base) T
  have F__law_text := ok__law_text (P := P) (base := base) T
  refine mkF T.f_law sc_law rfl (fun _ _ _ _ _ _ us hl => match us, hl with | [_], _ => rfl) (fun vs H Q E h => by obtain ⟨_, _, rfl, _⟩ := h; rfl) (fun cdv A outer s H vs Q E hcd hcode hr h => ?_)
  have po : PassesOwn (model P w) (CxD P w K mg base ["_law_script", "_law_h", "_law_text_here", "_law_turn", "_law_editor", "_law_other", "_law_some", "_law_bad", "_law_ahead"] d_law cdv A outer s H E).A (CxD P w K mg base ["_law_script", "_law_h", "_law_text_here", "_law_turn", "_law_editor", "_law_other", "_law_some", "_law_bad", "_law_ahead"] d_law cdv A outer s H E).env (CxD P w K mg base ["_law_script", "_law_h", "_law_text_here", "_law_turn", "_law_editor", "_law_other", "_law_some", "_law_bad", "_law_ahead"] d_law cdv A outer s H E).xe := passes_of rfl
  refine ⟨_, (pss_cons (ps_asg (pe_cF F__law_mix (hr.mono (by decide)) T.g__law_mix px (pa_cons (pv 0) (pa_cons pe_int pa_nil))) (pg_name (i := 1) sc_law.nd rfl (.inl rfl)))
      (pss_cons (ps_asg (pe_cF F__law_text (hr.mono (by decide)) T.g__law_text px (pa_cons (pv 1) pa_nil)) (pg_name (i := 2) sc_law.nd rfl (.inl rfl)))
      (pss_cons (ps_for po rfl (pi_range1 (by rfl) T.n_range (pa_cons pe_int pa_nil)) (pg_name (i := 3) sc_law.nd rfl (.inl rfl)) (pss_cons (ps_asg (pe_cF F__law_bad_text (hr.mono (by decide)) T.g__law_bad_text px (pa_cons (pv 1) (pa_cons (pv 2) pa_nil))) (pg_name (i := 7) sc_law.nd rfl (.inr rfl)))
      (pss_one (ps_if (pt_cmpR op_ne (pe_kind (X := (CxD P w K mg base ["_law_script", "_law_h", "_law_text_here", "_law_turn", "_law_editor", "_law_other", "_law_some", "_law_bad", "_law_ahead"] d_law cdv A outer s H E)) T rfl (k := 70) rfl BL hcode (hr.mono (by decide)) (LamX.lamS_by (sc := defScope s_law) (by decide +kernel)) rfl (fun _ _ _ _ _ => rfl) (fun A2 o2 s2 H2 E2 f2 c2 room => (pe_kF (spN := sp_EditorA K) T.k_Editor F_Editor___init__ (room.mono (by decide)) T.g_Editor (lam_px (X := (CxD P w K mg base ["_law_script", "_law_h", "_law_text_here", "_law_turn", "_law_editor", "_law_other", "_law_some", "_law_bad", "_law_ahead"] d_law cdv A outer s H E)) (A := A2) (outer := o2) (s := s2) (H := H2) (E := E2) (f := f2) (c' := c2)) new_EditorA (pa_cons (pv 7) pa_nil)))) pe_str (nomark _)) (pss_one (ps_ret pe_bl)) pss_nil))))
      (pss_cons (ps_asg (pe_kF (spN := sp_EditorA K) T.k_Editor F_Editor___init__ (hr.mono (by decide)) T.g_Editor px new_EditorA (pa_cons (pe_join pe_str (pe_op op_rep (pe_lst (pa_cons (pe_op op_mulS pe_str pe_int) pa_nil)) pe_int)) pa_nil)) (pg_name (i := 4) sc_law.nd rfl (.inl rfl)))
      (pss_cons (ps_asg (pe_kF (spN := sp_EditorA K) T.k_Editor F_Editor___init__ (hr.mono (by decide)) T.g_Editor px new_EditorA (pa_cons (pv 2) pa_nil)) (pg_name (i := 5) sc_law.nd rfl (.inl rfl)))
      (pss_cons (ps_expr (pe_mF _ (pv 5) T.c_Editor T.m_Editor_tape F_Editor_tape (hr.mono (by decide)) px (pa_cons pe_str (pa_cons (pe_callTy call_tuple_of (by rfl) T.n_tuple (by decide +kernel) (pa_cons (pe_op op_rep (pe_lst (pa_cons (pe_tup (pa_cons pe_str (pa_cons pe_str pa_nil))) pa_nil)) pe_int) pa_nil)) pa_nil))))
      (pss_cons (ps_for po rfl (pi_list (pe_lst (pa_cons (pv 4) (pa_cons (pv 5) pa_nil)))) (pg_name (i := 6) sc_law.nd rfl (.inr rfl)) (pss_cons (ps_asg (pe_cF F__law_stands (hr.mono (by decide)) T.g__law_stands px (pa_cons (pv 6) pa_nil)) (pg_name (i := 8) sc_law.nd rfl (.inl rfl)))
      (pss_cons (ps_for po rfl (pi_range1 (by rfl) T.n_range (pa_cons pe_int pa_nil)) (pg_name (i := 3) sc_law.nd rfl (.inl rfl)) (pss_one (ps_if ((pw_or (pt_not (pt_val (pe_cF F__law_are_refused (hr.mono (by decide)) T.g__law_are_refused px (pa_cons (pv 1) (pa_cons (pv 6) pa_nil))))) (pw_or1 (pt_cmpR op_ne (pe_kind (X := (CxD P w K mg base ["_law_script", "_law_h", "_law_text_here", "_law_turn", "_law_editor", "_law_other", "_law_some", "_law_bad", "_law_ahead"] d_law cdv A outer s H E)) T rfl (k := 70) rfl BL hcode (hr.mono (by decide)) (LamX.lamS_by (sc := defScope s_law) (by decide +kernel)) rfl (fun _ _ _ _ _ => rfl) (fun A2 o2 s2 H2 E2 f2 c2 room => (pe_mF0 _ (pv 6) T.c_Editor T.m_Editor_stop F_Editor_stop (room.mono (by decide)) (lam_px (X := (CxD P w K mg base ["_law_script", "_law_h", "_law_text_here", "_law_turn", "_law_editor", "_law_other", "_law_some", "_law_bad", "_law_ahead"] d_law cdv A outer s H E)) (A := A2) (outer := o2) (s := s2) (H := H2) (E := E2) (f := f2) (c' := c2))))) pe_str (nomark _))))).pt (pss_one (ps_ret pe_bl)) pss_nil)))
      (pss_cons (ps_expr (pe_mF _ (pv 6) T.c_Editor T.m_Editor_record F_Editor_record (hr.mono (by decide)) px (pa_cons pe_str pa_nil)))
      (pss_cons (ps_if ((pw_or (pt_cmpR op_ne (pe_kind (X := (CxD P w K mg base ["_law_script", "_law_h", "_law_text_here", "_law_turn", "_law_editor", "_law_other", "_law_some", "_law_bad", "_law_ahead"] d_law cdv A outer s H E)) T rfl (k := 70) rfl BL hcode (hr.mono (by decide)) (LamX.lamS_by (sc := defScope s_law) (by decide +kernel)) rfl (fun _ _ _ _ _ => rfl) (fun A2 o2 s2 H2 E2 f2 c2 room => (pe_mF _ (pv 6) T.c_Editor T.m_Editor_record F_Editor_record (room.mono (by decide)) (lam_px (X := (CxD P w K mg base ["_law_script", "_law_h", "_law_text_here", "_law_turn", "_law_editor", "_law_other", "_law_some", "_law_bad", "_law_ahead"] d_law cdv A outer s H E)) (A := A2) (outer := o2) (s := s2) (H := H2) (E := E2) (f := f2) (c' := c2)) (pa_cons pe_str pa_nil)))) pe_str (nomark _)) (pw_or1 (pt_not (pt_val (pe_cF F__law_are_refused (hr.mono (by decide)) T.g__law_are_refused px (pa_cons (pv 1) (pa_cons (pv 6) pa_nil)))))))).pt (pss_one (ps_ret pe_bl)) pss_nil)
      (pss_one (ps_if ((pw_or (pt_cmpR op_ne (pe_mF0 _ (pv 6) T.c_Editor T.m_Editor_stop F_Editor_stop (hr.mono (by decide)) px) pe_int (nomark _)) (pw_or (pt_not (pt_val (pe_cF F__law_alike (hr.mono (by decide)) T.g__law_alike px (pa_cons (pe_cF F__law_stands (hr.mono (by decide)) T.g__law_stands px (pa_cons (pv 6) pa_nil)) (pa_cons (pv 8) pa_nil))))) (pw_or1 (pt_cmpR op_isnot_bl (pe_mF0 _ (pv 6) T.c_Editor T.m_Editor_back F_Editor_back (hr.mono (by decide)) px) pe_bl (nomark _)))))).pt (pss_one (ps_ret pe_bl)) pss_nil)))))))
      (pss_one (ps_ret pe_bl))))))))), ?_⟩
  obtain ⟨a, ns, rfl, ha, hT, hTR, hTL, kQ⟩ := h
  have tabL : ∀ {S : List Addr} {Ha Hb : Hp}, Kq S Ha Hb → LamX.TabS Ha (tLn K ("law", none)) (lamQ "law") → LamX.TabS Hb (tLn K ("law", none)) (lamQ "law") := fun k z => k.tabS _ memL z
  have tabR : ∀ {S : List Addr} {Ha Hb : Hp}, Kq S Ha Hb → LamX.TabS Ha (tLn K ("_law_are_refused", none)) (lamQ "_law_are_refused") → LamX.TabS Hb (tLn K ("_law_are_refused", none)) (lamQ "_law_are_refused") := fun k z => k.tabS _ memR z
  refine ⟨_, rfl, a, ns, 3, rfl, ha, fun h l H1 nh nll k1 hD => ?_⟩
  refine ⟨_, rfl, h, l, rfl, hD, fun ls H2 hne hg k2 hD2 => ?_⟩
  have hT2 := k2.q.tab _ (k1.tab _ hT)
  have hR2 := tabR k2.q (tabR k1 hTR)
  have hL2 := tabL k2.q (tabL k1 hTL)
  clear k1 k2 hD hT hTR hTL ha nh nll
  refine ⟨_, rfl, by decide, by decide, ?_⟩
  refine for_range (lo := 0) (n := (4 : Int).toNat) (fun i σ H' => DrAt H' h l ∧ TabG H' (tS K) ∧ LamX.TabS H' (tLn K ("_law_are_refused", none)) (lamQ "_law_are_refused") ∧ LamX.TabS H' (tLn K ("law", none)) (lamQ "law") ∧ ∃ v3 v7, σ = [some (.ref a), some (.ref h), some (.str (textS ls)), v3, none, none, none, v7, none]) ⟨hD2, hT2, hR2, hL2, none, none, rfl⟩ ?_ ?_
  · rintro i σ H3 hi ⟨hD3, hT3, hR3, hL3, v3, v7, rfl⟩
    refine ⟨_, rfl, _, rfl, h, l, ls, rfl, hD3, hne, hg, fun ls' H4 hb k4 hD4 => ?_⟩
    have hL4 := tabL k4.q hL3
    refine ⟨hL4, fun H5 gr => ?_⟩
    have k5 := gr.kq hL4 unL
    have hL5 := gr.tab
    obtain ⟨b1, b2, b3, b4, b5⟩ := hb
    refine kind_none (x := "BadText") (by decide +kernel) (by decide +kernel) (by decide +kernel) (fun E Q' y => ⟨_, rfl, ls', rfl, b1, b2, b3, b4, k5.tab _ (k4.q.tab _ hT3), (fun z => by rw [b5] at z; cases z), fun _ => y⟩) fun H6 k6 => ⟨rfl, _, rfl, iteF ?_⟩
    exact ⟨(hD4.kq k5).kq k6, k6.tab _ (k5.tab _ (k4.q.tab _ hT3)), tabR k6 (tabR k5 (tabR k4.q hR3)), tabL k6 hL5, _, _, rfl⟩
  rintro σ H3 ⟨hD3, hT3, hR3, hL3, v3, v7, rfl⟩
  clear hD2 hT2 hR2 hL2
  -- the editors
  have ers : repS "~" 60 = S (List.replicate 60 126) := rep_one 126 60
  refine ⟨⟨_, rfl⟩, "~", 60, rfl, rfl, by omega, by omega, by decide, by decide, line16 (by show 1 ≤ 1000000; decide), fun L1 nL1 => ?_⟩
  rw [ers]
  have kL1 : Kq [] H3 (upd H3 L1 (.lst [.str (S (List.replicate 60 126))])) := Kq.alloc nL1
  have gL1 : (upd H3 L1 (.lst [.str (S (List.replicate 60 126))])) L1 = some (.lst [.str (S (List.replicate 60 126))]) := upd_same
  generalize (upd H3 L1 (.lst [.str (S (List.replicate 60 126))])) = H4 at kL1 gL1 ⊢
  refine ⟨L1, 12, _, rfl, rfl, gL1, by decide, by decide, line16 (by decide), fun L2 nL2 => ?_⟩
  rw [ls12_rows]
  have kL2 : Kq [] H4 (upd H4 L2 (.lst ((ls12.map S).map V.str))) := Kq.alloc nL2
  have gL2 : (upd H4 L2 (.lst ((ls12.map S).map V.str))) L2 = some (.lst ((ls12.map S).map V.str)) := upd_same
  have k35 := kL1.trans kL2
  generalize (upd H4 L2 (.lst ((ls12.map S).map V.str))) = H5 at kL2 gL2 k35 ⊢
  refine ⟨Str.ofString "\n", L2, ls12.map S, rfl, rfl, .inl (SqL.of gL2), ls12_join, ls12, rfl, ls12_ok.2, (good_rows ls12_ok.1).2.2, (fun l hl => Nat.le_trans ((good_rows ls12_ok.1).2.1 l hl) (by decide)), by decide, k35.tab _ hT3, fun _ m1 H6 n1 k6 hE1 => ?_, fun z => by rw [ls12_ok.1] at z; cases z⟩
  have n1' : ∀ b ∈ m1.l, b ∉ [h, l] := fun b hb z => by
    obtain ⟨o, e, _⟩ := (hD3.kq k35).wr b z
    rw [n1 b hb] at e; cases e
  have k36 := k35.trans k6
  clear kL1 gL1 nL1 nL2 kL2 gL2 k35 k6 n1
  obtain ⟨g12, g60, g10⟩ := good_rows hg
  refine ⟨_, rfl, ls, rfl, hne, g10, (fun l hl => Nat.le_trans (g60 l hl) (by decide)), Nat.le_trans g12 (by decide), k36.tab _ hT3, fun _ m2 H7 n2 k7 hE2 => ?_, fun z => by rw [hg] at z; cases z⟩
  have n2' : ∀ b ∈ m2.l, b ∉ [h, l] := fun b hb z => by
    obtain ⟨o, e, _⟩ := (hD3.kq k36).wr b z
    rw [n2 b hb] at e; cases e
  have d12 : ∀ b ∈ m1.l, b ∉ m2.l := fun b hb z => absurd (n2 b z) (hE1.some b hb)
  have hE1 := hE1.kq k7
  have k37 := k36.trans k7
  clear k36 k7 n2
  -- a tape of thirty
  obtain ⟨dx, p, e2⟩ := edAt_head hE2
  refine ⟨_, rfl, m2.e, dx, _, rfl, e2, edF_nx_tape _ _ _ _ _ _, line16 (by show 2 ≤ 1000000; decide), fun pt npt => ⟨line16 (by show 1 ≤ 1000000; decide), fun Lp nLp => ?_⟩⟩
  have kpt : Kq [] H7 (upd H7 pt (.tup [.str "put", .str "~"])) := Kq.alloc npt
  have gpt : KeyAt K (upd H7 pt (.tup [.str "put", .str "~"])) pt (.put [126]) := SqT.of upd_same
  generalize (upd H7 pt (.tup [.str "put", .str "~"])) = H8 at kpt gpt nLp ⊢
  have kLp : Kq [] H8 (upd H8 Lp (.lst [.ref pt])) := Kq.alloc nLp
  have gLp : (upd H8 Lp (.lst [.ref pt])) Lp = some (.lst [.ref pt]) := upd_same
  have gpt := kLp.key gpt
  have k79 := kpt.trans kLp
  generalize (upd H8 Lp (.lst [.ref pt])) = H9 at kLp gLp gpt k79 ⊢
  refine ⟨Lp, 30, _, rfl, rfl, gLp, by decide, by decide, line16 (by show 1 * 30 ≤ 1000000; decide), fun Lq nLq => ?_⟩
  rw [flat_rep1, show (30 : Int).toNat = 30 from rfl, show List.replicate 30 (V.ref pt) = (List.replicate 30 pt).map V.ref from (List.map_replicate ..).symm]
  have kLq : Kq [] H9 (upd H9 Lq (.lst ((List.replicate 30 pt).map V.ref))) := Kq.alloc nLq
  have gLq : (upd H9 Lq (.lst ((List.replicate 30 pt).map V.ref))) Lq = some (.lst ((List.replicate 30 pt).map V.ref)) := upd_same
  have gpt := kLq.key gpt
  have k7a := k79.trans kLq
  generalize (upd H9 Lq (.lst ((List.replicate 30 pt).map V.ref))) = Ha at kLq gLq gpt k7a ⊢
  refine ⟨Lq, _, rfl, .inl ⟨SqL.of gLq, fun T_ nT => ?_⟩⟩
  have kT : Kq [] Ha (upd Ha T_ (.tup ((List.replicate 30 pt).map V.ref))) := Kq.alloc nT
  have gT : SqT K (upd Ha T_ (.tup ((List.replicate 30 pt).map V.ref))) T_ ((List.replicate 30 pt).map V.ref) := SqT.of upd_same
  have gpt := kT.key gpt
  have k7b := k7a.trans kT
  generalize (upd Ha T_ (.tup ((List.replicate 30 pt).map V.ref))) = Hb at kT gT gpt k7b ⊢
  refine ⟨m2, _, 0, T_, List.replicate 30 pt, List.replicate 30 (.put [126]), rfl, hE2.kq k7b, by decide, gT, keysAt_rep gpt 30, (fun k hk => by rw [(List.mem_replicate.mp hk).2]; exact ⟨by decide, by decide⟩), by decide, fun Hc kc hE2 => ?_⟩
  have hE1 := hE1.kq k7b
  have sub : ∀ b ∈ [m2.t], b ∈ m2.l := fun b hb => by rw [List.mem_singleton.mp hb]; simp [EdM.l]
  have hE1 := hE1.kf kc fun b hb z => d12 b hb (sub b z)
  have k3b := k37.trans k7b
  have hDc := (hD3.kq k3b).kf kc (fun z => n2' h (sub h z) (by simp)) (fun z => n2' l (sub l z) (by simp))
  have hRc := tabR kc.q (tabR k3b hR3)
  have hLc := tabL kc.q (tabL k3b hL3)
  clear hT3 hR3 hL3 hD3 k3b k37 k79 k7a k7b kpt kLp kLq kT gLp gLq gT gpt sub kc npt nLp nLq nT e2
  refine ⟨_, rfl, _, rfl, line16 (by show 2 ≤ 1000000; decide), fun L nL => ?_⟩
  have kL : Kq [] Hc (upd Hc L (.lst [.ref m1.e, .ref m2.e])) := Kq.alloc nL
  have gL : (upd Hc L (.lst [.ref m1.e, .ref m2.e])) L = some (.lst [.ref m1.e, .ref m2.e]) := upd_same
  have mL : L ∉ [h, l] := fresh_ne hDc.some nL
  have nL1 : L ∉ m1.l := fun z => hE1.some L z nL
  have nL2 : L ∉ m2.l := fun z => hE2.some L z nL
  have hD := hDc.kq kL
  have hE1 := hE1.kq kL
  have hE2 := hE2.kq kL
  have hR := tabR kL hRc
  have hL := tabL kL hLc
  generalize (upd Hc L (.lst [.ref m1.e, .ref m2.e])) = H9 at kL gL hD hE1 hE2 hR hL ⊢
  have two : Two K H9 h l L m1.e m2.e := ⟨m1, _, m2, _, rfl, rfl, ⟨hE1, ⟨rfl, rfl, rfl, rfl, rfl⟩, n1', nL1⟩, ⟨hE2, ⟨rfl, rfl, rfl, rfl, rfl⟩, n2', nL2⟩, d12⟩
  clear hE1 hE2 n1' n2' nL1 nL2 d12 kL nL hRc hLc hDc
  generalize m1.e = E1 at two gL ⊢
  generalize m2.e = E2 at two gL ⊢
  refine ⟨L, rfl, ⟨_, SqL.of gL⟩, ?_⟩
  refine for_list (K := K) (a := L) (xs := [.ref E1, .ref E2]) (fun i σ H' => Two K H' h l L E1 E2 ∧ DrAt H' h l ∧ H' L = some (.lst [.ref E1, .ref E2]) ∧ LamX.TabS H' (tLn K ("_law_are_refused", none)) (lamQ "_law_are_refused") ∧ LamX.TabS H' (tLn K ("law", none)) (lamQ "law") ∧ ∃ v3 v6 v7 v8, σ = [some (.ref a), some (.ref h), some (.str (textS ls)), v3, some (.ref E1), some (.ref E2), v6, v7, v8]) ⟨two, hD, gL, hR, hL, _, _, _, _, rfl⟩ (fun i σ H' _ z => SqL.of z.2.2.1) ?_ ?_
  rotate_left
  · rintro σ H' ⟨_, _, _, _, _, v3, v6, v7, v8, rfl⟩
    exact kQ H'
  clear two hD gL hR hL
  rintro i x σ Hx hx ⟨two, hD, gL, hR, hL, v3, v6, v7, v8, rfl⟩
  obtain ⟨ea, eb, rfl, two, back⟩ : ∃ ea eb, x = .ref ea ∧ Two K Hx h l L ea eb ∧ ∀ H', Two K H' h l L ea eb → Two K H' h l L E1 E2 := by
    match i, hx with
    | 0, hx => cases hx; exact ⟨E1, E2, rfl, two, fun _ z => z⟩
    | 1, hx => cases hx; exact ⟨E2, E1, rfl, two.swap, fun _ z => z.swap⟩
    | n + 2, hx => cases hx
  obtain ⟨m, d, m', d', rfl, rfl, o1, o2, dj⟩ := two
  refine ⟨_, rfl, m, d, rfl, o1.at_, fun A Hb nA kb tA => ?_⟩
  have mA1 : A ∉ m.l := fun z => o1.at_.some A z nA
  have o1 := o1.kq kb
  have o2 := o2.kq kb
  have mA : A ∉ [h, l] := fresh_ne hD.some nA
  have hD := hD.kq kb
  have gL := kb.get gL
  have hR := tabR kb hR
  have hL := tabL kb hL
  clear kb nA
  -- refused, three times
  refine ⟨_, rfl, by decide, by decide, ?_⟩
  refine for_range (lo := 0) (n := (3 : Int).toNat) (fun j σ H' => Kf [h, l] Hb H' ∧ DrAt H' h l ∧ LamX.TabS H' (tLn K ("_law_are_refused", none)) (lamQ "_law_are_refused") ∧ LamX.TabS H' (tLn K ("law", none)) (lamQ "law") ∧ ∃ v3, σ = [some (.ref a), some (.ref h), some (.str (textS ls)), v3, some (.ref E1), some (.ref E2), some (.ref m.e), v7, some (.ref A)]) ⟨Kf.refl hD.wr, hD, hR, hL, _, rfl⟩ ?_ ?_
  · rintro j σ Hc hj ⟨kc, hDc, hRc, hLc, v3', rfl⟩
    refine ⟨_, rfl, _, rfl, h, l, m, d, rfl, hDc, o1.at_.kf kc o1.dj, o1.dj, hRc, fun Hd kd hDd => ⟨_, rfl, iteF ?_⟩⟩
    have hLd := tabL kd.q hLc
    refine ⟨hLd, fun He_ gr => ?_⟩
    have ke := gr.kq hLd unL
    have hE := (o1.at_.kf (kc.trans kd) o1.dj).kq ke
    obtain ⟨dx, p, e1⟩ := edAt_head hE
    refine kind_none (x := "NotTaping") (by decide +kernel) (by decide +kernel) (by decide +kernel) (fun E Q' y => ⟨_, rfl, m.e, dx, _, rfl, e1, edF_nx_stop _ _ _ _ _ _, m, d, rfl, hE, fun _ => y _ Kq.refl, fun n H' z => by rw [o1.fr.t] at z; cases z⟩) fun Hf kf => ⟨rfl, _, rfl, iteF ?_⟩
    exact ⟨((kc.trans kd).kq ke).kq kf, (hDd.kq ke).kq kf, tabR kf (tabR ke (tabR kd.q hRc)), tabL kf gr.tab, _, rfl⟩
  rintro σ Hc ⟨kc, hDc, hRc, hLc, v3', rfl⟩
  have o1 := o1.kf kc o1.dj
  have o2 := o2.kf kc o2.dj
  have gL := kc.q.gets gL mL
  have tA := tA.kf kc mA
  clear kc hD hR hL
  -- taped
  obtain ⟨dx, p, e1⟩ := edAt_head o1.at_
  refine ⟨_, rfl, m.e, dx, _, rfl, e1, edF_nx_record _ _ _ _ _ _, m, d, .str "b", rfl, o1.at_, rfl, (fun z => absurd z (by decide +kernel)), (fun _ z => absurd o1.fr.t z), fun n pr Hd en hn8 ht npr kd hEd => ?_⟩
  obtain rfl : n = 1 := by
    have : V.str (nameS 1) = .str (nameS n) := en
    exact (name_inj (V.str.inj this)).symm
  have dj1 := prL o1.dj npr hDc.some
  have dj2 := prL (m := m) (S := m'.l) dj npr o2.at_.some
  have nL1 : L ∉ (m.pr' pr).l := fun z => prL (m := m) (S := [L]) (fun b hb y => o1.nL (by rw [List.mem_singleton.mp y] at hb; exact hb)) npr (fun s hs => by rw [List.mem_singleton.mp hs, gL]; simp) L z (by simp)
  have nA1 : A ∉ (m.pr' pr).l := fun z => prL (m := m) (S := [A]) (fun b hb y => mA1 (by rw [List.mem_singleton.mp y] at hb; exact hb)) npr (fun s hs => by
    obtain ⟨q, ts, g1, _⟩ := tA
    rw [List.mem_singleton.mp hs, g1]; simp) A z (by simp)
  have hDd := hDc.kf kd (fun z => o1.dj h z (by simp)) (fun z => o1.dj l z (by simp))
  have o2 := o2.kf kd (fun b hb z => dj b z hb)
  have gL := kd.q.gets gL o1.nL
  have tA := tA.kf kd mA1
  have hRd := tabR kd.q hRc
  have hLd := tabL kd.q hLc
  have fr := o1.fr
  clear o1 kd hDc hRc hLc dj npr e1 en ht mA1
  change EdAt K Hd (m.pr' pr) _ at hEd
  generalize hm2 : m.pr' pr = m2 at dj1 dj2 nL1 nA1 hEd
  have em : m.e = m2.e := by rw [← hm2]
  rw [em] at back ⊢
  clear hm2 em
  generalize hd2 : ({ d with taped := some 1, pressed := [] } : EdSt) = d2 at hEd
  have t2 : d2.taped = some 1 := by rw [← hd2]
  have p2 : d2.page = d.page := by rw [← hd2]
  have q2 : d2.tapes = d.tapes := by rw [← hd2]
  have r2 : d2.pressed = [] := by rw [← hd2]
  have u2 : d2.units = [] := by rw [← hd2]; exact fr.u
  have v2 : d2.undone = [] := by rw [← hd2]; exact fr.d
  clear hd2
  -- taping already
  refine ⟨hLd, fun He_ gr => ?_⟩
  have ke := gr.kq hLd unL
  have hLe := gr.tab
  have hEe := hEd.kq ke
  obtain ⟨dx, p, e1⟩ := edAt_head hEe
  refine kind_none (x := "Taping") (by decide +kernel) (by decide +kernel) (by decide +kernel) (fun E Q' y => ⟨_, rfl, m2.e, dx, _, rfl, e1, edF_nx_record _ _ _ _ _ _, m2, d2, .str "b", rfl, hEe, rfl, (fun z => absurd z (by decide +kernel)), (fun _ _ => y _ Kq.refl), fun n pr H' en hn8 ht => by rw [t2] at ht; cases ht⟩) fun Hf kf => ⟨rfl, _, rfl, iteF ?_⟩
  have kdf := ke.trans kf
  have hEf := hEe.kq kf
  have hDf := hDd.kq kdf
  have o2 := o2.kq kdf
  have gL := kdf.get gL
  have tA := tA.kq kdf
  have hRf := tabR kdf hRd
  have hLf := tabL kf hLe
  clear ke kf kdf gr hLe hLd hRd hDd hEd hEe e1
  refine ⟨_, rfl, _, rfl, h, l, m2, d2, rfl, hDf, hEf, dj1, hRf, fun Hg kg hDg => ⟨_, rfl, iteF ?_⟩⟩
  have hEg := hEf.kf kg dj1
  have o2 := o2.kf kg o2.dj
  have gL := kg.q.gets gL mL
  have tA := tA.kf kg mA
  have hRg := tabR kg.q hRf
  have hLg := tabL kg.q hLf
  clear kg hDf hEf hRf hLf
  -- stopped
  obtain ⟨dx, p, e1⟩ := edAt_head hEg
  refine ⟨_, rfl, m2.e, dx, _, rfl, e1, edF_nx_stop _ _ _ _ _ _, m2, d2, rfl, hEg, (fun z => by rw [t2] at z; cases z), fun n Hh en kh hEh => ?_⟩
  obtain rfl : n = 1 := by rw [t2] at en; exact (Option.some.inj en).symm
  rw [r2]
  refine ⟨rfl, _, rfl, iteF ?_⟩
  have hDh := hDg.kf kh (fun z => dj1 h z (by simp)) (fun z => dj1 l z (by simp))
  have o2 := o2.kf kh (fun b hb z => dj2 b z hb)
  have gL := kh.q.gets gL nL1
  have tA := tA.kf kh nA1
  have hRh := tabR kh.q hRg
  have hLh := tabL kh.q hLg
  clear kh hDg hEg hRg hLg e1 en
  have fr2 : Fresh (stopE d2 1) := ⟨rfl, r2, u2, v2, by show (if 1 = 1 then d2.pressed.drop (d2.pressed.length - 30) else d2.tapes 1) = []; rw [if_pos rfl, r2]; rfl⟩
  have tp2 : ∀ i, i < 8 → (stopE d2 1).tapes i = d.tapes i := fun i _ => by
    show (if i = 1 then d2.pressed.drop (d2.pressed.length - 30) else d2.tapes i) = d.tapes i
    by_cases e : i = 1
    · rw [if_pos e, r2, e, fr.b]; rfl
    · rw [if_neg e, q2]
  have pg2 : (stopE d2 1).page = d.page := p2
  generalize stopE d2 1 = d3 at hEh fr2 tp2 pg2
  refine ⟨_, rfl, m2, d3, rfl, hEh, fun A2 Hi nA2 ki tA2 => ⟨_, rfl, _, _, rfl, al_told tA2 (tA.kq ki) pg2 tp2 hEh.tok, fun Hj kj => ⟨_, rfl, iteF ?_⟩⟩⟩
  have khj := ki.trans kj
  have hEj := hEh.kq khj
  obtain ⟨dx, p, e1⟩ := edAt_head hEj
  refine ⟨_, rfl, m2.e, dx, _, rfl, e1, edF_nx_back _ _ _ _ _ _, m2, d3, rfl, hEj, fr2.small, fun Hk kk hEk => ?_⟩
  have eb : backE d3 = d3 := by unfold backE; rw [fr2.u]; rfl
  rw [eb] at hEk
  rw [fr2.u]
  refine ⟨_, _, rfl, rfl, _, rfl, iteF ?_⟩
  refine ⟨back _ ⟨m2, d3, m', d', rfl, rfl, ⟨hEk, fr2, dj1, nL1⟩, (o2.kq khj).kf kk (fun b hb z => dj2 b z hb), dj2⟩, (hDh.kq khj).kf kk (fun z => dj1 h z (by simp)) (fun z => dj1 l z (by simp)), kk.q.gets (khj.get gL) nL1, tabR kk.q (tabR khj hRh), tabL kk.q (tabL khj hLh), _, _, _, _, rfl⟩
end
end KT
set_option Elab.async false
set_option linter.all false
set_option maxRecDepth 100000
set_option maxHeartbeats 0
namespace KT
open PySem PySem.Spec PyProof.Rows L2
open PySem.W PySem.Calls
abbrev qv : Program := PySem.W.view R.prog [71]
theorem map3 {α β γ δ : Type} {X : Option α} {a : α → β} {b : α → γ} {c : α → δ} {x : β} {y : γ} {z : δ} (h1 : X.map a = some x) (h2 : X.map b = some y) (h3 : X.map c = some z) : X.map (fun s => (a s, b s, c s)) = some (x, y, z) := by
  cases X with
  | none => cases h1
  | some s =>
    have e1 : a s = x := Option.some.inj h1
    have e2 : b s = y := Option.some.inj h2
    have e3 : c s = z := Option.some.inj h3
    show some (a s, b s, c s) = some (x, y, z)
    rw [e1, e2, e3]
noncomputable def endW (w : World) (os : OsState) : Option PySem.W.SharedT := HandSHeadRun.endF (HandSHeadRun.stepQ (HandSHeadRun.denQ HandSHeadRun.tabQ) R.prog w) 9000 R.prog w os
def wB (b : Bool) (w : World) : World := World.withFollow w "special-get-raises" b
theorem run1_false (w : World) (os : OsState) : (endW (wB false w) os).map (fun s => HandSHeadRun.looksF R.prog (boot_heap (wB false w).params) s.abs) = some true := by kernel_rfl
theorem run2_false (w : World) (os : OsState) : (endW (wB false w) os).map (fun s => HandSHeadRun.seenQ qv loose (importedModules R.prog.main.body) (fun s => PySem.W.xlAt qv [] s && PySem.W.recOk R.toRowW.records s) s.abs) = some (PySem.W.openGood qv loose) := by kernel_rfl
theorem run3_false (w : World) (os : OsState) : (endW (wB false w) os).map (fun s => ob s) = some (hk.val (wB false w)) := by kernel_rfl
theorem run_false (w : World) : HandSHeadRun.RunEq R qv hk ob 9000 loose (wB false w) := fun os => map3 (run1_false w os) (run2_false w os) (run3_false w os)
theorem run1_true (w : World) (os : OsState) : (endW (wB true w) os).map (fun s => HandSHeadRun.looksF R.prog (boot_heap (wB true w).params) s.abs) = some true := by kernel_rfl
theorem run2_true (w : World) (os : OsState) : (endW (wB true w) os).map (fun s => HandSHeadRun.seenQ qv loose (importedModules R.prog.main.body) (fun s => PySem.W.xlAt qv [] s && PySem.W.recOk R.toRowW.records s) s.abs) = some (PySem.W.openGood qv loose) := by kernel_rfl
theorem run3_true (w : World) (os : OsState) : (endW (wB true w) os).map (fun s => ob s) = some (hk.val (wB true w)) := by kernel_rfl
theorem run_true (w : World) : HandSHeadRun.RunEq R qv hk ob 9000 loose (wB true w) := fun os => map3 (run1_true w os) (run2_true w os) (run3_true w os)
theorem run (w : World) : HandSHeadRun.RunEq R qv hk ob 9000 loose w := PySem.W.byRow2 "special-get-raises" (P := fun w => HandSHeadRun.RunEq R qv hk ob 9000 loose w) run_false run_true w
end KT
set_option Elab.async false
set_option linter.all false
set_option maxRecDepth 100000
set_option maxHeartbeats 4000000
namespace KT
open PySem PySem.Spec PyProof.Rows L2
theorem end_binds {w : World} {K : PySem.W.Frag} {mg : Str → Option Value} (T : Tx w K mg) (s : Shared) (v : Value) : BindsTo s (fdOf K (Ad K d_law.at_)) ⟨[v], []⟩ [("_law_script", v)] := by
  have F := T.f_law
  unfold FnT at F
  have e : d_law.dvs K = [] := rfl
  rw [e] at F
  exact (FunD.bindsA (ps := ["_law_script"]) F fun _ _ _ _ _ _ us hl => match us, hl with | [_], _ => rfl) s [v] rfl
theorem end_law {w : World} {K : PySem.W.Frag} {h : Heap} {mg : Str → Option Value} {f : Addr} (X : K.In h) (G : h.Ns mainGlobals mg) (hfa : mg ("law" : Str) = some (.ref f)) (c : He.SaysX fa fn ts tf ex w h K) :
    LamX.LawAtS PySem.Challenge.rw_keytape_k01_refusals w K (L2.CX (PySem.Challenge.rw_keytape_k01_refusals).prog w) 76 63 "_law_script" mg f h := by
  have T : Tx w K mg := ⟨h, X, G, c⟩
  have e := hfa.symm.trans T.g_law
  cases e
  letI : GT := ⟨(He.cT K ("are_signs", none)).2, [((He.cT K ("_law_are_refused", none)).2, lamQ "_law_are_refused"), ((He.cT K ("law", none)).2, lamQ "law")], by
    intro p hp
    have h1 := T.more1
    unfold ex1 makers at h1
    simp only [List.all_cons, List.all_nil, Bool.and_eq_true, decide_eq_true_eq, Bool.and_true] at h1
    simp only [List.mem_cons, List.not_mem_nil, or_false] at hp
    rcases hp with rfl | rfl
    · exact h1.1.2.1
    · exact h1.1.2.2⟩
  refine ⟨fdOf K (Ad K d_law.at_), [He.cT K ("are_signs", none), He.cT K ("_law_are_refused", none), He.cT K ("law", none)], sp_law1 K, fun p hp => ?_, fun p hp => ?_, fun p hp => ?_, fun s v => end_binds T s v, fun H a ns hl _ ht hS => ⟨a, ns, rfl, hS, ?_, LamX.TabS.nil (ht (He.cT K ("_law_are_refused", none)) (by simp)), LamX.TabS.nil (ht (He.cT K ("law", none)) (by simp)), fun _ => rfl⟩, fun base KX2 G2 B => ?_⟩
  · simp only [List.mem_cons, List.not_mem_nil, or_false] at hp
    rcases hp with rfl | rfl | rfl <;> exact c.empty _ (by simp [tf, makers])
  · simp only [List.mem_cons, List.not_mem_nil, or_false] at hp
    rcases hp with rfl | rfl | rfl <;> exact c.out _ (by simp [tf, makers])
  · simp only [List.mem_cons, List.not_mem_nil, or_false] at hp
    rcases hp with rfl | rfl | rfl <;> exact PySem.W.codeHd_of_K X (c.hd _ (by simp [tf, makers]))
  · exact ⟨#[], ht (He.cT K ("are_signs", none)) (by simp), by first | trivial | exact .nil | (show TriplesOk []; simp [TriplesOk])⟩
  · have b := B (He.cT K ("are_signs", none)) (by simp)
    have b0 := B (He.cT K ("_law_are_refused", none)) (by simp)
    have b1 := B (He.cT K ("law", none)) (by simp)
    exact (ok_law (P := (PySem.Challenge.rw_keytape_k01_refusals).prog) T ⟨rfl, rfl⟩ ⟨b.code, b.bm, b.gP⟩ ⟨b0.code, b0.bm, b0.gP⟩ ⟨b1.code, b1.bm, b1.gP⟩ rfl).ok
end KT
open PySem PySem.W PySem.Calls PyProof.Rows
theorem PySem.Challenge.cw_keytape_k01_refusals_holds : PySem.Challenge.rw_keytape_k01_refusals.Holds := by
  w_on; o_law
  refine HandSHeadRun.head_any (r := OpenLaw.row PySem.Challenge.rw_keytape_k01_refusals) (q := view (OpenLaw.row PySem.Challenge.rw_keytape_k01_refusals).prog [71]) (H := KT.hk) (ob := KT.ob) (M := 9000) (loose := KT.loose) (d := HandSHeadRun.topDef (OpenLaw.row PySem.Challenge.rw_keytape_k01_refusals).prog 71) (kwd := []) KT.ob_eq
    (by kernel_rfl) (fun s => by kernel_rfl) KT.run (by kernel_rfl) (by kernel_rfl) (by kernel_rfl) (by rfl) (by first | assumption | decide +kernel) (by decide +kernel) ⟨rfl, rfl, rfl, rfl, rfl, by decide +kernel⟩ ?hw ?hc
  case hw => w_witness2
  case hc =>
    refine LamX.walk_ofTsE (l := PySem.Challenge.rw_keytape_k01_refusals) (n := 63) (k := 76) (x := "_law_script") (CX := fun w => L2.CX (PySem.Challenge.rw_keytape_k01_refusals).prog w) rfl (by decide) (by kernel_rfl) ⟨rfl, by decide, by decide⟩ ?F ?c
    case F =>
      intro w mg fa h Y G hmg0
      obtain ⟨K, KX, c⟩ := Y
      have hmg : mg ("law" : PySem.Str) = some (.ref fa) := by
        have e : (HandSHeadRun.topDef (OpenLaw.row PySem.Challenge.rw_keytape_k01_refusals).prog 71).name = ("law" : PySem.Str) := by kernel_rfl
        rw [← e]
        exact hmg0
      exact ⟨K, KX, KT.end_law KX G hmg c⟩
    case c =>
      intro w H s e s' hc
      obtain ⟨a, B, H', cls, d, _, _, _, _, _, _, _, hE⟩ := hc
      exact hE

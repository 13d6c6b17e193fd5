import PyProof.Rows.All
import Wide.All
import OpenK.AllK
import Wide.FinOn
import HandS.HeadHook4
import HandS.ExcInit
import KE.KExcSuper
import HandS.Base
import HandS.Call
import HandS.List
import HandS.Comp
import HandS.Ends
import HandS.More
import HandS.Words
import HandS.WordsList
import HandS.WordsDict
import HandS.WordsExc
import HandS.Dict
import HandS.Iter
import HandS.Text
import HandS.Exc
import HandS.ExcOwn
import HandS.Defaults
import HandS.Head0
import HandS.Head1
import HandS.Head2
import HandS.HeadEnd
import HandS.HeadHook1
import HandS.HeadHook2
import HandS.HeadHook3
import HandS.TupAny
import HandS.AnyAll
import HandS.Lambda
import HandS.Deep
import HandS.ExcIs
import HandS.StrMore
import HandS.RaiseOp
import HandS.IsInst
import PyProof.Rows.MatchSeqLen
import PyProof.Rows.TupAssign
import HandS.SetKeys
import HandS.DictComp
import HandS.Codes
import HandS.ExcField
import HandS.FStr
import KE.KDflt
import KE.GoesMore
import HandS.ReplaceList
import HandS.GenList
import HandS.JoinGen
import HandS.GenYield
import HandS.ReplaceLit
import HandS.ReplaceDef
import HandS.RaiseMore
import HandS.Conv
import PyProof.NeKinds
import PyProof.StrOps2
import HandS.TupLe
import PyProof.P3Eq
import PyProof.DictUpdate
import HandS.HeadWalk
import PySem.Challenge.RW_keytape_k13_texts_refused
set_option Elab.async false
set_option linter.all false
set_option maxRecDepth 100000
set_option maxHeartbeats 4000000
/-! what the head must say of an own exception class whose __init__ says super().__init__ ahead; decided -/
namespace KT
open PySem PySem.Spec PyProof.Rows L2
def fnAt (K : PySem.W.Frag) (f : Addr) : Option FuncData := match K.lookup f with
  | some ⟨_, _, .func fd, _⟩ => some fd
  | _ => none
def cellAt (K : PySem.W.Frag) (c : Addr) : Option Value := match K.lookup c with
  | some ⟨_, _, .cell v, _⟩ => v
  | _ => none
def fldsAt (K : PySem.W.Frag) (c : Addr) : Option (Array Value) := match K.lookup c with
  | some ⟨_, _, .fields v, _⟩ => some v
  | _ => none
/-- two parameters, the same -/
def eqArgs (a r : Arguments) : Bool := match a, r with
  | ⟨[], [⟨x, none, p⟩, ⟨y, none, q⟩], none, [], [], none, []⟩, ⟨[], [⟨x', none, p'⟩, ⟨y', none, q'⟩], none, [], [], none, []⟩ => decide (x = x' ∧ p = p' ∧ y = y' ∧ q = q')
  | _, _ => false
theorem eqArgs_ok {a r : Arguments} (h : eqArgs a r = true) : a = r := by
  unfold eqArgs at h
  split at h
  · obtain ⟨rfl, rfl, rfl, rfl⟩ := of_decide_eq_true h
    rfl
  · cases h
def eqBody (b : FuncBody) (r : List Stmt) : Bool := match b, r with
  | .stmts [.Expr (.Call (.Attribute (.Call (.Name a1 q1) [] [] q2) a2 q3) [.JoinedStr [.Constant c1 k1 q4, .FormattedValue (.Name a3 q5) n1 none q6] q7] [] q8) q9, .Assign [.Attribute (.Name a4 q10) a5 q11] (.Name a6 q12) q13],
    [.Expr (.Call (.Attribute (.Call (.Name b1 r1) [] [] r2) b2 r3) [.JoinedStr [.Constant d1 l1 r4, .FormattedValue (.Name b3 r5) m1 none r6] r7] [] r8) r9, .Assign [.Attribute (.Name b4 r10) b5 r11] (.Name b6 r12) r13] =>
    decide (a1 = b1 ∧ a2 = b2 ∧ a3 = b3 ∧ a4 = b4 ∧ a5 = b5 ∧ a6 = b6 ∧ c1 = d1 ∧ k1 = l1 ∧ n1 = m1) && decide (q1 = r1 ∧ q2 = r2 ∧ q3 = r3 ∧ q4 = r4 ∧ q5 = r5 ∧ q6 = r6 ∧ q7 = r7) && decide (q8 = r8 ∧ q9 = r9 ∧ q10 = r10 ∧ q11 = r11 ∧ q12 = r12 ∧ q13 = r13)
  | _, _ => false
theorem eqBody_ok {b : FuncBody} {r : List Stmt} (h : eqBody b r = true) : b = .stmts r := by
  unfold eqBody at h
  split at h
  · simp only [Bool.and_eq_true, decide_eq_true_eq] at h
    obtain ⟨⟨⟨rfl, rfl, rfl, rfl, rfl, rfl, rfl, rfl, rfl⟩, rfl, rfl, rfl, rfl, rfl, rfl, rfl⟩, rfl, rfl, rfl, rfl, rfl, rfl⟩ := h
    rfl
  · cases h
/-- the class -/
def supC (K : PySem.W.Frag) (C : Addr) (fld : Str) : Bool := (match K.lookup C with
  | some ⟨.type "type", _, .cls cd, sl⟩ => (match cd.mro, sl.toList with
    | .ref C' :: bm, [_, _, _, _, some (.builtin n), _] => decide (C' = C) && decide (n = "ValueError.__new__") && !cd.hasDel && cd.hasDict && PySem.HandSPX.refsVE bm && He.eqO (PySem.W.alongIn K "__init__" ((cd.mro.dropWhile (· != .ref C)).drop 1)) (some (some (.builtin "ValueError.__init__")))
    | _, _ => false)
  | _ => false) && (He.eqO (PySem.W.findIn K (.ref C) "__setattr__") (some (some (.builtin "object.__setattr__"))) && (decide (PySem.W.subIn K (.ref C) (.type "BaseException") = some true) && (decide (PySem.W.typeIn K (.ref C) = some (.type "type")) && (PySem.W.keepIn K (.ref C) && (decide (PySem.W.mroIn K C (.ref C) = some true) && (decide (PySem.W.subIn K (.ref C) (.type "ValueError") = some true) && He.eqO (PySem.W.findIn K (.ref C) fld) (some none)))))))
/-- its __init__ -/
def supI (K : PySem.W.Frag) (C : Addr) (qual : Str) (params : Arguments) (body : List Stmt) (scope : Scope) (file : Str) : Bool := He.eqO (PySem.W.findIn K (.ref C) "__init__") (some (some (.ref (He.ma K C "__init__")))) && (decide (PySem.W.typeIn K (.ref (He.ma K C "__init__")) = some (.type "function")) && (match fnAt K (He.ma K C "__init__") with
  | none => false
  | some fd => (match fd.closure, fd.code with
    | [(n, c)], .ref cda => decide (n = "__class__") && (decide (cellAt K c = some (.ref C)) && (decide (fd.name = "__init__") && (decide (fd.qualname = qual) && (eqArgs fd.params params && (eqBody fd.body body && (decide (fd.scope = scope) && (decide (fd.globals = mainGlobals) && (decide (fd.builtins = builtinsNs) && (decide (fd.defaults = .none) && (PySem.W.codeIn K fd.code qual && (match fldsAt K cda with
      | some v => (match (v[2]? : Option Value) with
        | some (.str z _) => decide (z = file)
        | _ => false)
      | none => false)))))))))))
    | _, _ => false)))
def supB (K : PySem.W.Frag) (C : Addr) (qual : Str) (params : Arguments) (body : List Stmt) (scope : Scope) (file fld : Str) : Bool := supC K C fld && (supI K C qual params body scope file && He.eqO (PySem.W.nsIn K cStatics "thirdparty.any") (some none))
/-- words that stand in no table of actions -/
def noWords : List Str := ["put", "find", "play", "till", "Rub"]
def noActs (K : PySem.W.Frag) (d : Addr) : Bool := noWords.all fun z => He.eqO (PySem.W.nsIn K d z) (some none)
/-! ### what the keys of a written dict are, all of them -/
def keyT : Value → Option Str
  | .str z _ => some z
  | _ => none
def intT : Value → Option Int
  | .int i _ => some i
  | _ => none
def keysAre (K : PySem.W.Frag) (d : Addr) (ws : List Str) : Bool := match K.lookup d with
  | some ⟨_, _, .dict es _, _⟩ => decide (es.toList.map (fun e => keyT e.key) = ws.map some)
  | _ => false
def intsAre (K : PySem.W.Frag) (d : Addr) (l : List (Str × Int)) : Bool := match K.lookup d with
  | some ⟨_, _, .dict es _, _⟩ => decide (es.toList.map (fun e => (keyT e.key, intT e.val)) = l.map fun p => (some p.1, some p.2))
  | _ => false
theorem keyT_some {v : Value} {z : Str} (h : keyT v = some z) : ∃ t, v = .str z t := by
  cases v with
  | str y t => exact ⟨t, by rw [show y = z from Option.some.inj h]⟩
  | _ => cases h
theorem intT_some {v : Value} {z : Int} (h : intT v = some z) : ∃ t, v = .int z t := by
  cases v with
  | int y t => exact ⟨t, by rw [show y = z from Option.some.inj h]⟩
  | _ => cases h
theorem keys_none (z : Str) : ∀ (es : List DictEntry) (ws : List Str), es.map (fun e => keyT e.key) = ws.map some → (es.any (·.refKey)) = false ∧ (es.find? (·.key.isStr z)).isSome = ws.contains z
  | [], [], _ => ⟨rfl, rfl⟩
  | [], _ :: _, h => by cases h
  | _ :: _, [], h => by cases h
  | e :: es, y :: ws, h => by
    rw [List.map_cons, List.map_cons] at h
    injection h with h1 h2
    obtain ⟨t, ht⟩ := keyT_some h1
    obtain ⟨i1, i2⟩ := keys_none z es ws h2
    constructor
    · rw [List.any_cons, i1]
      unfold DictEntry.refKey
      rw [ht]; rfl
    · rw [List.find?_cons, ht]
      show (match (y == z) with | true => some e | false => es.find? (·.key.isStr z)).isSome = _
      rw [List.contains_cons]
      have hc : (z == y) = (y == z) := by
        by_cases c : y = z
        · subst c; rfl
        · rw [beq_eq_false_iff_ne.mpr c, beq_eq_false_iff_ne.mpr (fun q => c q.symm)]
      rw [hc]
      cases (y == z) with
      | true => rfl
      | false => rw [i2]; rfl
/-- a word looked up in such a dict -/
theorem keysAre_ok {K : PySem.W.Frag} {d : Addr} {ws : List Str} (h : keysAre K d ws = true) (z : Str) : ∃ r, PySem.W.nsIn K d z = some r ∧ r.isSome = ws.contains z := by
  unfold keysAre at h
  unfold PySem.W.nsIn
  split at h
  · rename_i c dd es n sl ho
    obtain ⟨h1, h2⟩ := keys_none z _ _ (of_decide_eq_true h)
    rw [ho]
    dsimp only
    cases hf : es.toList.find? (·.key.isStr z) with
    | some e => rw [hf] at h2; exact ⟨_, rfl, h2⟩
    | none => rw [hf] at h2; rw [h1]; exact ⟨none, rfl, h2⟩
  · cases h
theorem ints_find (z : Str) : ∀ (es : List DictEntry) (l : List (Str × Int)), es.map (fun e => (keyT e.key, intT e.val)) = l.map (fun p => (some p.1, some p.2)) → (es.any (·.refKey)) = false ∧
    match l.lookup z with
    | some i => ∃ e t, es.find? (·.key.isStr z) = some e ∧ e.val = .int i t
    | none => es.find? (·.key.isStr z) = none
  | [], [], _ => ⟨rfl, rfl⟩
  | [], _ :: _, h => by cases h
  | _ :: _, [], h => by cases h
  | e :: es, (y, j) :: l, h => by
    rw [List.map_cons, List.map_cons] at h
    injection h with h1 h2
    injection h1 with h0 h1
    obtain ⟨t, ht⟩ := keyT_some h0
    obtain ⟨t', ht'⟩ := intT_some h1
    obtain ⟨i1, i2⟩ := ints_find z es l h2
    constructor
    · rw [List.any_cons, i1]
      unfold DictEntry.refKey
      rw [ht]; rfl
    · have hf : (e :: es).find? (·.key.isStr z) = match (y == z) with | true => some e | false => es.find? (·.key.isStr z) := by
        rw [List.find?_cons, ht]; rfl
      rw [hf, List.lookup_cons]
      have hc : (z == y) = (y == z) := by
        by_cases c : y = z
        · subst c; rfl
        · rw [beq_eq_false_iff_ne.mpr c, beq_eq_false_iff_ne.mpr (fun q => c q.symm)]
      rw [hc]
      cases (y == z) with
      | true => exact ⟨e, t', rfl, ht'⟩
      | false => exact i2
theorem intsAre_ok {K : PySem.W.Frag} {d : Addr} {l : List (Str × Int)} (h : intsAre K d l = true) (z : Str) : match l.lookup z with
    | some i => ∃ t, PySem.W.nsIn K d z = some (some (.int i t))
    | none => PySem.W.nsIn K d z = some none := by
  unfold intsAre at h
  unfold PySem.W.nsIn
  split at h
  · rename_i c dd es n sl ho
    obtain ⟨h1, h2⟩ := ints_find z _ _ (of_decide_eq_true h)
    rw [ho]
    dsimp only
    cases hl : l.lookup z with
    | some i =>
      rw [hl] at h2
      obtain ⟨e, t, hf, hv⟩ := h2
      rw [hf]
      exact ⟨t, by show some (some e.val) = _; rw [hv]⟩
    | none =>
      rw [hl] at h2
      rw [h2, h1]; rfl
  · cases h
/-! ### the head's Hook with the statics in the written part -/
def asS (g : Addr → Option Obj) (n : Nat) : List Addr := cStatics :: He.asD g n
def obsS (n : Nat) (fa : List He.Fa) (fn : List He.DefD) (ts : List He.Tab) (tf : List He.Defn) (ex : PySem.W.Frag → Bool) (g : Addr → Option Obj) : He.AlX := (He.obsT fa fn ts (He.frT g (asS g n)), ex (He.frT g (asS g n)) && He.tabsB g tf (He.frT g (asS g n)))
theorem saysS_of {n : Nat} {fa : List He.Fa} {fn : List He.DefD} {ts : List He.Tab} {tf : List He.Defn} {ex : PySem.W.Frag → Bool} {w : World} {h : Heap} (e : obsS n fa fn ts tf ex h.get? = He.valX fn ts w) : He.SaysX fa fn ts tf ex w h (He.frT h.get? (asS h.get? n)) := by
  have e1 : He.obsT fa fn ts (He.frT h.get? (asS h.get? n)) = He.valT fn ts w := congrArg (fun z : He.AlX => z.1) e
  have e2 : (ex (He.frT h.get? (asS h.get? n)) && He.tabsB h.get? tf (He.frT h.get? (asS h.get? n))) = true := congrArg (fun z : He.AlX => z.2) e
  obtain ⟨h1, h2⟩ := He.ba e2
  have key : ∀ p ∈ tf, PySem.W.codeHdIn (He.frT h.get? (asS h.get? n)) (He.cT (He.frT h.get? (asS h.get? n)) p).1 (He.cT (He.frT h.get? (asS h.get? n)) p).2 = true ∧ ∃ o, h.get? (He.cT (He.frT h.get? (asS h.get? n)) p).2 = some o ∧ He.emptyTab o = true := fun p hp => by
    obtain ⟨h3, h4⟩ := He.ba (List.all_eq_true.mp h2 p hp)
    refine ⟨h3, ?_⟩
    cases q : h.get? (He.cT (He.frT h.get? (asS h.get? n)) p).2 with
    | none => rw [q] at h4; cases h4
    | some o => rw [q] at h4; exact ⟨o, rfl, h4⟩
  exact ⟨e1, h1, fun p hp => (key p hp).1, fun p hp => by
    obtain ⟨_, o, q, z⟩ := key p hp
    exact He.frT_none q z, fun p hp => by
    obtain ⟨_, o, q, z⟩ := key p hp
    rw [q, He.emptyTab_eq z]⟩
def hookS (n : Nat) (fa : List He.Fa) (fn : List He.DefD) (ts : List He.Tab) (tf : List He.Defn) (ex : PySem.W.Frag → Bool) : PySem.W.Hook where
  α := He.AlX
  obs := fun s => obsS n fa fn ts tf ex s.heap.get?
  val := fun w => He.valX fn ts w
  says := fun w h => ∃ K : PySem.W.Frag, K.In h ∧ He.SaysX fa fn ts tf ex w h K
  of := fun _ _ e => ⟨_, He.frT_in, saysS_of e⟩
  keeps := fun _ _ _ ⟨K, hK, c⟩ k => ⟨K, PySem.W.Frag.In.keeps hK k, ⟨c.t, c.more, c.hd, c.out, fun p hp => k _ _ (c.empty p hp)⟩⟩
theorem obsS_eq {n : Nat} {fa : List He.Fa} {fn : List He.DefD} {ts : List He.Tab} {tf : List He.Defn} {ex : PySem.W.Frag → Bool} {g : Addr → Option Obj} {s : Shared} (h : ∀ a, g a = s.heap.get? a) : obsS n fa fn ts tf ex g = (hookS n fa fn ts tf ex).obs s := by
  have e : g = s.heap.get? := funext h
  rw [e] <;> rfl
end KT
set_option Elab.async false
set_option linter.all false
set_option maxRecDepth 100000
set_option maxHeartbeats 0
namespace KT
open PySem PySem.Spec PyProof.Rows L2
def top (i : Nat) : Stmt := PySem.Challenge.pw_keytape_k13_texts_refused.main.body.getD i (.Pass ⟨0, 0, 0, 0⟩)
abbrev s_Page___init__ : Stmt := inClass (top 15) 0
abbrev s_are_signs : Stmt := top 16
abbrev s_line_at : Stmt := top 17
abbrev s_moved : Stmt := top 18
abbrev s_with_lines : Stmt := top 19
abbrev s_write : Stmt := top 21
abbrev s_break_row : Stmt := top 22
abbrev s_join_row : Stmt := top 23
abbrev s_rub : Stmt := top 24
abbrev s_go_left : Stmt := top 25
abbrev s_go_right : Stmt := top 26
abbrev s_go_to_row : Stmt := top 27
abbrev s_go_up : Stmt := top 28
abbrev s_go_down : Stmt := top 29
abbrev s_go_home : Stmt := top 30
abbrev s_go_end : Stmt := top 31
abbrev s_take : Stmt := top 32
abbrev s_lay : Stmt := top 33
abbrev s_is_word : Stmt := top 40
abbrev s_is_number : Stmt := top 41
abbrev s_is_key : Stmt := top 42
abbrev s_check_keys : Stmt := top 43
abbrev s_check_each : Stmt := top 44
abbrev s_written : Stmt := top 48
abbrev s_read : Stmt := top 49
abbrev s_rises : Stmt := top 50
abbrev s_check_names : Stmt := top 51
abbrev s_check_tapes : Stmt := top 52
abbrev s_row_of : Stmt := top 53
abbrev s_words_of : Stmt := top 54
abbrev s_word_of : Stmt := top 55
abbrev s_keys_of : Stmt := top 56
abbrev s_key_of : Stmt := top 57
abbrev s_signs_of : Stmt := top 58
abbrev s_number_of : Stmt := top 59
abbrev s__law_mix : Stmt := top 61
abbrev s__law_next : Stmt := top 62
abbrev s__law_alike : Stmt := top 63
abbrev s__law_sign : Stmt := top 64
abbrev s__law_text : Stmt := top 65
abbrev s__law_single : Stmt := top 66
abbrev s__law_key : Stmt := top 67
abbrev s__law_tape : Stmt := top 68
abbrev s__law_kind : Stmt := top 69
abbrev s__law_unquoted : Stmt := top 70
abbrev s__law_keys : Stmt := top 71
abbrev s__law_due : Stmt := top 72
abbrev s__law_spoilt : Stmt := top 73
abbrev s_law : Stmt := top 74
def d_Page___init__ : He.DefD := ⟨("Page", some "__init__"), "__init__", "Page.__init__", defArgs s_Page___init__, defBody s_Page___init__, defScope s_Page___init__, [], []⟩
def d_are_signs : He.DefD := ⟨("are_signs", none), "are_signs", "are_signs", defArgs s_are_signs, defBody s_are_signs, defScope s_are_signs, [], []⟩
def d_line_at : He.DefD := ⟨("line_at", none), "line_at", "line_at", defArgs s_line_at, defBody s_line_at, defScope s_line_at, [], []⟩
def d_moved : He.DefD := ⟨("moved", none), "moved", "moved", defArgs s_moved, defBody s_moved, defScope s_moved, [], []⟩
def d_with_lines : He.DefD := ⟨("with_lines", none), "with_lines", "with_lines", defArgs s_with_lines, defBody s_with_lines, defScope s_with_lines, [], []⟩
def d_write : He.DefD := ⟨("write", none), "write", "write", defArgs s_write, defBody s_write, defScope s_write, [], []⟩
def d_break_row : He.DefD := ⟨("break_row", none), "break_row", "break_row", defArgs s_break_row, defBody s_break_row, defScope s_break_row, [], []⟩
def d_join_row : He.DefD := ⟨("join_row", none), "join_row", "join_row", defArgs s_join_row, defBody s_join_row, defScope s_join_row, [], []⟩
def d_rub : He.DefD := ⟨("rub", none), "rub", "rub", defArgs s_rub, defBody s_rub, defScope s_rub, [], []⟩
def d_go_left : He.DefD := ⟨("go_left", none), "go_left", "go_left", defArgs s_go_left, defBody s_go_left, defScope s_go_left, [], []⟩
def d_go_right : He.DefD := ⟨("go_right", none), "go_right", "go_right", defArgs s_go_right, defBody s_go_right, defScope s_go_right, [], []⟩
def d_go_to_row : He.DefD := ⟨("go_to_row", none), "go_to_row", "go_to_row", defArgs s_go_to_row, defBody s_go_to_row, defScope s_go_to_row, [], []⟩
def d_go_up : He.DefD := ⟨("go_up", none), "go_up", "go_up", defArgs s_go_up, defBody s_go_up, defScope s_go_up, [], []⟩
def d_go_down : He.DefD := ⟨("go_down", none), "go_down", "go_down", defArgs s_go_down, defBody s_go_down, defScope s_go_down, [], []⟩
def d_go_home : He.DefD := ⟨("go_home", none), "go_home", "go_home", defArgs s_go_home, defBody s_go_home, defScope s_go_home, [], []⟩
def d_go_end : He.DefD := ⟨("go_end", none), "go_end", "go_end", defArgs s_go_end, defBody s_go_end, defScope s_go_end, [], []⟩
def d_take : He.DefD := ⟨("take", none), "take", "take", defArgs s_take, defBody s_take, defScope s_take, [], []⟩
def d_lay : He.DefD := ⟨("lay", none), "lay", "lay", defArgs s_lay, defBody s_lay, defScope s_lay, [], []⟩
def d_is_word : He.DefD := ⟨("is_word", none), "is_word", "is_word", defArgs s_is_word, defBody s_is_word, defScope s_is_word, [], []⟩
def d_is_number : He.DefD := ⟨("is_number", none), "is_number", "is_number", defArgs s_is_number, defBody s_is_number, defScope s_is_number, [], []⟩
def d_is_key : He.DefD := ⟨("is_key", none), "is_key", "is_key", defArgs s_is_key, defBody s_is_key, defScope s_is_key, [], []⟩
def d_check_keys : He.DefD := ⟨("check_keys", none), "check_keys", "check_keys", defArgs s_check_keys, defBody s_check_keys, defScope s_check_keys, [], []⟩
def d_check_each : He.DefD := ⟨("check_each", none), "check_each", "check_each", defArgs s_check_each, defBody s_check_each, defScope s_check_each, [], []⟩
def d_written : He.DefD := ⟨("written", none), "written", "written", defArgs s_written, defBody s_written, defScope s_written, [], []⟩
def d_read : He.DefD := ⟨("read", none), "read", "read", defArgs s_read, defBody s_read, defScope s_read, [], []⟩
def d_rises : He.DefD := ⟨("rises", none), "rises", "rises", defArgs s_rises, defBody s_rises, defScope s_rises, [], []⟩
def d_check_names : He.DefD := ⟨("check_names", none), "check_names", "check_names", defArgs s_check_names, defBody s_check_names, defScope s_check_names, [], []⟩
def d_check_tapes : He.DefD := ⟨("check_tapes", none), "check_tapes", "check_tapes", defArgs s_check_tapes, defBody s_check_tapes, defScope s_check_tapes, [], []⟩
def d_row_of : He.DefD := ⟨("row_of", none), "row_of", "row_of", defArgs s_row_of, defBody s_row_of, defScope s_row_of, [], []⟩
def d_words_of : He.DefD := ⟨("words_of", none), "words_of", "words_of", defArgs s_words_of, defBody s_words_of, defScope s_words_of, [], []⟩
def d_word_of : He.DefD := ⟨("word_of", none), "word_of", "word_of", defArgs s_word_of, defBody s_word_of, defScope s_word_of, [], []⟩
def d_keys_of : He.DefD := ⟨("keys_of", none), "keys_of", "keys_of", defArgs s_keys_of, defBody s_keys_of, defScope s_keys_of, [], []⟩
def d_key_of : He.DefD := ⟨("key_of", none), "key_of", "key_of", defArgs s_key_of, defBody s_key_of, defScope s_key_of, [], []⟩
def d_signs_of : He.DefD := ⟨("signs_of", none), "signs_of", "signs_of", defArgs s_signs_of, defBody s_signs_of, defScope s_signs_of, [], []⟩
def d_number_of : He.DefD := ⟨("number_of", none), "number_of", "number_of", defArgs s_number_of, defBody s_number_of, defScope s_number_of, [], []⟩
def d__law_mix : He.DefD := ⟨("_law_mix", none), "_law_mix", "_law_mix", defArgs s__law_mix, defBody s__law_mix, defScope s__law_mix, [], []⟩
def d__law_next : He.DefD := ⟨("_law_next", none), "_law_next", "_law_next", defArgs s__law_next, defBody s__law_next, defScope s__law_next, [], []⟩
def d__law_alike : He.DefD := ⟨("_law_alike", none), "_law_alike", "_law_alike", defArgs s__law_alike, defBody s__law_alike, defScope s__law_alike, [], []⟩
def d__law_sign : He.DefD := ⟨("_law_sign", none), "_law_sign", "_law_sign", defArgs s__law_sign, defBody s__law_sign, defScope s__law_sign, [], []⟩
def d__law_text : He.DefD := ⟨("_law_text", none), "_law_text", "_law_text", defArgs s__law_text, defBody s__law_text, defScope s__law_text, [], []⟩
def d__law_single : He.DefD := ⟨("_law_single", none), "_law_single", "_law_single", defArgs s__law_single, defBody s__law_single, defScope s__law_single, [], []⟩
def d__law_key : He.DefD := ⟨("_law_key", none), "_law_key", "_law_key", defArgs s__law_key, defBody s__law_key, defScope s__law_key, [], []⟩
def d__law_tape : He.DefD := ⟨("_law_tape", none), "_law_tape", "_law_tape", defArgs s__law_tape, defBody s__law_tape, defScope s__law_tape, [], []⟩
def d__law_kind : He.DefD := ⟨("_law_kind", none), "_law_kind", "_law_kind", defArgs s__law_kind, defBody s__law_kind, defScope s__law_kind, [], []⟩
def d__law_unquoted : He.DefD := ⟨("_law_unquoted", none), "_law_unquoted", "_law_unquoted", defArgs s__law_unquoted, defBody s__law_unquoted, defScope s__law_unquoted, [], []⟩
def d__law_keys : He.DefD := ⟨("_law_keys", none), "_law_keys", "_law_keys", defArgs s__law_keys, defBody s__law_keys, defScope s__law_keys, [], []⟩
def d__law_due : He.DefD := ⟨("_law_due", none), "_law_due", "_law_due", defArgs s__law_due, defBody s__law_due, defScope s__law_due, [], []⟩
def d__law_spoilt : He.DefD := ⟨("_law_spoilt", none), "_law_spoilt", "_law_spoilt", defArgs s__law_spoilt, defBody s__law_spoilt, defScope s__law_spoilt, [], []⟩
def d_law : He.DefD := ⟨("law", none), "law", "law", defArgs s_law, defBody s_law, defScope s_law, [], []⟩
def fn : List He.DefD := [d_Page___init__, d_are_signs, d_line_at, d_moved, d_with_lines, d_write, d_break_row, d_join_row, d_rub, d_go_left, d_go_right, d_go_to_row, d_go_up, d_go_down, d_go_home, d_go_end, d_take, d_lay, d_is_word, d_is_number, d_is_key, d_check_keys, d_check_each, d_written, d_read, d_rises, d_check_names, d_check_tapes, d_row_of, d_words_of, d_word_of, d_keys_of, d_key_of, d_signs_of, d_number_of, d__law_mix, d__law_next, d__law_alike, d__law_sign, d__law_text, d__law_single, d__law_key, d__law_tape, d__law_kind, d__law_unquoted, d__law_keys, d__law_due, d__law_spoilt, d_law]
def fa : List He.Fa := [.glo "TapeError", .glo "BadText", .glo "BadKey", .glo "BadKeys", .glo "BadName", .glo "BadNames", .glo "BadNumbers", .glo "Taping", .glo "NotTaping", .glo "TooLong", .glo "BadTape", .glo "Page", .glo "are_signs", .glo "line_at", .glo "moved", .glo "with_lines", .glo "write", .glo "break_row", .glo "join_row", .glo "rub", .glo "go_left", .glo "go_right", .glo "go_to_row", .glo "go_up", .glo "go_down", .glo "go_home", .glo "go_end", .glo "take", .glo "lay", .glo "is_word", .glo "is_number", .glo "is_key", .glo "check_keys", .glo "check_each", .glo "written", .glo "read", .glo "rises", .glo "check_names", .glo "check_tapes", .glo "row_of", .glo "words_of", .glo "word_of", .glo "keys_of", .glo "key_of", .glo "signs_of", .glo "number_of", .glo "_law_mix", .glo "_law_next", .glo "_law_alike", .glo "_law_sign", .glo "_law_text", .glo "_law_single", .glo "_law_key", .glo "_law_tape", .glo "_law_kind", .glo "_law_unquoted", .glo "_law_keys", .glo "_law_due", .glo "_law_spoilt", .glo "law", .glo "ACTIONS", .glo "NAMES", .glo "WORDS", .free "all", .free "bool", .free "enumerate", .free "int", .free "isinstance", .free "len", .free "list", .free "max", .free "min", .free "range", .free "str", .free "super", .free "tuple", .free "ValueError", .int "MOST_ROWS" 12, .int "MOST_SIGNS" 60, .int "MOST_KEYS" 30, .int "MOST_TIMES" 9, .int "LONGEST_WORD" 4, .glo "WITH_SIGNS", .exc "BadText", .exc "BadKey", .exc "BadName", .exc "Taping", .exc "NotTaping", .exc "TooLong", .exc "BadNames", .cls "Page", .mkr "Page", .noat "Page" "rows", .noat "Page" "row", .noat "Page" "column", .noat "Page" "clipped"]
def ts : List He.Tab := [((fun K => He.ga K "ACTIONS"), ["break", "rub", "left", "right", "up", "down", "home", "end", "take", "lay"]), ((fun K => He.ga K "WORDS"), ["put", "find", "play", "till"])]
def acts : List (Str × He.Dv) := [("break", .glo "break_row"), ("rub", .glo "rub"), ("left", .glo "go_left"), ("right", .glo "go_right"), ("up", .glo "go_up"), ("down", .glo "go_down"), ("home", .glo "go_home"), ("end", .glo "go_end"), ("take", .glo "take"), ("lay", .glo "lay")]
def ex0 (K : PySem.W.Frag) : Bool := He.tupB K "NAMES" [.str "a", .str "b", .str "c", .str "d", .str "e", .str "f", .str "g", .str "h"] && He.valsB K (He.ga K "ACTIONS") acts
def kinds10 : List Str := ["BadKeys", "BadTape", "BadText", "BadKey", "BadName", "BadNames", "BadNumbers", "Taping", "NotTaping", "TooLong"]
def excs : List Str := kinds10
def excB (K : PySem.W.Frag) (x : Str) : Bool := He.eqO (PySem.W.findIn K (.ref (He.ga K x)) "__getattribute__") (some (some (.builtin "BaseException.__getattribute__"))) && (He.eqO (PySem.W.findIn K (.ref (He.ga K x)) "__getattr__") (some none) && (decide (PySem.W.subIn K (.ref (He.ga K x)) (.type "BaseException") = some true) && (PySem.W.hasDictIn K (He.ga K x) && (He.eqO (PySem.W.findIn K (.ref (He.ga K x)) "__class__") (some (some (.builtin "object.__class__"))) && (He.eqO (PySem.W.specialIn K (.builtin "object.__class__") "__get__") (some (some (.builtin "getset_descriptor.__get__"))) && (decide (PySem.W.takesIn K (.builtin "object.__class__") = some true) && (decide (PySem.W.mroIn K (He.ga K x) (.type "object") = some true) && (kinds10.all (fun y => decide (PySem.W.kitOne K (.ref (He.ga K x)) (.ref (He.ga K y)) = some (decide (x = y)))) && (decide (PySem.W.kitOne K (.ref (He.ga K x)) (.type "ValueError") = some true) && decide (PySem.W.exmOne K (.ref (He.ga K x)) (.ref (He.ga K "TapeError")) = some true))))))))))
def makers : List He.Defn := [("law", none)]
def ex1 (K : PySem.W.Frag) : Bool := excs.all (excB K) && (makers.all fun p => decide ((He.cT K p).2 ≠ (He.cT K ("are_signs", none)).2))
abbrev s_BadKeys___init__ : Stmt := inClass (top 4) 0
abbrev s_BadTape___init__ : Stmt := inClass (top 11) 0
def gens : List He.Defn := [("written", none)]
def ex2 (K : PySem.W.Frag) : Bool := He.tupB K "WITH_SIGNS" [.str "put", .str "find"] && gens.all (fun q => decide ((He.cT K q).2 ≠ (He.cT K ("are_signs", none)).2)) && makers.all (fun p => gens.all fun q => decide ((He.cT K p).2 ≠ (He.cT K q).2)) && supB K (He.ga K "BadKeys") "BadKeys.__init__" (defArgs s_BadKeys___init__) (defBody s_BadKeys___init__) (defScope s_BadKeys___init__) PySem.Challenge.pw_keytape_k13_texts_refused.main.file "at" && supB K (He.ga K "BadTape") "BadTape.__init__" (defArgs s_BadTape___init__) (defBody s_BadTape___init__) (defScope s_BadTape___init__) PySem.Challenge.pw_keytape_k13_texts_refused.main.file "line" && noActs K (He.ga K "ACTIONS") && keysAre K (He.ga K "ACTIONS") ["break", "rub", "left", "right", "up", "down", "home", "end", "take", "lay"] && intsAre K (He.ga K "WORDS") [("put", 2), ("find", 2), ("play", 3), ("till", 2)]
def ex (K : PySem.W.Frag) : Bool := (ex0 K && ex1 K) && ex2 K
def tf : List He.Defn := ("are_signs", none) :: (gens ++ makers)
abbrev R : PySem.W.OpenRow := PySem.W.OpenLaw.row PySem.Challenge.rw_keytape_k13_texts_refused
abbrev hk : PySem.W.Hook := hookS 4 fa fn ts tf ex
def ob (s : PySem.W.SharedT) : He.AlX := obsS 4 fa fn ts tf ex (HandSHeadRun.getT s)
theorem ob_eq (s : PySem.W.SharedT) : ob s = hk.obs s.abs := obsS_eq (HandSHeadRun.getT_eq s)
def lo0 : List Str := ["__name__", "TapeError", "BadText", "BadKey", "BadKeys", "BadName", "BadNames", "BadNumbers", "Taping", "NotTaping", "TooLong", "BadTape", "MOST_ROWS", "MOST_SIGNS", "Page", "are_signs", "line_at", "moved", "with_lines", "write", "break_row", "join_row", "rub", "go_left", "go_right", "go_to_row", "go_up", "go_down", "go_home", "go_end"]
def lo1 : List Str := ["take", "lay", "ACTIONS", "NAMES", "MOST_KEYS", "MOST_TIMES", "LONGEST_WORD", "is_word", "is_number", "is_key", "check_keys", "check_each", "WORDS", "WITH_SIGNS", "written", "read", "rises", "check_names", "check_tapes", "row_of", "words_of", "word_of", "keys_of", "key_of", "signs_of", "number_of", "_law_mix", "_law_next", "_law_alike", "_law_sign"]
def lo2 : List Str := ["_law_text", "_law_single", "_law_key", "_law_tape", "_law_kind", "_law_unquoted", "_law_keys", "_law_due", "_law_spoilt"]
def loose : List Str := lo0 ++ lo1 ++ lo2
structure Tx (w : World) (K : PySem.W.Frag) (mg : Str → Option Value) : Prop where
  ex : ∃ h : Heap, K.In h ∧ h.Ns mainGlobals mg ∧ He.SaysX fa fn ts tf ex w h K
abbrev Ad (K : PySem.W.Frag) (p : Str × Option Str) : Addr := He.fAd K p
def fdOf (K : PySem.W.Frag) (a : Addr) : FuncData := match K.lookup a with
  | some ⟨_, _, .func fd, _⟩ => fd
  | _ => PySem.W.fnOf "" "" ⟨[], [], none, [], [], none, []⟩ [] ⟨.function, [], false, false, []⟩ .none .none .none .none none .none .none
section
variable {w : World} {K : PySem.W.Frag} {mg : Str → Option Value}
abbrev FnT (K : PySem.W.Frag) (d : He.DefD) : Prop := FunD K d.name d.qual d.params d.body d.scope (d.dvs K) (d.kws K) (Ad K d.at_) (fdOf K (Ad K d.at_))
theorem Tx.fn (T : Tx w K mg) (i : Nat) {d : He.DefD} (h : KT.fn[i]? = some d := by rfl) : FnT K d := by
  obtain ⟨_, _, _, c⟩ := T.ex
  obtain ⟨fd, F⟩ := c.t.d.def_ i (d := d) h
  have e : fdOf K (Ad K d.at_) = fd := by
    obtain ⟨oc, od, dV, kV, doc, pm, an, cdv, ct, osl, e, lk, _⟩ := F.ex
    unfold fdOf
    rw [lk]
  unfold FnT
  rw [e]
  exact F
theorem Tx.glo (T : Tx w K mg) (i : Nat) {x : Str} (h : KT.fa[i]? = some (.glo x) := by rfl) : mg x = some (.ref (He.ga K x)) := by
  obtain ⟨_, X, G, c⟩ := T.ex
  exact He.glo_ok X G (c.t.d.fact i h)
theorem Tx.free (T : Tx w K mg) (i : Nat) {x : Str} (h : KT.fa[i]? = some (.free x) := by rfl) : mg x = none := by
  obtain ⟨_, X, G, c⟩ := T.ex
  exact He.free_ok X G (c.t.d.fact i h)
theorem Tx.int (T : Tx w K mg) (i : Nat) {x : Str} {n : Int} (h : KT.fa[i]? = some (.int x n) := by rfl) : ∃ t, mg x = some (.int n t) := by
  obtain ⟨_, X, G, c⟩ := T.ex
  exact He.int_ok X G (c.t.d.fact i h)
theorem Tx.fact (T : Tx w K mg) (i : Nat) {f : He.Fa} (h : KT.fa[i]? = some f := by rfl) : f.ok K = true := by
  obtain ⟨_, _, _, c⟩ := T.ex
  exact c.t.d.fact i h
theorem Tx.more0 (T : Tx w K mg) : ex0 K = true := by
  obtain ⟨_, _, _, c⟩ := T.ex
  have := c.more
  unfold KT.ex at this
  exact (He.ba (He.ba this).1).1
theorem Tx.more1 (T : Tx w K mg) : ex1 K = true := by
  obtain ⟨_, _, _, c⟩ := T.ex
  have := c.more
  unfold KT.ex at this
  exact (He.ba (He.ba this).1).2
theorem Tx.more2 (T : Tx w K mg) : ex2 K = true := by
  obtain ⟨_, _, _, c⟩ := T.ex
  have := c.more
  unfold KT.ex at this
  exact (He.ba this).2
theorem Tx.x0 (T : Tx w K mg) : (He.tupB K "WITH_SIGNS" [.str "put", .str "find"]) = true := by
  have h := T.more2
  unfold ex2 at h
  simp only [Bool.and_eq_true] at h
  exact h.1.1.1.1.1.1.1
abbrev Tx.tupB_WITH_SIGNS (T : Tx w K mg) := T.x0
theorem Tx.x1 (T : Tx w K mg) : (gens.all (fun q => decide ((He.cT K q).2 ≠ (He.cT K ("are_signs", none)).2))) = true := by
  have h := T.more2
  unfold ex2 at h
  simp only [Bool.and_eq_true] at h
  exact h.1.1.1.1.1.1.2
theorem Tx.x2 (T : Tx w K mg) : (makers.all (fun p => gens.all fun q => decide ((He.cT K p).2 ≠ (He.cT K q).2))) = true := by
  have h := T.more2
  unfold ex2 at h
  simp only [Bool.and_eq_true] at h
  exact h.1.1.1.1.1.2
theorem Tx.x3 (T : Tx w K mg) : (supB K (He.ga K "BadKeys") "BadKeys.__init__" (defArgs s_BadKeys___init__) (defBody s_BadKeys___init__) (defScope s_BadKeys___init__) PySem.Challenge.pw_keytape_k13_texts_refused.main.file "at") = true := by
  have h := T.more2
  unfold ex2 at h
  simp only [Bool.and_eq_true] at h
  exact h.1.1.1.1.2
abbrev Tx.supB_BadKeys (T : Tx w K mg) := T.x3
theorem Tx.x4 (T : Tx w K mg) : (supB K (He.ga K "BadTape") "BadTape.__init__" (defArgs s_BadTape___init__) (defBody s_BadTape___init__) (defScope s_BadTape___init__) PySem.Challenge.pw_keytape_k13_texts_refused.main.file "line") = true := by
  have h := T.more2
  unfold ex2 at h
  simp only [Bool.and_eq_true] at h
  exact h.1.1.1.2
abbrev Tx.supB_BadTape (T : Tx w K mg) := T.x4
theorem Tx.x5 (T : Tx w K mg) : (noActs K (He.ga K "ACTIONS")) = true := by
  have h := T.more2
  unfold ex2 at h
  simp only [Bool.and_eq_true] at h
  exact h.1.1.2
abbrev Tx.noActs (T : Tx w K mg) := T.x5
theorem Tx.x6 (T : Tx w K mg) : (keysAre K (He.ga K "ACTIONS") ["break", "rub", "left", "right", "up", "down", "home", "end", "take", "lay"]) = true := by
  have h := T.more2
  unfold ex2 at h
  simp only [Bool.and_eq_true] at h
  exact h.1.2
abbrev Tx.keysAre (T : Tx w K mg) := T.x6
theorem Tx.x7 (T : Tx w K mg) : (intsAre K (He.ga K "WORDS") [("put", 2), ("find", 2), ("play", 3), ("till", 2)]) = true := by
  have h := T.more2
  unfold ex2 at h
  simp only [Bool.and_eq_true] at h
  exact h.2
abbrev Tx.intsAre (T : Tx w K mg) := T.x7
theorem Tx.f_Page___init__ (T : Tx w K mg) : FnT K d_Page___init__ := T.fn 0
theorem Tx.f_are_signs (T : Tx w K mg) : FnT K d_are_signs := T.fn 1
theorem Tx.f_line_at (T : Tx w K mg) : FnT K d_line_at := T.fn 2
theorem Tx.f_moved (T : Tx w K mg) : FnT K d_moved := T.fn 3
theorem Tx.f_with_lines (T : Tx w K mg) : FnT K d_with_lines := T.fn 4
theorem Tx.f_write (T : Tx w K mg) : FnT K d_write := T.fn 5
theorem Tx.f_break_row (T : Tx w K mg) : FnT K d_break_row := T.fn 6
theorem Tx.f_join_row (T : Tx w K mg) : FnT K d_join_row := T.fn 7
theorem Tx.f_rub (T : Tx w K mg) : FnT K d_rub := T.fn 8
theorem Tx.f_go_left (T : Tx w K mg) : FnT K d_go_left := T.fn 9
theorem Tx.f_go_right (T : Tx w K mg) : FnT K d_go_right := T.fn 10
theorem Tx.f_go_to_row (T : Tx w K mg) : FnT K d_go_to_row := T.fn 11
theorem Tx.f_go_up (T : Tx w K mg) : FnT K d_go_up := T.fn 12
theorem Tx.f_go_down (T : Tx w K mg) : FnT K d_go_down := T.fn 13
theorem Tx.f_go_home (T : Tx w K mg) : FnT K d_go_home := T.fn 14
theorem Tx.f_go_end (T : Tx w K mg) : FnT K d_go_end := T.fn 15
theorem Tx.f_take (T : Tx w K mg) : FnT K d_take := T.fn 16
theorem Tx.f_lay (T : Tx w K mg) : FnT K d_lay := T.fn 17
theorem Tx.f_is_word (T : Tx w K mg) : FnT K d_is_word := T.fn 18
theorem Tx.f_is_number (T : Tx w K mg) : FnT K d_is_number := T.fn 19
theorem Tx.f_is_key (T : Tx w K mg) : FnT K d_is_key := T.fn 20
theorem Tx.f_check_keys (T : Tx w K mg) : FnT K d_check_keys := T.fn 21
theorem Tx.f_check_each (T : Tx w K mg) : FnT K d_check_each := T.fn 22
theorem Tx.f_written (T : Tx w K mg) : FnT K d_written := T.fn 23
theorem Tx.f_read (T : Tx w K mg) : FnT K d_read := T.fn 24
theorem Tx.f_rises (T : Tx w K mg) : FnT K d_rises := T.fn 25
theorem Tx.f_check_names (T : Tx w K mg) : FnT K d_check_names := T.fn 26
theorem Tx.f_check_tapes (T : Tx w K mg) : FnT K d_check_tapes := T.fn 27
theorem Tx.f_row_of (T : Tx w K mg) : FnT K d_row_of := T.fn 28
theorem Tx.f_words_of (T : Tx w K mg) : FnT K d_words_of := T.fn 29
theorem Tx.f_word_of (T : Tx w K mg) : FnT K d_word_of := T.fn 30
theorem Tx.f_keys_of (T : Tx w K mg) : FnT K d_keys_of := T.fn 31
theorem Tx.f_key_of (T : Tx w K mg) : FnT K d_key_of := T.fn 32
theorem Tx.f_signs_of (T : Tx w K mg) : FnT K d_signs_of := T.fn 33
theorem Tx.f_number_of (T : Tx w K mg) : FnT K d_number_of := T.fn 34
theorem Tx.f__law_mix (T : Tx w K mg) : FnT K d__law_mix := T.fn 35
theorem Tx.f__law_next (T : Tx w K mg) : FnT K d__law_next := T.fn 36
theorem Tx.f__law_alike (T : Tx w K mg) : FnT K d__law_alike := T.fn 37
theorem Tx.f__law_sign (T : Tx w K mg) : FnT K d__law_sign := T.fn 38
theorem Tx.f__law_text (T : Tx w K mg) : FnT K d__law_text := T.fn 39
theorem Tx.f__law_single (T : Tx w K mg) : FnT K d__law_single := T.fn 40
theorem Tx.f__law_key (T : Tx w K mg) : FnT K d__law_key := T.fn 41
theorem Tx.f__law_tape (T : Tx w K mg) : FnT K d__law_tape := T.fn 42
theorem Tx.f__law_kind (T : Tx w K mg) : FnT K d__law_kind := T.fn 43
theorem Tx.f__law_unquoted (T : Tx w K mg) : FnT K d__law_unquoted := T.fn 44
theorem Tx.f__law_keys (T : Tx w K mg) : FnT K d__law_keys := T.fn 45
theorem Tx.f__law_due (T : Tx w K mg) : FnT K d__law_due := T.fn 46
theorem Tx.f__law_spoilt (T : Tx w K mg) : FnT K d__law_spoilt := T.fn 47
theorem Tx.f_law (T : Tx w K mg) : FnT K d_law := T.fn 48
theorem Tx.g_TapeError (T : Tx w K mg) : mg "TapeError" = some (.ref (He.ga K "TapeError")) := T.glo 0
theorem Tx.g_BadText (T : Tx w K mg) : mg "BadText" = some (.ref (He.ga K "BadText")) := T.glo 1
theorem Tx.g_BadKey (T : Tx w K mg) : mg "BadKey" = some (.ref (He.ga K "BadKey")) := T.glo 2
theorem Tx.g_BadKeys (T : Tx w K mg) : mg "BadKeys" = some (.ref (He.ga K "BadKeys")) := T.glo 3
theorem Tx.g_BadName (T : Tx w K mg) : mg "BadName" = some (.ref (He.ga K "BadName")) := T.glo 4
theorem Tx.g_BadNames (T : Tx w K mg) : mg "BadNames" = some (.ref (He.ga K "BadNames")) := T.glo 5
theorem Tx.g_BadNumbers (T : Tx w K mg) : mg "BadNumbers" = some (.ref (He.ga K "BadNumbers")) := T.glo 6
theorem Tx.g_Taping (T : Tx w K mg) : mg "Taping" = some (.ref (He.ga K "Taping")) := T.glo 7
theorem Tx.g_NotTaping (T : Tx w K mg) : mg "NotTaping" = some (.ref (He.ga K "NotTaping")) := T.glo 8
theorem Tx.g_TooLong (T : Tx w K mg) : mg "TooLong" = some (.ref (He.ga K "TooLong")) := T.glo 9
theorem Tx.g_BadTape (T : Tx w K mg) : mg "BadTape" = some (.ref (He.ga K "BadTape")) := T.glo 10
theorem Tx.g_Page (T : Tx w K mg) : mg "Page" = some (.ref (He.ga K "Page")) := T.glo 11
theorem Tx.g_are_signs (T : Tx w K mg) : mg "are_signs" = some (.ref (He.ga K "are_signs")) := T.glo 12
theorem Tx.g_line_at (T : Tx w K mg) : mg "line_at" = some (.ref (He.ga K "line_at")) := T.glo 13
theorem Tx.g_moved (T : Tx w K mg) : mg "moved" = some (.ref (He.ga K "moved")) := T.glo 14
theorem Tx.g_with_lines (T : Tx w K mg) : mg "with_lines" = some (.ref (He.ga K "with_lines")) := T.glo 15
theorem Tx.g_write (T : Tx w K mg) : mg "write" = some (.ref (He.ga K "write")) := T.glo 16
theorem Tx.g_break_row (T : Tx w K mg) : mg "break_row" = some (.ref (He.ga K "break_row")) := T.glo 17
theorem Tx.g_join_row (T : Tx w K mg) : mg "join_row" = some (.ref (He.ga K "join_row")) := T.glo 18
theorem Tx.g_rub (T : Tx w K mg) : mg "rub" = some (.ref (He.ga K "rub")) := T.glo 19
theorem Tx.g_go_left (T : Tx w K mg) : mg "go_left" = some (.ref (He.ga K "go_left")) := T.glo 20
theorem Tx.g_go_right (T : Tx w K mg) : mg "go_right" = some (.ref (He.ga K "go_right")) := T.glo 21
theorem Tx.g_go_to_row (T : Tx w K mg) : mg "go_to_row" = some (.ref (He.ga K "go_to_row")) := T.glo 22
theorem Tx.g_go_up (T : Tx w K mg) : mg "go_up" = some (.ref (He.ga K "go_up")) := T.glo 23
theorem Tx.g_go_down (T : Tx w K mg) : mg "go_down" = some (.ref (He.ga K "go_down")) := T.glo 24
theorem Tx.g_go_home (T : Tx w K mg) : mg "go_home" = some (.ref (He.ga K "go_home")) := T.glo 25
theorem Tx.g_go_end (T : Tx w K mg) : mg "go_end" = some (.ref (He.ga K "go_end")) := T.glo 26
theorem Tx.g_take (T : Tx w K mg) : mg "take" = some (.ref (He.ga K "take")) := T.glo 27
theorem Tx.g_lay (T : Tx w K mg) : mg "lay" = some (.ref (He.ga K "lay")) := T.glo 28
theorem Tx.g_is_word (T : Tx w K mg) : mg "is_word" = some (.ref (He.ga K "is_word")) := T.glo 29
theorem Tx.g_is_number (T : Tx w K mg) : mg "is_number" = some (.ref (He.ga K "is_number")) := T.glo 30
theorem Tx.g_is_key (T : Tx w K mg) : mg "is_key" = some (.ref (He.ga K "is_key")) := T.glo 31
theorem Tx.g_check_keys (T : Tx w K mg) : mg "check_keys" = some (.ref (He.ga K "check_keys")) := T.glo 32
theorem Tx.g_check_each (T : Tx w K mg) : mg "check_each" = some (.ref (He.ga K "check_each")) := T.glo 33
theorem Tx.g_written (T : Tx w K mg) : mg "written" = some (.ref (He.ga K "written")) := T.glo 34
theorem Tx.g_read (T : Tx w K mg) : mg "read" = some (.ref (He.ga K "read")) := T.glo 35
theorem Tx.g_rises (T : Tx w K mg) : mg "rises" = some (.ref (He.ga K "rises")) := T.glo 36
theorem Tx.g_check_names (T : Tx w K mg) : mg "check_names" = some (.ref (He.ga K "check_names")) := T.glo 37
theorem Tx.g_check_tapes (T : Tx w K mg) : mg "check_tapes" = some (.ref (He.ga K "check_tapes")) := T.glo 38
theorem Tx.g_row_of (T : Tx w K mg) : mg "row_of" = some (.ref (He.ga K "row_of")) := T.glo 39
theorem Tx.g_words_of (T : Tx w K mg) : mg "words_of" = some (.ref (He.ga K "words_of")) := T.glo 40
theorem Tx.g_word_of (T : Tx w K mg) : mg "word_of" = some (.ref (He.ga K "word_of")) := T.glo 41
theorem Tx.g_keys_of (T : Tx w K mg) : mg "keys_of" = some (.ref (He.ga K "keys_of")) := T.glo 42
theorem Tx.g_key_of (T : Tx w K mg) : mg "key_of" = some (.ref (He.ga K "key_of")) := T.glo 43
theorem Tx.g_signs_of (T : Tx w K mg) : mg "signs_of" = some (.ref (He.ga K "signs_of")) := T.glo 44
theorem Tx.g_number_of (T : Tx w K mg) : mg "number_of" = some (.ref (He.ga K "number_of")) := T.glo 45
theorem Tx.g__law_mix (T : Tx w K mg) : mg "_law_mix" = some (.ref (He.ga K "_law_mix")) := T.glo 46
theorem Tx.g__law_next (T : Tx w K mg) : mg "_law_next" = some (.ref (He.ga K "_law_next")) := T.glo 47
theorem Tx.g__law_alike (T : Tx w K mg) : mg "_law_alike" = some (.ref (He.ga K "_law_alike")) := T.glo 48
theorem Tx.g__law_sign (T : Tx w K mg) : mg "_law_sign" = some (.ref (He.ga K "_law_sign")) := T.glo 49
theorem Tx.g__law_text (T : Tx w K mg) : mg "_law_text" = some (.ref (He.ga K "_law_text")) := T.glo 50
theorem Tx.g__law_single (T : Tx w K mg) : mg "_law_single" = some (.ref (He.ga K "_law_single")) := T.glo 51
theorem Tx.g__law_key (T : Tx w K mg) : mg "_law_key" = some (.ref (He.ga K "_law_key")) := T.glo 52
theorem Tx.g__law_tape (T : Tx w K mg) : mg "_law_tape" = some (.ref (He.ga K "_law_tape")) := T.glo 53
theorem Tx.g__law_kind (T : Tx w K mg) : mg "_law_kind" = some (.ref (He.ga K "_law_kind")) := T.glo 54
theorem Tx.g__law_unquoted (T : Tx w K mg) : mg "_law_unquoted" = some (.ref (He.ga K "_law_unquoted")) := T.glo 55
theorem Tx.g__law_keys (T : Tx w K mg) : mg "_law_keys" = some (.ref (He.ga K "_law_keys")) := T.glo 56
theorem Tx.g__law_due (T : Tx w K mg) : mg "_law_due" = some (.ref (He.ga K "_law_due")) := T.glo 57
theorem Tx.g__law_spoilt (T : Tx w K mg) : mg "_law_spoilt" = some (.ref (He.ga K "_law_spoilt")) := T.glo 58
theorem Tx.g_law (T : Tx w K mg) : mg "law" = some (.ref (He.ga K "law")) := T.glo 59
theorem Tx.g_ACTIONS (T : Tx w K mg) : mg "ACTIONS" = some (.ref (He.ga K "ACTIONS")) := T.glo 60
theorem Tx.g_NAMES (T : Tx w K mg) : mg "NAMES" = some (.ref (He.ga K "NAMES")) := T.glo 61
theorem Tx.g_WORDS (T : Tx w K mg) : mg "WORDS" = some (.ref (He.ga K "WORDS")) := T.glo 62
theorem Tx.n_all (T : Tx w K mg) : mg "all" = none := T.free 63
theorem Tx.n_bool (T : Tx w K mg) : mg "bool" = none := T.free 64
theorem Tx.n_enumerate (T : Tx w K mg) : mg "enumerate" = none := T.free 65
theorem Tx.n_int (T : Tx w K mg) : mg "int" = none := T.free 66
theorem Tx.n_isinstance (T : Tx w K mg) : mg "isinstance" = none := T.free 67
theorem Tx.n_len (T : Tx w K mg) : mg "len" = none := T.free 68
theorem Tx.n_list (T : Tx w K mg) : mg "list" = none := T.free 69
theorem Tx.n_max (T : Tx w K mg) : mg "max" = none := T.free 70
theorem Tx.n_min (T : Tx w K mg) : mg "min" = none := T.free 71
theorem Tx.n_range (T : Tx w K mg) : mg "range" = none := T.free 72
theorem Tx.n_str (T : Tx w K mg) : mg "str" = none := T.free 73
theorem Tx.n_super (T : Tx w K mg) : mg "super" = none := T.free 74
theorem Tx.n_tuple (T : Tx w K mg) : mg "tuple" = none := T.free 75
theorem Tx.n_ValueError (T : Tx w K mg) : mg "ValueError" = none := T.free 76
theorem Tx.i_MOST_ROWS (T : Tx w K mg) : ∃ t, mg "MOST_ROWS" = some (.int 12 t) := T.int 77
theorem Tx.i_MOST_SIGNS (T : Tx w K mg) : ∃ t, mg "MOST_SIGNS" = some (.int 60 t) := T.int 78
theorem Tx.i_MOST_KEYS (T : Tx w K mg) : ∃ t, mg "MOST_KEYS" = some (.int 30 t) := T.int 79
theorem Tx.i_MOST_TIMES (T : Tx w K mg) : ∃ t, mg "MOST_TIMES" = some (.int 9 t) := T.int 80
theorem Tx.i_LONGEST_WORD (T : Tx w K mg) : ∃ t, mg "LONGEST_WORD" = some (.int 4 t) := T.int 81
theorem Tx.g_WITH_SIGNS (T : Tx w K mg) : mg "WITH_SIGNS" = some (.ref (He.ga K "WITH_SIGNS")) := T.glo 82
theorem Tx.e_BadText (T : Tx w K mg) : PySem.W.excIn K (He.ga K "BadText") He.veBase "ValueError.__new__" = true ∧ PySem.W.keepIn K (.ref (He.ga K "BadText")) = true ∧ PySem.W.subIn K (.ref (He.ga K "BadText")) (.type "BaseException") = some true ∧ PySem.W.typeIn K (.ref (He.ga K "BadText")) = some (.type "type") := He.exc_ok (T.fact 83 (f := .exc "BadText"))
theorem pmk_BadText {P : Program} {base : Heap} {N : List Str} {d : He.DefD} {cdv : Value} {A : Around} {outer : List Env} {s : Shared} {H : Hp} {E : XK} {m : Str} {j : Nat} {p p2 pos : Pos} (T : Tx w K mg) (hg : Gl (cxOf (L2.CX P w) P w K mg base N d.qual d.scope (Ad K d.at_) cdv A outer s H E) "BadText") : PMk (cxOf (L2.CX P w) P w K mg base N d.qual d.scope (Ad K d.at_) cdv A outer s H E) (.Call (.Name "BadText" p) [.Constant (.str m) j p2] [] pos) (fun _ H Q => Q (.ref (He.ga K "BadText")) none H) := pmk_own PySem.F.excBase_ValueError T.e_BadText.1 T.g_BadText T.e_BadText.2.1 (raises_own T.e_BadText.2.2.1 T.e_BadText.2.2.2) hg
theorem Tx.e_BadKey (T : Tx w K mg) : PySem.W.excIn K (He.ga K "BadKey") He.veBase "ValueError.__new__" = true ∧ PySem.W.keepIn K (.ref (He.ga K "BadKey")) = true ∧ PySem.W.subIn K (.ref (He.ga K "BadKey")) (.type "BaseException") = some true ∧ PySem.W.typeIn K (.ref (He.ga K "BadKey")) = some (.type "type") := He.exc_ok (T.fact 84 (f := .exc "BadKey"))
theorem pmk_BadKey {P : Program} {base : Heap} {N : List Str} {d : He.DefD} {cdv : Value} {A : Around} {outer : List Env} {s : Shared} {H : Hp} {E : XK} {m : Str} {j : Nat} {p p2 pos : Pos} (T : Tx w K mg) (hg : Gl (cxOf (L2.CX P w) P w K mg base N d.qual d.scope (Ad K d.at_) cdv A outer s H E) "BadKey") : PMk (cxOf (L2.CX P w) P w K mg base N d.qual d.scope (Ad K d.at_) cdv A outer s H E) (.Call (.Name "BadKey" p) [.Constant (.str m) j p2] [] pos) (fun _ H Q => Q (.ref (He.ga K "BadKey")) none H) := pmk_own PySem.F.excBase_ValueError T.e_BadKey.1 T.g_BadKey T.e_BadKey.2.1 (raises_own T.e_BadKey.2.2.1 T.e_BadKey.2.2.2) hg
theorem Tx.e_BadName (T : Tx w K mg) : PySem.W.excIn K (He.ga K "BadName") He.veBase "ValueError.__new__" = true ∧ PySem.W.keepIn K (.ref (He.ga K "BadName")) = true ∧ PySem.W.subIn K (.ref (He.ga K "BadName")) (.type "BaseException") = some true ∧ PySem.W.typeIn K (.ref (He.ga K "BadName")) = some (.type "type") := He.exc_ok (T.fact 85 (f := .exc "BadName"))
theorem pmk_BadName {P : Program} {base : Heap} {N : List Str} {d : He.DefD} {cdv : Value} {A : Around} {outer : List Env} {s : Shared} {H : Hp} {E : XK} {m : Str} {j : Nat} {p p2 pos : Pos} (T : Tx w K mg) (hg : Gl (cxOf (L2.CX P w) P w K mg base N d.qual d.scope (Ad K d.at_) cdv A outer s H E) "BadName") : PMk (cxOf (L2.CX P w) P w K mg base N d.qual d.scope (Ad K d.at_) cdv A outer s H E) (.Call (.Name "BadName" p) [.Constant (.str m) j p2] [] pos) (fun _ H Q => Q (.ref (He.ga K "BadName")) none H) := pmk_own PySem.F.excBase_ValueError T.e_BadName.1 T.g_BadName T.e_BadName.2.1 (raises_own T.e_BadName.2.2.1 T.e_BadName.2.2.2) hg
theorem Tx.e_Taping (T : Tx w K mg) : PySem.W.excIn K (He.ga K "Taping") He.veBase "ValueError.__new__" = true ∧ PySem.W.keepIn K (.ref (He.ga K "Taping")) = true ∧ PySem.W.subIn K (.ref (He.ga K "Taping")) (.type "BaseException") = some true ∧ PySem.W.typeIn K (.ref (He.ga K "Taping")) = some (.type "type") := He.exc_ok (T.fact 86 (f := .exc "Taping"))
theorem pmk_Taping {P : Program} {base : Heap} {N : List Str} {d : He.DefD} {cdv : Value} {A : Around} {outer : List Env} {s : Shared} {H : Hp} {E : XK} {m : Str} {j : Nat} {p p2 pos : Pos} (T : Tx w K mg) (hg : Gl (cxOf (L2.CX P w) P w K mg base N d.qual d.scope (Ad K d.at_) cdv A outer s H E) "Taping") : PMk (cxOf (L2.CX P w) P w K mg base N d.qual d.scope (Ad K d.at_) cdv A outer s H E) (.Call (.Name "Taping" p) [.Constant (.str m) j p2] [] pos) (fun _ H Q => Q (.ref (He.ga K "Taping")) none H) := pmk_own PySem.F.excBase_ValueError T.e_Taping.1 T.g_Taping T.e_Taping.2.1 (raises_own T.e_Taping.2.2.1 T.e_Taping.2.2.2) hg
theorem Tx.e_NotTaping (T : Tx w K mg) : PySem.W.excIn K (He.ga K "NotTaping") He.veBase "ValueError.__new__" = true ∧ PySem.W.keepIn K (.ref (He.ga K "NotTaping")) = true ∧ PySem.W.subIn K (.ref (He.ga K "NotTaping")) (.type "BaseException") = some true ∧ PySem.W.typeIn K (.ref (He.ga K "NotTaping")) = some (.type "type") := He.exc_ok (T.fact 87 (f := .exc "NotTaping"))
theorem pmk_NotTaping {P : Program} {base : Heap} {N : List Str} {d : He.DefD} {cdv : Value} {A : Around} {outer : List Env} {s : Shared} {H : Hp} {E : XK} {m : Str} {j : Nat} {p p2 pos : Pos} (T : Tx w K mg) (hg : Gl (cxOf (L2.CX P w) P w K mg base N d.qual d.scope (Ad K d.at_) cdv A outer s H E) "NotTaping") : PMk (cxOf (L2.CX P w) P w K mg base N d.qual d.scope (Ad K d.at_) cdv A outer s H E) (.Call (.Name "NotTaping" p) [.Constant (.str m) j p2] [] pos) (fun _ H Q => Q (.ref (He.ga K "NotTaping")) none H) := pmk_own PySem.F.excBase_ValueError T.e_NotTaping.1 T.g_NotTaping T.e_NotTaping.2.1 (raises_own T.e_NotTaping.2.2.1 T.e_NotTaping.2.2.2) hg
theorem Tx.e_TooLong (T : Tx w K mg) : PySem.W.excIn K (He.ga K "TooLong") He.veBase "ValueError.__new__" = true ∧ PySem.W.keepIn K (.ref (He.ga K "TooLong")) = true ∧ PySem.W.subIn K (.ref (He.ga K "TooLong")) (.type "BaseException") = some true ∧ PySem.W.typeIn K (.ref (He.ga K "TooLong")) = some (.type "type") := He.exc_ok (T.fact 88 (f := .exc "TooLong"))
theorem pmk_TooLong {P : Program} {base : Heap} {N : List Str} {d : He.DefD} {cdv : Value} {A : Around} {outer : List Env} {s : Shared} {H : Hp} {E : XK} {m : Str} {j : Nat} {p p2 pos : Pos} (T : Tx w K mg) (hg : Gl (cxOf (L2.CX P w) P w K mg base N d.qual d.scope (Ad K d.at_) cdv A outer s H E) "TooLong") : PMk (cxOf (L2.CX P w) P w K mg base N d.qual d.scope (Ad K d.at_) cdv A outer s H E) (.Call (.Name "TooLong" p) [.Constant (.str m) j p2] [] pos) (fun _ H Q => Q (.ref (He.ga K "TooLong")) none H) := pmk_own PySem.F.excBase_ValueError T.e_TooLong.1 T.g_TooLong T.e_TooLong.2.1 (raises_own T.e_TooLong.2.2.1 T.e_TooLong.2.2.2) hg
theorem Tx.e_BadNames (T : Tx w K mg) : PySem.W.excIn K (He.ga K "BadNames") He.veBase "ValueError.__new__" = true ∧ PySem.W.keepIn K (.ref (He.ga K "BadNames")) = true ∧ PySem.W.subIn K (.ref (He.ga K "BadNames")) (.type "BaseException") = some true ∧ PySem.W.typeIn K (.ref (He.ga K "BadNames")) = some (.type "type") := He.exc_ok (T.fact 89 (f := .exc "BadNames"))
theorem pmk_BadNames {P : Program} {base : Heap} {N : List Str} {d : He.DefD} {cdv : Value} {A : Around} {outer : List Env} {s : Shared} {H : Hp} {E : XK} {m : Str} {j : Nat} {p p2 pos : Pos} (T : Tx w K mg) (hg : Gl (cxOf (L2.CX P w) P w K mg base N d.qual d.scope (Ad K d.at_) cdv A outer s H E) "BadNames") : PMk (cxOf (L2.CX P w) P w K mg base N d.qual d.scope (Ad K d.at_) cdv A outer s H E) (.Call (.Name "BadNames" p) [.Constant (.str m) j p2] [] pos) (fun _ H Q => Q (.ref (He.ga K "BadNames")) none H) := pmk_own PySem.F.excBase_ValueError T.e_BadNames.1 T.g_BadNames T.e_BadNames.2.1 (raises_own T.e_BadNames.2.2.1 T.e_BadNames.2.2.2) hg
theorem Tx.c_Page (T : Tx w K mg) : Cls K (He.ga K "Page") := He.cls_ok (T.fact 90)
theorem Tx.k_Page (T : Tx w K mg) : Mk K (He.ga K "Page") (Ad K ("Page", some "__init__")) := He.mkr_ok (T.fact 91)
theorem Tx.a_Page_rows (T : Tx w K mg) : NoAttr K (He.ga K "Page") "rows" := He.noat_ok (T.fact 92)
theorem Tx.a_Page_row (T : Tx w K mg) : NoAttr K (He.ga K "Page") "row" := He.noat_ok (T.fact 93)
theorem Tx.a_Page_column (T : Tx w K mg) : NoAttr K (He.ga K "Page") "column" := He.noat_ok (T.fact 94)
theorem Tx.a_Page_clipped (T : Tx w K mg) : NoAttr K (He.ga K "Page") "clipped" := He.noat_ok (T.fact 95)
end
end KT
set_option linter.all false
namespace KT
abbrev Ln := List Nat
/-! ### pages -/
structure Pg where
  rows : List Ln
  row : Nat
  col : Nat
  clip : Ln
def Pg.line (g : Pg) : Ln := g.rows.getD g.row []
abbrev okSign (c : Nat) : Prop := 32 ≤ c ∧ c ≤ 126
/-- what a page of the program is like -/
structure Pg.Ok (g : Pg) : Prop where
  many : g.rows.length ≤ 12
  long : ∀ l ∈ g.rows, l.length ≤ 60
  row : g.row < g.rows.length
  col : g.col ≤ g.line.length
  clip : g.clip.length ≤ 60
  sig : ∀ l ∈ g.rows, ∀ c ∈ l, okSign c
  csig : ∀ c ∈ g.clip, okSign c
/-- other lines for so many rows -/
def Pg.others (g : Pg) (f n : Nat) (ls : List Ln) : List Ln := g.rows.take f ++ ls ++ g.rows.drop (f + n)
def Pg.write (s : Ln) (g : Pg) : Option Pg :=
  if 60 < g.line.length + s.length then none else some { rows := g.others g.row 1 [g.line.take g.col ++ s ++ g.line.drop g.col], row := g.row, col := g.col + s.length, clip := g.clip }
def Pg.brk (g : Pg) : Option Pg :=
  if 12 ≤ g.rows.length then none else some { rows := g.others g.row 1 [g.line.take g.col, g.line.drop g.col], row := g.row + 1, col := 0, clip := g.clip }
def Pg.join (g : Pg) : Option Pg :=
  if g.row = 0 then none else
  if 60 < (g.rows.getD (g.row - 1) [] ++ g.line).length then none else
  some { rows := g.others (g.row - 1) 2 [g.rows.getD (g.row - 1) [] ++ g.line], row := g.row - 1, col := (g.rows.getD (g.row - 1) []).length, clip := g.clip }
def Pg.rub (g : Pg) : Option Pg :=
  if g.col = 0 then g.join else some { rows := g.others g.row 1 [g.line.take (g.col - 1) ++ g.line.drop g.col], row := g.row, col := g.col - 1, clip := g.clip }
def Pg.at_ (g : Pg) (r c : Nat) : Pg := { g with row := r, col := c }
def Pg.left (g : Pg) : Option Pg :=
  if 0 < g.col then some (g.at_ g.row (g.col - 1)) else if g.row = 0 then none else some (g.at_ (g.row - 1) (g.rows.getD (g.row - 1) []).length)
def Pg.right (g : Pg) : Option Pg :=
  if g.col < g.line.length then some (g.at_ g.row (g.col + 1)) else if g.row + 1 = g.rows.length then none else some (g.at_ (g.row + 1) 0)
def Pg.toRow (i : Int) (g : Pg) : Option Pg :=
  if i < 0 ∨ (g.rows.length : Int) ≤ i then none else some (g.at_ i.toNat (min g.col (g.rows.getD i.toNat []).length))
def Pg.up (g : Pg) : Option Pg := g.toRow ((g.row : Int) - 1)
def Pg.down (g : Pg) : Option Pg := g.toRow ((g.row : Int) + 1)
def Pg.home (g : Pg) : Option Pg := some (g.at_ g.row 0)
def Pg.end_ (g : Pg) : Option Pg := some (g.at_ g.row g.line.length)
/-- w stands in l at c -/
def stands (w l : Ln) (c : Nat) : Bool := decide (c + w.length ≤ l.length) && decide ((l.drop c).take w.length = w)
/-- the first place from c on, n places looked at -/
def firstAt (w l : Ln) : Nat → Nat → Option Nat
  | _, 0 => none
  | c, n + 1 => if stands w l c then some c else firstAt w l (c + 1) n
def findL (w l : Ln) (c : Nat) : Option Nat := firstAt w l c (l.length + 1 - c)
def seek (w : Ln) : List Ln → Nat → Nat → Option (Nat × Nat)
  | [], _, _ => none
  | l :: r, k, c => match findL w l c with
    | some j => some (k, j)
    | none => seek w r (k + 1) 0
def Pg.find (w : Ln) (g : Pg) : Option Pg := (seek w (g.rows.drop g.row) g.row (g.col + 1)).map fun p => g.at_ p.1 p.2
def isLet (c : Nat) : Bool := decide (97 ≤ c) && decide (c ≤ 122)
def lets (l : Ln) : Nat := (l.takeWhile isLet).length
def Pg.take (g : Pg) : Option Pg :=
  let m := lets (g.line.drop g.col)
  if m = 0 then none else some { rows := g.others g.row 1 [g.line.take g.col ++ g.line.drop (g.col + m)], row := g.row, col := g.col, clip := (g.line.drop g.col).take m }
def Pg.lay (g : Pg) : Option Pg := if g.clip = [] then none else g.write g.clip
/-! ### keys -/
inductive Ky where
  | put (s : Ln) | find (w : Ln)
  | brk | rub | left | right | up | down | home | end_ | take | lay
  | play (n : Nat) (many : Nat) | till (n : Nat)
  deriving DecidableEq
/-- what the program takes for a key -/
def Ky.Ok : Ky → Prop
  | .put s => s.length = 1 ∧ ∀ c ∈ s, okSign c
  | .find s => 1 ≤ s.length ∧ s.length ≤ 4 ∧ ∀ c ∈ s, okSign c
  | .play n m => n < 8 ∧ 1 ≤ m ∧ m ≤ 9
  | .till n => n < 8
  | _ => True
/-- it plays nothing -/
def Ky.single : Ky → Bool
  | .play _ _ => false
  | .till _ => false
  | _ => true
/-- a key that plays no tape -/
def Pg.does (g : Pg) : Ky → Option Pg
  | .put s => g.write s
  | .find w => g.find w
  | .brk => g.brk
  | .rub => g.rub
  | .left => g.left
  | .right => g.right
  | .up => g.up
  | .down => g.down
  | .home => g.home
  | .end_ => g.end_
  | .take => g.take
  | .lay => g.lay
  | _ => none
end KT
namespace KT
/-! ### playing -/
/-- what a player is at -/
structure PSt where
  page : Pg
  typed : List Ky
  things : Nat
inductive Res where
  | long
  | fin (fits : Bool) (st : PSt)
def addT (st : PSt) : Option PSt := if st.things < 400 then some { st with things := st.things + 1 } else none
/-- keys in turn, up to one that doesn't fit -/
def keysR (f : Ky → PSt → Res) : List Ky → PSt → Res
  | [], st => .fin true st
  | k :: ks, st => match f k st with
    | .fin true st' => keysR f ks st'
    | r => r
/-- a tape, once more -/
def once (f : Ky → PSt → Res) (ks : List Ky) (st : PSt) : Res := match addT st with
  | none => .long
  | some st' => keysR f ks st'
def timesR (g : PSt → Res) : Nat → PSt → Res
  | 0, st => .fin true st
  | m + 1, st => match g st with
    | .fin true st' => timesR g m st'
    | r => r
def tillR (g : PSt → Res) : Nat → PSt → Res
  | 0, _ => .long
  | n + 1, st => match g st with
    | .fin true st' => tillR g n st'
    | .fin false st' => .fin true st'
    | .long => .long
/-- a key that plays nothing -/
def singleR (k : Ky) (st : PSt) : Res := match st.page.does k with
  | none => .fin false st
  | some g => .fin true ⟨g, st.typed ++ [k], st.things⟩
/-- what a play or till does, with so many others yet allowed around -/
def playR (tp : Nat → List Ky) (o : Option (Ky → PSt → Res)) (k : Ky) (st : PSt) : Res := match k with
  | .play n m => match o with
    | none => .fin false st
    | some f => timesR (once f (tp n)) m st
  | .till n => match o with
    | none => .fin false st
    | some f => tillR (once f (tp n)) 401 st
  | k => singleR k st
def doK (tp : Nat → List Ky) : Nat → Ky → PSt → Res
  | 0, k, st => match addT st with
    | none => .long
    | some st' => playR tp none k st'
  | d + 1, k, st => match addT st with
    | none => .long
    | some st' => playR tp (some (doK tp d)) k st'
/-- below the play or till at d others -/
def under (tp : Nat → List Ky) : Nat → Option (Ky → PSt → Res)
  | 0 => none
  | d + 1 => some (doK tp d)
theorem doK_eq (tp : Nat → List Ky) (d : Nat) (k : Ky) (st : PSt) : doK tp d k st = match addT st with
    | none => .long
    | some st' => playR tp (under tp d) k st' := by
  cases d <;> rfl
end KT
set_option Elab.async false
set_option linter.all false
set_option maxRecDepth 100000
set_option maxHeartbeats 4000000
namespace KT
open PySem PySem.Spec PyProof.Rows L2 GxR
/-! ### heaps -/
def noTbl : HO → Bool
  | .tbl _ => false
  | _ => true
/-- what may be written over -/
def wrO : HO → Bool
  | .tbl _ => false
  | .ext _ => false
  | _ => true
theorem wr_noTbl {u : HO} (h : wrO u = true) : noTbl u = true := by cases u <;> first | rfl | cases h
/-- the table of are_signs, and the tables of the defs that make lambdas, with the lambdas' names -/
class GT where
  a : Addr
  l : List (Addr × Str)
  ne : ∀ p ∈ l, p.1 ≠ a
variable [GT]
theorem tabS_imp {H H' : Hp} {P : Addr} {q : Str} (t : LamX.TabS H P q) (h1 : ∀ ps, H P = some (.tbl ps) → H' P = some (.tbl ps)) (h2 : ∀ c, H c = some (LamX.CodeO c q) → H' c = some (LamX.CodeO c q)) : LamX.TabS H' P q := by
  obtain ⟨ps, a1, a2, a3⟩ := t
  refine ⟨ps, h1 _ a1, a2, fun pos cv hc => ?_⟩
  obtain ⟨c, e1, e2⟩ := a3 pos cv hc
  exact ⟨c, e1, h2 _ e2⟩
theorem wr_ne {H : Hp} {p c : Addr} {u : HO} {q : Str} (hp : H p = some u) (n : wrO u = true) (h : H c = some (LamX.CodeO c q)) : c ≠ p := fun e => by
  subst e
  rw [hp] at h
  unfold LamX.CodeO at h
  cases h
  cases n
theorem wr_tbl {H : Hp} {p P : Addr} {u : HO} {ps : Array Value} (hp : H p = some u) (n : wrO u = true) (h : H P = some (.tbl ps)) : P ≠ p := fun e => by
  subst e
  rw [hp] at h
  cases h
  cases n
/-- H' is H, but for what stands at the addresses of S; the tables may have grown -/
structure Kq (S : List Addr) (H H' : Hp) : Prop where
  at_ : ∀ b o, H b = some o → noTbl o = true → b ∉ S → H' b = some o
  tab : ∀ p, TabG H p → TabG H' p
  fr : ∀ b, H' b = none → H b = none
  tabS : ∀ p ∈ GT.l, LamX.TabS H p.1 p.2 → LamX.TabS H' p.1 p.2
theorem Kq.refl {S : List Addr} {H : Hp} : Kq S H H := ⟨fun _ _ h _ _ => h, fun _ h => h, fun _ h => h, fun _ _ h => h⟩
theorem Kq.trans {S : List Addr} {H H1 H2 : Hp} (a : Kq S H H1) (b : Kq S H1 H2) : Kq S H H2 :=
  ⟨fun c o h n m => b.at_ c o (a.at_ c o h n m) n m, fun p h => b.tab p (a.tab p h), fun c h => a.fr c (b.fr c h), fun p m h => b.tabS p m (a.tabS p m h)⟩
theorem Kq.mono {S S' : List Addr} {H H1 : Hp} (a : Kq S H H1) (h : ∀ b ∈ S, b ∈ S') : Kq S' H H1 :=
  ⟨fun c o q n m => a.at_ c o q n fun z => m (h c z), a.tab, a.fr, a.tabS⟩
theorem Kq.of {S : List Addr} {H H1 : Hp} (a : Kq [] H H1) : Kq S H H1 := a.mono fun b h => absurd h (by simp)
theorem Kq.get {H H1 : Hp} (a : Kq [] H H1) {b : Addr} {o : HO} (h : H b = some o) (n : noTbl o = true := by rfl) : H1 b = some o := a.at_ b o h n (by simp)
theorem Kq.gets {S : List Addr} {H H1 : Hp} (a : Kq S H H1) {b : Addr} {o : HO} (h : H b = some o) (m : b ∉ S) (n : noTbl o = true := by rfl) : H1 b = some o := a.at_ b o h n m
theorem Kq.alloc {S : List Addr} {H : Hp} {p : Addr} {o : HO} (hp : H p = none) (n : noTbl o = true := by rfl) : Kq S H (upd H p o) := by
  refine ⟨fun b u h _ _ => ?_, fun q h => ?_, fun b h => ?_, fun q _ h => h.ext fun b u e => by rw [upd_ne (ne_of_none e hp)]; exact e⟩
  · rw [upd_ne (ne_of_none h hp)]; exact h
  · obtain ⟨ps, h1, h2⟩ := h
    exact ⟨ps, by rw [upd_ne (ne_of_none h1 hp)]; exact h1, h2⟩
  · by_cases e : b = p
    · subst e; exact hp
    · rw [upd_ne e] at h; exact h
theorem Kq.write {S : List Addr} {H : Hp} {p : Addr} {o u : HO} (hp : H p = some u) (hS : p ∈ S) (n : wrO u = true := by rfl) : Kq S H (upd H p o) := by
  refine ⟨fun b v h _ m => ?_, fun q h => ?_, fun b h => ?_, fun q _ h => tabS_imp h (fun ps e => by rw [upd_ne (wr_tbl hp n e)]; exact e) (fun c e => by rw [upd_ne (wr_ne hp n e)]; exact e)⟩
  · rw [upd_ne (fun e => m (by rw [e]; exact hS))]; exact h
  · obtain ⟨ps, h1, h2⟩ := h
    have : q ≠ p := fun e => by
      subst e
      rw [hp] at h1
      cases h1
      cases n
    exact ⟨ps, by rw [upd_ne this]; exact h1, h2⟩
  · by_cases e : b = p
    · subst e; rw [upd_same] at h; cases h
    · rw [upd_ne e] at h; exact h
theorem Kq.tabbed {S : List Addr} {H H' : Hp} {p : Addr} (t : Tabbed p H H') (hp : TabG H p) (ea : p = GT.a := by rfl) : Kq S H H' := by
  obtain ⟨t1, t2⟩ := t
  refine ⟨fun b u h n _ => ?_, fun q h => ?_, fun b h => ?_, fun q m h => tabS_imp h (fun ps e => by rw [t2 _ (by rw [ea]; exact GT.ne q m)]; exact e) (fun c e => ?_)⟩
  rotate_left 3
  · have : c ≠ p := fun z => by
      subst z
      obtain ⟨ps, h1, _⟩ := hp
      rw [h1] at e
      unfold LamX.CodeO at e
      cases e
    rw [t2 c this]; exact e
  · have : b ≠ p := fun e => by
      subst e
      obtain ⟨ps, h1, _⟩ := hp
      rw [h] at h1
      cases h1
      cases n
    rw [t2 b this]; exact h
  · by_cases e : q = p
    · subst e; exact t1
    · obtain ⟨ps, h1, h2⟩ := h
      exact ⟨ps, by rw [t2 q e]; exact h1, h2⟩
  · by_cases e : b = p
    · subst e
      obtain ⟨ps, h1, _⟩ := t1
      rw [h] at h1; cases h1
    · rw [t2 b e] at h; exact h
theorem Kq.seq {K : PySem.W.Frag} {H H1 : Hp} (a : Kq [] H H1) {l : Addr} {xs : List V} (h : SqL K H l xs) : SqL K H1 l xs := by
  rcases h with (h | ⟨o, h⟩) | h
  · exact .inl (.inl (a.get h))
  · exact .inl (.inr ⟨o, a.get h⟩)
  · exact .inr h
theorem Kq.tup {K : PySem.W.Frag} {H H1 : Hp} (a : Kq [] H H1) {l : Addr} {xs : List V} (h : SqT K H l xs) : SqT K H1 l xs := by
  rcases h with (h | ⟨o, h⟩) | h
  · exact .inl (.inl (a.get h))
  · exact .inl (.inr ⟨o, a.get h⟩)
  · exact .inr h
/-! ### defs -/
/-- the def at f keeps its promise -/
structure Fk (P : Program) (w : World) (K : PySem.W.Frag) (mg : Str → Option Value) (base : Heap) (k : Nat) (f : Addr) (ps : List Str) (sp : Sp) : Prop where
  ok : FnOk P w K mg base (L2.CX P w) k f (fdOf K f) ps sp
  b : Binds K (fdOf K f) ps []
  kp : PySem.W.keepIn K (.ref f) = true
theorem Fk.mono {P : Program} {w : World} {K : PySem.W.Frag} {mg : Str → Option Value} {base : Heap} {j k : Nat} {f : Addr} {ps : List Str} {sp : Sp} (F : Fk P w K mg base j f ps sp) (h : j ≤ k) : Fk P w K mg base k f ps sp := ⟨F.ok.mono h, F.b, F.kp⟩
section
variable {P : Program} {w : World} {K : PySem.W.Frag} {mg : Str → Option Value} {base : Heap}
abbrev CxD (P : Program) (w : World) (K : PySem.W.Frag) (mg : Str → Option Value) (base : Heap) (N : List Str) (d : He.DefD) (cdv : Value) (A : Around) (outer : List Env) (s : Shared) (H : Hp) (E : XK) : Cx :=
  cxOf (L2.CX P w) P w K mg base N d.qual d.scope (Ad K d.at_) cdv A outer s H E
theorem mkF {d : He.DefD} {N ps : List Str} {k : Nat} {sp : Sp} (F : FnT K d) (S : FnScope N ps d.scope) (hd : d.dfl = [])
    (hb : ∀ (kV doc pm : Value) (an : Option Addr) (cdv ct : Value) (us : List Value), us.length = ps.length → bindArgs (PySem.W.fnOf d.name d.qual d.params d.body d.scope .none kV doc pm an cdv ct) ⟨us, []⟩ = pure (ps.zip us))
    (len : ∀ vs H Q E, sp vs H Q E → vs.length = ps.length)
    (hbody : ∀ (cdv : Value) (A : Around) (outer : List Env) (s : Shared) (H : Hp) (vs : List V) (Q : VK) (E : XK),
      PySem.W.codeIn K cdv d.qual = true → cdv = .ref (He.codeOf K d.at_) →
      Room k (CxD P w K mg base N d cdv A outer s H E).A → sp vs H Q E →
      ∃ t, PSs (CxD P w K mg base N d cdv A outer s H E) d.body t ∧ t { nx := fun _ H' => Q .non H', rt := Q } (start N vs) H) : Fk P w K mg base (k + 1) (Ad K d.at_) ps sp := by
  have F' : FunD K d.name d.qual d.params d.body d.scope [] (d.kws K) (Ad K d.at_) (fdOf K (Ad K d.at_)) := by
    have e : d.dvs K = [] := by unfold He.DefD.dvs; rw [hd]; rfl
    have := F
    unfold FnT at this
    rw [e] at this
    exact this
  refine ⟨?_, F'.bindsN hb, F'.kp⟩
  obtain ⟨oc, od, dV, kV, doc, pm, an, cdv, ct, osl, e, lk, hcd, _, _⟩ := F'.ex
  have hcode : cdv = .ref (He.codeOf K d.at_) := by
    obtain ⟨c, hc⟩ := He.codeIn_ref hcd
    rw [hc]
    have : He.codeOf K d.at_ = c := He.codeOf_eq lk (by rw [e]; exact hc)
    rw [this]
  rw [e] at lk ⊢
  refine fn_of lk hcd S len fun A outer s H vs Q E hr hsp => ?_
  exact hbody cdv A outer s H vs Q E hcd hcode hr hsp
end
section
variable {X : Cx} {k : Nat} {f C : Addr} {ps : List Str} {sp : Sp} {E : XK} {x m : Str} {p pos apos : Pos} {e o : Expr} {es : List Expr} {ta : TE} {t : TA}
/-- f(e, ..) -/
def tCF (sp : Sp) (E : XK) (t : TA) : TE := fun σ H Q => t σ H fun vs H1 => sp vs H1 Q E
theorem pe_cF (F : Fk X.prog X.w X.K X.mg X.base k f ps sp) (hr : Room k X.A) (hm : X.mg x = some (.ref f)) (hx : Passes (L2.CX X.prog X.w) X E) (ha : PA X (e :: es) t) (hg : Gl X x := by rfl)
    (hdb : (x == ("__debug__" : Str)) = false := by decide)
    (he : starEach (e :: es) X.env = (false, eval e X.env) :: starEach es X.env := by rfl) (hpl : (backTo pos (starEach es X.env)).any (·.1) = false := by rfl) : PE X (.Call (.Name x p) (e :: es) [] pos) (tCF sp E t) := by
  have h := pe_call (p := p) (pos := pos) F.ok hr hg hm F.kp F.b .nil hx ha hdb he hpl
  refine ⟨fun pins s σ H Q I q => h.run pins s σ H Q I ?_⟩
  have e0 : (fun (vs : List V) (H1 : Hp) => sp (vs ++ []) H1 Q E) = fun vs H1 => sp vs H1 Q E := by
    funext vs H1
    rw [List.append_nil]
  show t σ H (fun vs H1 => sp (vs ++ []) H1 Q E)
  rw [e0]
  exact q
/-- o.m(e, ..) -/
def tMF (C : Addr) (m : Str) (sp : Sp) (E : XK) (ta : TE) (t : TA) : TE := fun σ H Q => ta σ H fun x H1 => ∃ a dx fs, x = .ref a ∧ H1 a = some (.ins C dx fs) ∧ fs.lookup m = none ∧ t σ H1 fun vs H2 => sp (x :: vs) H2 Q E
theorem tMF_eq (C : Addr) (m : Str) (sp : Sp) (E : XK) (ta : TE) (t : TA) : tMF C m sp E ta t = tMeth C m sp [] E ta t := by
  unfold tMF tMeth
  funext σ H Q
  simp only [List.append_nil]
theorem pe_mF (pl : Sem Bool) (he : PE X o ta) (c : Cls X.K C) (hm : Meth X.K C m f) (F : Fk X.prog X.w X.K X.mg X.base k f ps sp) (hr : Room k X.A) (hx : Passes (L2.CX X.prog X.w) X E) (ha : PA X (e :: es) t)
    (hst : starEach (e :: es) X.env = (false, eval e X.env) :: starEach es X.env := by rfl) (hpl : (backTo pos (starEach es X.env)).any (·.1) = false := by rfl)
    (ht : eval (.Call (.Attribute o m apos) (e :: es) [] pos) X.env = (do
      let ov ← eval o X.env
      standAt apos.atName
      let (f, first) ← holding [ov] (getMethod ov m pl)
      callWith pos f first (backTo pos (starEach (e :: es) X.env)) (backToKw pos (keywordEach [] X.env))) := by rfl) :
    PE X (.Call (.Attribute o m apos) (e :: es) [] pos) (tMF C m sp E ta t) := by
  rw [tMF_eq]
  exact pe_meth (pl := pl) he c hm F.ok hr F.b .nil hx ha hst hpl ht
theorem pe_mF0 (pl : Sem Bool) (he : PE X o ta) (c : Cls X.K C) (hm : Meth X.K C m f) (F : Fk X.prog X.w X.K X.mg X.base k f ps sp) (hr : Room k X.A) (hx : Passes (L2.CX X.prog X.w) X E)
    (ht : eval (.Call (.Attribute o m apos) [] [] pos) X.env = (do
      let ov ← eval o X.env
      standAt apos.atName
      let (f, first) ← holding [ov] (getMethod ov m pl)
      callWith pos f first (backTo pos (starEach [] X.env)) (backToKw pos (keywordEach [] X.env))) := by rfl) :
    PE X (.Call (.Attribute o m apos) [] [] pos) (tMF C m sp E ta tNil) := by
  rw [tMF_eq]
  exact pe_meth0 (pl := pl) he c hm F.ok hr F.b .nil hx ht
/-- C(e, ..) by what the making comes to -/
theorem pe_kF {spN : Sp} (M : Mk X.K C f) (F : Fk X.prog X.w X.K X.mg X.base k f ps sp) (hr : Room (k + 1) X.A) (hm : X.mg x = some (.ref C)) (hx : Passes (L2.CX X.prog X.w) X E)
    (imp : ∀ vs H Q, spN vs H Q E → ∀ x dx, H x = none → H dx = none → dx ≠ x → sp (.ref x :: vs) (upd (upd H dx (.own x)) x (.ins C dx [])) (fun v H2 => v = .non ∧ Q (.ref x) H2) E)
    (ha : PA X (e :: es) t) (hg : Gl X x := by rfl) (hdb : (x == ("__debug__" : Str)) = false := by decide) (he : starEach (e :: es) X.env = (false, eval e X.env) :: starEach es X.env := by rfl) (hpl : (backTo pos (starEach es X.env)).any (·.1) = false := by rfl) :
    PE X (.Call (.Name x p) (e :: es) [] pos) (tCF spN E t) := by
  refine ⟨fun pins s σ H Q I h => ?_⟩
  refine wpAny_Call_Name_kw (ld_glob I hg hm ?_ hdb)
  refine PySem.W.callWith_K (h₀ := X.base) I.ok.mod.kin M.kp (thn (ha.run pos pins s σ H _ I h) fun us s1 ⟨vs, H1, I1, r, q⟩ => ⟨I1.kIn, ?_⟩) he hpl
  exact run_make M F.ok hr F.b .nil hx I1 r (by
    rw [List.append_nil]
    exact imp vs H1 Q q)
end
section
variable {P : Program} {w : World} {K : PySem.W.Frag} {mg : Str → Option Value} {base : Heap}
/-- what a call lets out, the def lets out -/
theorem px {N : List Str} {d : He.DefD} {cdv : Value} {A : Around} {outer : List Env} {s : Shared} {H : Hp} {E : XK} : Passes (L2.CX P w) (CxD P w K mg base N d cdv A outer s H E) E :=
  passes_call (takes_of (E := E) rfl rfl rfl rfl) fun _ _ _ _ z => z
end
/-! ### tuples: one way out -/
section
variable {X : Cx}
theorem op_catU : OpR X (binaryOp .Add) (fun x y H Q => ∃ a b xs ys, x = .ref a ∧ y = .ref b ∧ SqT X.K H a xs ∧ SqT X.K H b ys ∧ xs.length + ys.length ≤ sizeLine ∧ ∀ q H', Kq [] H H' → SqT X.K H' q (xs ++ ys) → Q (.ref q) H') := by
  intro pins s σ H x y v u Q I rx ry h
  obtain ⟨a, b, xs, ys, e1, e2, ha, hb, hl, k⟩ := h
  refine op_catA pins s σ H x y v u Q I rx ry ⟨a, b, xs, ys, e1, e2, ha, hb, hl, fun e => ?_, fun _ e => ?_, fun _ _ p np => ?_⟩
  · subst e; exact k b H Kq.refl hb
  · subst e; exact k a H Kq.refl (by rw [List.append_nil]; exact ha)
  · exact k p _ (Kq.alloc np) (SqT.of upd_same)
theorem sl_tupU : SlR X (fun x lo hi H Q => ∃ a xs, x = .ref a ∧ SqT X.K H a xs ∧ ∀ q H', Kq [] H H' → SqT X.K H' q (cutV xs lo hi) → Q (.ref q) H') := by
  intro pins s σ H x v vl vu lo hi sl Q I rx hs pl pu h
  obtain ⟨a, xs, e1, ha, k⟩ := h
  refine sl_tupA pins s σ H x v vl vu lo hi sl Q I rx hs pl pu ⟨a, xs, e1, ha, fun e => k a H Kq.refl ?_, fun _ p np => k p _ (Kq.alloc np) (SqT.of upd_same)⟩
  have : cutV xs lo hi = xs := by
    unfold cutV
    rw [e.1, e.2]
    simp
  rw [this]; exact ha
end
/-! ### texts as lists of codes -/
abbrev S (l : Ln) : Str := ⟨l.toArray⟩
theorem S_tl (x : Str) : S (TL.tl x) = x := TL.mk_tl x
theorem S_len (l : Ln) : (S l).length = l.length := by simp [Str.length]
theorem S_inj {a b : Ln} (h : S a = S b) : a = b := by
  have : (S a).cps.toList = (S b).cps.toList := by rw [h]
  simpa using this
theorem S_app (a b : Ln) : S a ++ S b = S (a ++ b) := TL.ext_tl (by rw [TL.tl_append])
end KT
set_option Elab.async false
set_option linter.all false
set_option maxRecDepth 100000
set_option maxHeartbeats 4000000
namespace KT
open PySem PySem.Spec PyProof.Rows L2 GxR
variable [GT]
/-- a list == [] -/
theorem op_eqE {X : Cx} (hu : X.A.units < cLine) : OpR X (compareOp .Eq) (fun x y H Q => ∃ (a b : Addr) (xs : List V), x = .ref a ∧ y = .ref b ∧ SqL X.K H a xs ∧ SqL X.K H b [] ∧ Q (.bl xs.isEmpty) H) := by
  intro pins s σ H x y v u Q I rx ry h
  obtain ⟨a, b, xs, e1, e2, ha, hb, k⟩ := h
  subst e1 e2
  cases rx
  cases ry
  obtain ⟨is1, v1, t1, _⟩ := I.list ha
  obtain ⟨is2, v2, t2, _⟩ := I.list hb
  have l1 := v1.length
  have l2 := v2.length
  cases xs with
  | nil =>
    refine PySem.SeqAt.eq_listAt (e := fun _ => true) t1.isList t2.isList (by simp at l1 l2 ⊢; omega) hu (fun i h1 h2 => ?_) ⟨.bl true, H, I, ?_, k⟩
    · simp at l1; simp at h1; omega
    · have h0 : is1.toArray.size = 0 := by rw [List.size_toArray]; simpa using l1.symm
      rw [h0]; rfl
  | cons x xs =>
    exact PySem.SeqAt.eq_list_lengthsAt t1.isList t2.isList (by simp at l1 l2 ⊢; omega) hu ⟨.bl false, H, I, rfl, k⟩
end KT
set_option Elab.async false
set_option linter.all false
set_option maxRecDepth 100000
set_option maxHeartbeats 4000000
namespace KT
open PySem PySem.Spec PyProof.Rows L2 GxR
/-! ### count of a flat list -/
def rCountF (K : PySem.W.Frag) : V → List V → Hp → VK → Prop := fun x xs H Q => ∃ (p : Addr) (ys : List V) (y : V), x = .ref p ∧ xs = [y] ∧ SqL K H p ys ∧ flatV y = true ∧ ys.all flatV = true ∧ Q (.int ((ys.countP fun z => eqV z y : Nat) : Int)) H
theorem count_vals {y : V} : ∀ {ys : List V} {us : List Value}, Vals ys us → ys.all flatV = true → us.countP (eqU y) = ys.countP fun z => eqV z y
  | _, _, .nil, _ => rfl
  | _, _, .cons r rs, h => by
    rw [List.all_cons, Bool.and_eq_true] at h
    rw [List.countP_cons, List.countP_cons, count_vals rs h.2, eqU_of r h.1]
theorem mt_countF {X : Cx} : MtR X "list.count" (rCountF X.K) := by
  intro pins s σ H x xs v us Q I rx rxs h
  obtain ⟨p, ys, y, rfl, rfl, hs, fy, fys, q⟩ := h
  cases rx
  obtain ⟨u, rfl, ru⟩ := rxs.one
  obtain ⟨its, rv, ⟨⟨cls, dd, data, sl⟩, n, ho, hc, hdn, hd⟩, hlen⟩ := I.list hs
  simp only at hc hd
  subst hc hd
  refine call_meets PySem.F.slot_list_count ⟨_, ho, rfl⟩ PySem.F.entry_list_count (PySem.F.args_list_count_2 _ _) (SeqAt.list_countAt p its.toArray n dd sl u (eqU y)) ⟨ho, fun z hz => mem_eqAt ru fy rv fys z (by simpa using hz), ?_⟩
  refine ⟨.int ((ys.countP fun z => eqV z y : Nat) : Int), H, I.tok _, ⟨s.toks, ?_⟩, q⟩
  show Value.int ((its.toArray.toList.countP (eqU y) : Nat) : Int) s.toks = _
  rw [show its.toArray.toList = its from rfl, count_vals rv fys]
theorem mt_countB {X : Cx} {K : PySem.W.Frag} (e : X.K = K) : MtR X "list.count" (rCountF K) := e ▸ mt_countF
theorem mt_indexB {X : Cx} {K : PySem.W.Frag} (e : X.K = K) : MtR X "list.index" (rIndex K) := e ▸ mt_index
section
variable {X : Cx} {K : PySem.W.Frag} {o e : Expr} {es : List Expr} {to : TE} {t : TA} {name : Str} {apos cpos : Pos} {T id : String} {r : V → List V → Hp → VK → Prop}
/-- a list's method, told of a K -/
theorem pe_bmB (ek : X.K = K) (pa : PlainAttrs T) (slot : Slot T name id) (hty : typeOf (.builtin id) = pure (.type "method_descriptor")) (hm : MtR X id r) (ho : PE X o to) (ha : PA X (e :: es) t)
    (hbase : attributeBase o name X.env (eval o X.env) = eval o X.env := by rfl)
    (hfew : ((backTo cpos (starEach (e :: es) X.env)).all (fun x => !x.1) && (backToKw cpos (keywordEach [] X.env)).all (fun x => x.1.isSome) && decide ((e :: es).length + ([] : List Keyword).length + (if ([] : List Keyword).isEmpty then 0 else 1) < 30)) = true := by rfl)
    (hline : (apos.endLine == cpos.line) = true := by rfl) (hs : starEach (e :: es) X.env = (false, eval e X.env) :: starEach es X.env := by rfl) (hplain : (backTo cpos (starEach es X.env)).any (·.1) = false := by rfl) :
    PE X (.Call (.Attribute o name apos) (e :: es) [] cpos) (tBM K T r to t) := by
  subst ek
  exact pe_bm pa slot hty hm ho ha hbase hfew hline hs hplain
end
theorem pe_never {X : Cx} {e : Expr} : PE X e (fun _ _ _ => False) := ⟨fun _ _ _ _ _ _ h => h.elim⟩
end KT
set_option Elab.async false
set_option linter.all false
set_option maxRecDepth 100000
set_option maxHeartbeats 4000000
namespace KT
open PySem PySem.Spec PyProof.Rows L2 GxR
variable [GT]
/-! ### pages -/
def rowsV (ls : List Ln) : List V := ls.map fun l => V.str (S l)
theorem rowsV_len (ls : List Ln) : (rowsV ls).length = ls.length := by simp [rowsV]
theorem rowsV_app (a b : List Ln) : rowsV a ++ rowsV b = rowsV (a ++ b) := by simp [rowsV]
theorem rows_at {ls : List Ln} {n : Nat} {i : Int} (e : i = (n : Int)) (h : n < ls.length) : atI (rowsV ls) i = some (V.str (S (ls.getD n []))) := by
  refine at_of e ?_
  unfold rowsV
  rw [List.getElem?_map, List.getElem?_eq_getElem h, List.getD_eq_getElem?_getD, List.getElem?_eq_getElem h]
  rfl
def pageF (t : Addr) (g : Pg) : List (Str × V) := [("rows", .ref t), ("row", .int g.row), ("column", .int g.col), ("clipped", .str (S g.clip))]
def PageAt (K : PySem.W.Frag) (H : Hp) (p : Addr) (g : Pg) : Prop := ∃ dx t, H p = some (.ins (He.ga K "Page") dx (pageF t g)) ∧ SqT K H t (rowsV g.rows)
theorem pageF_rows (t : Addr) (g : Pg) : (pageF t g).lookup ("rows" : Str) = some (.ref t) := by kernel_rfl
theorem pageF_row (t : Addr) (g : Pg) : (pageF t g).lookup ("row" : Str) = some (.int g.row) := by kernel_rfl
theorem pageF_column (t : Addr) (g : Pg) : (pageF t g).lookup ("column" : Str) = some (.int g.col) := by kernel_rfl
theorem pageF_clipped (t : Addr) (g : Pg) : (pageF t g).lookup ("clipped" : Str) = some (.str (S g.clip)) := by kernel_rfl
theorem pageF_put (t : Addr) (a b : Int) (c : Str) : putF "clipped" (.str c) (putF "column" (.int b) (putF "row" (.int a) (putF "rows" (.ref t) []))) = ([("rows", V.ref t), ("row", V.int a), ("column", V.int b), ("clipped", V.str c)] : List (Str × V)) := by kernel_rfl
theorem Kq.page {K : PySem.W.Frag} {H H1 : Hp} (a : Kq [] H H1) {p : Addr} {g : Pg} (h : PageAt K H p g) : PageAt K H1 p g := by
  obtain ⟨dx, t, h1, h2⟩ := h
  exact ⟨dx, t, a.get h1, a.tup h2⟩
theorem iteD {c : Prop} [Decidable c] {A B : Prop} (h1 : c → A) (h2 : ¬ c → B) : if decide c = true then A else B := by
  by_cases h : c
  · rw [if_pos (decide_eq_true h)]; exact h1 h
  · rw [if_neg (by simp [h])]; exact h2 h
theorem iteN {c : Prop} [Decidable c] {A B : Prop} (h1 : ¬ c → A) (h2 : c → B) : if (!decide c) = true then A else B := by
  by_cases h : c
  · rw [if_neg (by simp [h])]; exact h2 h
  · rw [if_pos (by simp [h])]; exact h1 h
/-! ### texts cut -/
theorem line16 {n : Nat} (h : n ≤ 1000000) : n ≤ sizeLine := Nat.le_trans h (by rw [sizeLine_eq]; decide)
theorem take_min {α : Type} (l : List α) (n : Nat) : l.take (min n l.length) = l.take n := by
  by_cases h : n ≤ l.length
  · rw [Nat.min_eq_left h]
  · rw [Nat.min_eq_right (by omega), List.take_of_length_le (by omega), List.take_of_length_le (by omega)]
theorem cut_to (l : Ln) {i : Int} {n : Nat} (e : i = (n : Int)) : cutS (S l) none (some i) = S (l.take n) := by
  subst e
  unfold cutS
  rw [HT.sIx_none, HT.sIx_nat, S_len]
  simp only [List.drop_zero, Nat.sub_zero]
  rw [take_min]
theorem cut_from (l : Ln) {i : Int} {n : Nat} (e : i = (n : Int)) : cutS (S l) (some i) none = S (l.drop n) := by
  subst e
  unfold cutS
  rw [HT.sIx_none, HT.sIx_nat, S_len]
  congr 2
  by_cases h : n ≤ l.length
  · rw [Nat.min_eq_left h]
    exact List.take_of_length_le (by simp)
  · rw [Nat.min_eq_right (by omega)]
    rw [List.drop_eq_nil_of_le (by omega : l.length ≤ n)]
    simp
theorem cut_mid (l : Ln) {i j : Int} {a b : Nat} (ea : i = (a : Int)) (eb : j = (b : Int)) : cutS (S l) (some i) (some j) = S ((l.drop a).take (b - a)) := by
  subst ea eb
  unfold cutS
  have el : (S l).cps.toList = l := by simp
  rw [el]
  rw [HT.sIx_nat, HT.sIx_nat, S_len]
  congr 2
  by_cases h : a ≤ l.length
  · rw [Nat.min_eq_left h]
    by_cases hb : b ≤ l.length
    · rw [Nat.min_eq_left hb]
    · rw [Nat.min_eq_right (by omega)]
      rw [List.take_of_length_le (by rw [List.length_drop]; omega), List.take_of_length_le (by rw [List.length_drop]; omega)]
  · rw [Nat.min_eq_right (by omega : l.length ≤ a), List.drop_eq_nil_of_le (by omega : l.length ≤ a)]
    simp
theorem cutV_to {ls : List Ln} {i : Int} {n : Nat} (e : i = (n : Int)) : cutV (rowsV ls) none (some i) = rowsV (ls.take n) := by
  subst e
  unfold cutV rowsV
  rw [HT.sIx_none, HT.sIx_nat, List.length_map]
  simp only [List.drop_zero, Nat.sub_zero]
  have h := take_min ls n
  rw [← List.map_take, h]
theorem cutV_from {ls : List Ln} {i : Int} {n : Nat} (e : i = (n : Int)) : cutV (rowsV ls) (some i) none = rowsV (ls.drop n) := by
  subst e
  unfold cutV rowsV
  rw [HT.sIx_none, HT.sIx_nat, List.length_map, ← List.map_drop, ← List.map_take]
  congr 1
  by_cases h : n ≤ ls.length
  · rw [Nat.min_eq_left h]
    exact List.take_of_length_le (by simp)
  · rw [Nat.min_eq_right (by omega), List.drop_eq_nil_of_le (by omega : ls.length ≤ n)]
    simp
section
variable {P : Program} {w : World} {K : PySem.W.Frag} {mg : Str → Option Value} {base : Heap}
theorem rd_rows (T : Tx w K mg) {H : Hp} {p : Addr} {g : Pg} (hP : PageAt K H p g) {Q : V → Prop} (h : ∀ t, SqT K H t (rowsV g.rows) → Q (.ref t)) :
    ∃ a C dx fs v, V.ref p = .ref a ∧ H a = some (.ins C dx fs) ∧ Cls K C ∧ NoAttr K C "rows" ∧ fs.lookup ("rows" : Str) = some v ∧ Q v := by
  obtain ⟨dx, t, h1, h2⟩ := hP
  exact ⟨p, _, dx, _, _, rfl, h1, T.c_Page, T.a_Page_rows, pageF_rows _ _, h t h2⟩
theorem rd_row (T : Tx w K mg) {H : Hp} {p : Addr} {g : Pg} (hP : PageAt K H p g) {Q : V → Prop} (h : Q (.int g.row)) :
    ∃ a C dx fs v, V.ref p = .ref a ∧ H a = some (.ins C dx fs) ∧ Cls K C ∧ NoAttr K C "row" ∧ fs.lookup ("row" : Str) = some v ∧ Q v := by
  obtain ⟨dx, t, h1, h2⟩ := hP
  exact ⟨p, _, dx, _, _, rfl, h1, T.c_Page, T.a_Page_row, pageF_row _ _, h⟩
theorem rd_col (T : Tx w K mg) {H : Hp} {p : Addr} {g : Pg} (hP : PageAt K H p g) {Q : V → Prop} (h : Q (.int g.col)) :
    ∃ a C dx fs v, V.ref p = .ref a ∧ H a = some (.ins C dx fs) ∧ Cls K C ∧ NoAttr K C "column" ∧ fs.lookup ("column" : Str) = some v ∧ Q v := by
  obtain ⟨dx, t, h1, h2⟩ := hP
  exact ⟨p, _, dx, _, _, rfl, h1, T.c_Page, T.a_Page_column, pageF_column _ _, h⟩
theorem rd_clip (T : Tx w K mg) {H : Hp} {p : Addr} {g : Pg} (hP : PageAt K H p g) {Q : V → Prop} (h : Q (.str (S g.clip))) :
    ∃ a C dx fs v, V.ref p = .ref a ∧ H a = some (.ins C dx fs) ∧ Cls K C ∧ NoAttr K C "clipped" ∧ fs.lookup ("clipped" : Str) = some v ∧ Q v := by
  obtain ⟨dx, t, h1, h2⟩ := hP
  exact ⟨p, _, dx, _, _, rfl, h1, T.c_Page, T.a_Page_clipped, pageF_clipped _ _, h⟩
/-- Page.__init__ -/
def sp_Page___init__ (K : PySem.W.Frag) : Sp := fun vs H Q _ => ∃ (x dx t : Addr) (a b : Int) (c : Str), vs = [.ref x, .ref t, .int a, .int b, .str c] ∧ H x = some (.ins (He.ga K "Page") dx []) ∧
  Q .non (upd (upd (upd (upd H x (.ins (He.ga K "Page") dx (putF "rows" (.ref t) []))) x (.ins (He.ga K "Page") dx (putF "row" (.int a) (putF "rows" (.ref t) [])))) x
    (.ins (He.ga K "Page") dx (putF "column" (.int b) (putF "row" (.int a) (putF "rows" (.ref t) []))))) x (.ins (He.ga K "Page") dx (putF "clipped" (.str c) (putF "column" (.int b) (putF "row" (.int a) (putF "rows" (.ref t) []))))))
theorem sc_Page___init__ : FnScope ["self", "rows", "row", "column", "clipped"] ["self", "rows", "row", "column", "clipped"] (defScope s_Page___init__) := ⟨rfl, rfl, rfl, by decide +kernel, rfl, by decide +kernel, by decide +kernel⟩
theorem ok_Page___init__ (T : Tx w K mg) : Fk P w K mg base 1 (Ad K d_Page___init__.at_) ["self", "rows", "row", "column", "clipped"] (sp_Page___init__ K) := by
  refine mkF T.f_Page___init__ sc_Page___init__ rfl (fun _ _ _ _ _ _ us hl => match us, hl with | [_, _, _, _, _], _ => rfl) (fun vs H Q E h => by obtain ⟨_, _, _, _, _, _, rfl, _⟩ := h; rfl) (fun cdv A outer s H vs Q E hcd hcode hr h => ?_)
  refine ⟨_, (pss_cons (ps_fld (pv 0) (pv 1) rfl)
      (pss_cons (ps_fld (pv 0) (pv 2) rfl)
      (pss_cons (ps_fld (pv 0) (pv 3) rfl)
      (pss_one (ps_fld (pv 0) (pv 4) rfl))))), ?_⟩
  obtain ⟨x, dx, t, a, b, c, rfl, hx, k⟩ := h
  refine ⟨_, rfl, _, rfl, x, _, dx, _, rfl, hx, T.c_Page, T.a_Page_rows, (by show 0 < 1000; decide), ?_⟩
  refine ⟨_, rfl, _, rfl, x, _, dx, _, rfl, upd_same, T.c_Page, T.a_Page_row, (by show 1 < 1000; decide), ?_⟩
  refine ⟨_, rfl, _, rfl, x, _, dx, _, rfl, upd_same, T.c_Page, T.a_Page_column, (by show 2 < 1000; decide), ?_⟩
  refine ⟨_, rfl, _, rfl, x, _, dx, _, rfl, upd_same, T.c_Page, T.a_Page_clipped, (by show 3 < 1000; decide), ?_⟩
  exact k
/-- Page(rows, row, column, clipped) -/
def sp_Page (K : PySem.W.Frag) : Sp := fun vs H Q _ => ∃ (t : Addr) (i j : Int) (c : Str) (g : Pg), vs = [.ref t, .int i, .int j, .str c] ∧ i = g.row ∧ j = g.col ∧ c = S g.clip ∧ SqT K H t (rowsV g.rows) ∧
  ∀ q H', Kq [] H H' → PageAt K H' q g → Q (.ref q) H'
/-- a new instance -/
theorem Kq.made {S : List Addr} {H : Hp} {x dx C : Addr} {fs : List (Str × V)} (hx : H x = none) (hd : H dx = none) (ne : dx ≠ x) : Kq S H (upd (upd H dx (.own x)) x (.ins C dx fs)) :=
  (Kq.alloc hd).trans (Kq.alloc (by rw [upd_ne (Ne.symm ne)]; exact hx))
theorem new_Page {E : XK} : ∀ vs H Q, sp_Page K vs H Q E → ∀ x dx, H x = none → H dx = none → dx ≠ x →
    sp_Page___init__ K (.ref x :: vs) (upd (upd H dx (.own x)) x (.ins (He.ga K "Page") dx [])) (fun v H2 => v = .non ∧ Q (.ref x) H2) E := by
  rintro vs H Q ⟨t, i, j, c, g, rfl, rfl, rfl, rfl, ht, k⟩ x dx nx ndx ne
  refine ⟨x, dx, t, _, _, _, rfl, upd_same, rfl, ?_⟩
  rw [upd_upd, upd_upd, upd_upd, upd_upd, pageF_put]
  have kk : Kq [] H (upd (upd H dx (.own x)) x (.ins (He.ga K "Page") dx (pageF t g))) := Kq.made nx ndx ne
  exact k x _ kk ⟨dx, t, upd_same, kk.tup ht⟩
def sp_line_at (K : PySem.W.Frag) : Sp := fun vs H Q _ => ∃ p g, vs = [.ref p] ∧ PageAt K H p g ∧ g.row < g.rows.length ∧ Q (.str (S g.line)) H
theorem sc_line_at : FnScope ["page"] ["page"] (defScope s_line_at) := ⟨rfl, rfl, rfl, by decide +kernel, rfl, by decide +kernel, by decide +kernel⟩
theorem ok_line_at (T : Tx w K mg) : Fk P w K mg base 1 (Ad K d_line_at.at_) ["page"] (sp_line_at K) := by
  refine mkF T.f_line_at sc_line_at rfl (fun _ _ _ _ _ _ us hl => match us, hl with | [_], _ => rfl) (fun vs H Q E h => by obtain ⟨_, _, rfl, _⟩ := h; rfl) (fun cdv A outer s H vs Q E hcd hcode hr h => ?_)
  refine ⟨_, (pss_one (ps_ret (pe_ix ix_tup (pe_fld (pv 0) rfl) (pe_fld (pv 0) rfl) (fun _ _ => rfl)))), ?_⟩
  obtain ⟨p, g, rfl, hP, hr', k⟩ := h
  refine ⟨_, rfl, rd_rows T hP fun t ht => ⟨_, rfl, rd_row T hP ?_⟩⟩
  exact ⟨t, _, _, _, rfl, rfl, ht, rows_at rfl hr', k⟩
def sp_moved (K : PySem.W.Frag) : Sp := fun vs H Q _ => ∃ p g i j, ∃ r c : Nat, vs = [.ref p, .int i, .int j] ∧ i = (r : Int) ∧ j = (c : Int) ∧ PageAt K H p g ∧ ∀ q H', Kq [] H H' → PageAt K H' q (g.at_ r c) → Q (.ref q) H'
theorem sc_moved : FnScope ["page", "row", "column"] ["page", "row", "column"] (defScope s_moved) := ⟨rfl, rfl, rfl, by decide +kernel, rfl, by decide +kernel, by decide +kernel⟩
theorem ok_moved (T : Tx w K mg) : Fk P w K mg base 3 (Ad K d_moved.at_) ["page", "row", "column"] (sp_moved K) := by
  have F_Page___init__ := ok_Page___init__ (P := P) (base := base) T
  refine mkF T.f_moved sc_moved rfl (fun _ _ _ _ _ _ us hl => match us, hl with | [_, _, _], _ => rfl) (fun vs H Q E h => by obtain ⟨_, _, _, _, _, _, rfl, _⟩ := h; rfl) (fun cdv A outer s H vs Q E hcd hcode hr h => ?_)
  refine ⟨_, (pss_one (ps_ret (pe_kF (spN := sp_Page K) T.k_Page F_Page___init__ (hr.mono (by decide)) T.g_Page px new_Page (pa_cons (pe_fld (pv 0) rfl) (pa_cons (pv 1) (pa_cons (pv 2) (pa_cons (pe_fld (pv 0) rfl) pa_nil))))))), ?_⟩
  obtain ⟨p, g, i, j, r, c, rfl, rfl, rfl, hP, k⟩ := h
  refine ⟨_, rfl, rd_rows T hP fun t ht => ⟨_, rfl, _, rfl, _, rfl, rd_clip T hP ?_⟩⟩
  exact ⟨t, _, _, _, g.at_ r c, rfl, rfl, rfl, rfl, ht, k⟩
def sp_with_lines (K : PySem.W.Frag) : Sp := fun vs H Q _ => ∃ p g i m l ls, ∃ f n : Nat, vs = [.ref p, .int i, .int m, .ref l] ∧ i = (f : Int) ∧ m = (n : Int) ∧ PageAt K H p g ∧ SqT K H l (rowsV ls) ∧ f < g.rows.length ∧ 1 ≤ n ∧ g.rows.length ≤ 12 ∧ ls.length ≤ 2 ∧ ls ≠ [] ∧
  ∀ q H', Kq [] H H' → SqT K H' q (rowsV (g.others f n ls)) → Q (.ref q) H'
theorem rowsV_ne {ls : List Ln} (h : ls ≠ []) : rowsV ls ≠ [] := by
  intro e
  apply h
  have := congrArg List.length e
  rw [rowsV_len] at this
  exact List.length_eq_zero_iff.mp this
theorem rowsV_nil {ls : List Ln} (h : rowsV ls = []) : ls = [] := by
  have := congrArg List.length h
  rw [rowsV_len] at this
  exact List.length_eq_zero_iff.mp this
theorem sc_with_lines : FnScope ["page", "first", "many", "lines"] ["page", "first", "many", "lines"] (defScope s_with_lines) := ⟨rfl, rfl, rfl, by decide +kernel, rfl, by decide +kernel, by decide +kernel⟩
theorem ok_with_lines (T : Tx w K mg) : Fk P w K mg base 1 (Ad K d_with_lines.at_) ["page", "first", "many", "lines"] (sp_with_lines K) := by
  refine mkF T.f_with_lines sc_with_lines rfl (fun _ _ _ _ _ _ us hl => match us, hl with | [_, _, _, _], _ => rfl) (fun vs H Q E h => by obtain ⟨_, _, _, _, _, _, _, _, rfl, _⟩ := h; rfl) (fun cdv A outer s H vs Q E hcd hcode hr h => ?_)
  refine ⟨_, (pss_one (ps_ret (pe_op op_catU (pe_op op_catU (pe_slice sl_tupU (pe_fld (pv 0) rfl) po_none (po_some (pv 1))) (pv 3)) (pe_slice sl_tupU (pe_fld (pv 0) rfl) (po_some (pe_op op_add (pv 1) (pv 2))) po_none)))), ?_⟩
  obtain ⟨p, g, i, m, l, ls, f, n, rfl, rfl, rfl, hP, hl, hf, hn, h12, h2, hne, k⟩ := h
  refine ⟨_, rfl, rd_rows T hP fun t ht => ⟨_, rfl, _, rfl, t, _, rfl, ht, fun p1 H1 k1 a1 => ?_⟩⟩
  rw [cutV_to rfl] at a1
  refine ⟨_, rfl, p1, l, _, _, rfl, rfl, a1, k1.tup hl, ?_, fun p2 H2 k2 a2 => ?_⟩
  · rw [rowsV_len, rowsV_len, List.length_take]; exact line16 (by omega)
  rw [rowsV_app] at a2
  have k12 := k1.trans k2
  refine ⟨_, rfl, rd_rows T (k12.page hP) fun t ht => ⟨_, rfl, _, rfl, _, _, rfl, rfl, _, rfl, t, _, rfl, ht, fun p3 H3 k3 a3 => ?_⟩⟩
  rw [cutV_from (n := f + n) (by omega)] at a3
  refine ⟨p2, p3, _, _, rfl, rfl, k3.tup a2, a3, ?_, fun q H4 k4 a4 => ?_⟩
  · rw [rowsV_len, rowsV_len, List.length_append, List.length_take, List.length_drop]; exact line16 (by omega)
  rw [rowsV_app] at a4
  exact k q H4 ((k12.trans k3).trans k4) a4
end
end KT
set_option Elab.async false
set_option linter.all false
set_option maxRecDepth 100000
set_option maxHeartbeats 4000000
namespace KT
open PySem PySem.Spec PyProof.Rows L2 GxR
variable [GT]
theorem Pg.Ok.line60 {g : Pg} (ok : g.Ok) : g.line.length ≤ 60 := by
  unfold Pg.line
  rw [List.getD_eq_getElem?_getD, List.getElem?_eq_getElem ok.row]
  exact ok.long _ (List.getElem_mem _)
theorem Pg.Ok.row60 {g : Pg} (ok : g.Ok) {i : Nat} (h : i < g.rows.length) : (g.rows.getD i []).length ≤ 60 := by
  rw [List.getD_eq_getElem?_getD, List.getElem?_eq_getElem h]
  exact ok.long _ (List.getElem_mem _)
theorem S16 {l : Ln} (h : l.length ≤ 1000) : (S l).length ≤ sizeLine := line16 (by rw [S_len]; omega)
/-- an action of no further argument -/
def spAct (K : PySem.W.Frag) (f : Pg → Option Pg) : Sp := fun vs H Q _ => ∃ p g, vs = [.ref p] ∧ PageAt K H p g ∧ g.Ok ∧ (∀ H', Kq [] H H' → f g = none → Q .non H') ∧ ∀ q H' g', Kq [] H H' → f g = some g' → PageAt K H' q g' → Q (.ref q) H'
/-- .. of a text -/
def spActS (K : PySem.W.Frag) (f : Ln → Pg → Option Pg) : Sp := fun vs H Q _ => ∃ p g s, vs = [.ref p, .str (S s)] ∧ PageAt K H p g ∧ g.Ok ∧ s.length ≤ 60 ∧ (∀ H', Kq [] H H' → f s g = none → Q .non H') ∧ ∀ q H' g', Kq [] H H' → f s g = some g' → PageAt K H' q g' → Q (.ref q) H'
section
variable {P : Program} {w : World} {K : PySem.W.Frag} {mg : Str → Option Value} {base : Heap}
theorem sc_write : FnScope ["page", "signs", "line", "written", "rows"] ["page", "signs"] (defScope s_write) := ⟨rfl, rfl, rfl, by decide +kernel, rfl, by decide +kernel, by decide +kernel⟩
theorem ok_write (T : Tx w K mg) : Fk P w K mg base 3 (Ad K d_write.at_) ["page", "signs"] (spActS K Pg.write) := by
  obtain ⟨t_MOST_SIGNS, h_MOST_SIGNS⟩ := T.i_MOST_SIGNS
  have F_Page___init__ := ok_Page___init__ (P := P) (base := base) T
  have F_line_at := ok_line_at (P := P) (base := base) T
  have F_with_lines := ok_with_lines (P := P) (base := base) T
  refine mkF T.f_write sc_write rfl (fun _ _ _ _ _ _ us hl => match us, hl with | [_, _], _ => rfl) (fun vs H Q E h => by obtain ⟨_, _, _, rfl, _⟩ := h; rfl) (fun cdv A outer s H vs Q E hcd hcode hr h => ?_)
  refine ⟨_, (pss_cons (ps_asg (pe_cF F_line_at (hr.mono (by decide)) T.g_line_at px (pa_cons (pv 0) pa_nil)) (pg_name (i := 2) sc_write.nd rfl (.inl rfl)))
      (pss_cons (ps_if (pt_cmpR op_gt (pe_op op_add (pe_callB call_len_str (by rfl) T.n_len (by decide +kernel) (pa_cons (pv 2) pa_nil)) (pe_callB call_len_str (by rfl) T.n_len (by decide +kernel) (pa_cons (pv 1) pa_nil))) (pe_glob (v := .int 60) (by rfl) h_MOST_SIGNS ⟨_, rfl⟩) (nomark _)) (pss_one (ps_ret pe_non)) pss_nil)
      (pss_cons (ps_asg (pe_op op_add_str (pe_op op_add_str (pe_slice sl_str (pv 2) po_none (po_some (pe_fld (pv 0) rfl))) (pv 1)) (pe_slice sl_str (pv 2) (po_some (pe_fld (pv 0) rfl)) po_none)) (pg_name (i := 3) sc_write.nd rfl (.inl rfl)))
      (pss_cons (ps_asg (pe_cF F_with_lines (hr.mono (by decide)) T.g_with_lines px (pa_cons (pv 0) (pa_cons (pe_fld (pv 0) rfl) (pa_cons pe_int (pa_cons (pe_tup (pa_cons (pv 3) pa_nil)) pa_nil))))) (pg_name (i := 4) sc_write.nd rfl (.inl rfl)))
      (pss_one (ps_ret (pe_kF (spN := sp_Page K) T.k_Page F_Page___init__ (hr.mono (by decide)) T.g_Page px new_Page (pa_cons (pv 4) (pa_cons (pe_fld (pv 0) rfl) (pa_cons (pe_op op_add (pe_fld (pv 0) rfl) (pe_callB call_len_str (by rfl) T.n_len (by decide +kernel) (pa_cons (pv 1) pa_nil))) (pa_cons (pe_fld (pv 0) rfl) pa_nil))))))))))), ?_⟩
  obtain ⟨p, g, ss, rfl, hP, ok, hs, kn, ks⟩ := h
  have h60 := ok.line60
  refine ⟨_, rfl, p, g, rfl, hP, ok.row, ?_⟩
  refine ⟨_, rfl, _, rfl, S16 (by omega), _, rfl, _, rfl, S16 (by omega), _, _, rfl, rfl, _, _, rfl, rfl, _, rfl, ?_⟩
  refine iteD (fun h1 => ?_) (fun h1 => ?_)
  · rw [S_len, S_len] at h1
    exact kn H Kq.refl (by unfold Pg.write; rw [if_pos (by omega)])
  rw [S_len, S_len] at h1
  refine ⟨_, rfl, _, rfl, rd_col T hP ⟨_, rfl, _, rfl, S16 (by omega), ?_⟩⟩
  rw [cut_to g.line (n := g.col) rfl]
  refine ⟨_, rfl, _, _, rfl, rfl, line16 (by rw [S_len, S_len, List.length_take]; omega), ?_⟩
  rw [S_app]
  refine ⟨_, rfl, _, rfl, rd_col T hP ⟨_, rfl, _, rfl, S16 (by omega), ?_⟩⟩
  rw [cut_from g.line (n := g.col) rfl]
  refine ⟨_, _, rfl, rfl, line16 (by rw [S_len, S_len, List.length_append, List.length_take, List.length_drop]; omega), ?_⟩
  rw [S_app]
  refine ⟨_, rfl, _, rfl, rd_row T hP ⟨_, rfl, line16 (by show 1 ≤ 1000000; decide), fun tp ntp => ?_⟩⟩
  refine ⟨p, g, _, _, tp, [_], g.row, 1, rfl, rfl, rfl, (Kq.alloc ntp).page hP, SqT.of upd_same, ok.row, by decide, ok.many, (by show 1 ≤ 2; decide), by simp, fun q H2 k2 a2 => ?_⟩
  have k12 := (Kq.alloc (S := []) (o := .tup [V.str (S (g.line.take g.col ++ ss ++ g.line.drop g.col))]) ntp).trans k2
  have hP2 := k12.page hP
  refine ⟨_, rfl, _, rfl, rd_row T hP2 ⟨_, rfl, rd_col T hP2 ⟨_, rfl, _, rfl, S16 (by omega), _, _, rfl, rfl, _, rfl, rd_clip T hP2 ?_⟩⟩⟩
  refine ⟨q, _, _, _, { rows := g.others g.row 1 [g.line.take g.col ++ ss ++ g.line.drop g.col], row := g.row, col := g.col + ss.length, clip := g.clip }, rfl, rfl, by rw [S_len]; simp, rfl, a2, fun q3 H3 k3 a3 => ?_⟩
  exact ks q3 H3 _ (k12.trans k3) (by unfold Pg.write; rw [if_neg (by omega)]) a3
theorem sc_break_row : FnScope ["page", "line", "rows"] ["page"] (defScope s_break_row) := ⟨rfl, rfl, rfl, by decide +kernel, rfl, by decide +kernel, by decide +kernel⟩
theorem ok_break_row (T : Tx w K mg) : Fk P w K mg base 3 (Ad K d_break_row.at_) ["page"] (spAct K Pg.brk) := by
  obtain ⟨t_MOST_ROWS, h_MOST_ROWS⟩ := T.i_MOST_ROWS
  have F_Page___init__ := ok_Page___init__ (P := P) (base := base) T
  have F_line_at := ok_line_at (P := P) (base := base) T
  have F_with_lines := ok_with_lines (P := P) (base := base) T
  refine mkF T.f_break_row sc_break_row rfl (fun _ _ _ _ _ _ us hl => match us, hl with | [_], _ => rfl) (fun vs H Q E h => by obtain ⟨_, _, rfl, _⟩ := h; rfl) (fun cdv A outer s H vs Q E hcd hcode hr h => ?_)
  refine ⟨_, (pss_cons (ps_if (pt_cmpR op_ge (pe_callB call_len_seq (by rfl) T.n_len (by decide +kernel) (pa_cons (pe_fld (pv 0) rfl) pa_nil)) (pe_glob (v := .int 12) (by rfl) h_MOST_ROWS ⟨_, rfl⟩) (nomark _)) (pss_one (ps_ret pe_non)) pss_nil)
      (pss_cons (ps_asg (pe_cF F_line_at (hr.mono (by decide)) T.g_line_at px (pa_cons (pv 0) pa_nil)) (pg_name (i := 1) sc_break_row.nd rfl (.inl rfl)))
      (pss_cons (ps_asg (pe_cF F_with_lines (hr.mono (by decide)) T.g_with_lines px (pa_cons (pv 0) (pa_cons (pe_fld (pv 0) rfl) (pa_cons pe_int (pa_cons (pe_tup (pa_cons (pe_slice sl_str (pv 1) po_none (po_some (pe_fld (pv 0) rfl))) (pa_cons (pe_slice sl_str (pv 1) (po_some (pe_fld (pv 0) rfl)) po_none) pa_nil))) pa_nil))))) (pg_name (i := 2) sc_break_row.nd rfl (.inl rfl)))
      (pss_one (ps_ret (pe_kF (spN := sp_Page K) T.k_Page F_Page___init__ (hr.mono (by decide)) T.g_Page px new_Page (pa_cons (pv 2) (pa_cons (pe_op op_add (pe_fld (pv 0) rfl) pe_int) (pa_cons pe_int (pa_cons (pe_fld (pv 0) rfl) pa_nil)))))))))), ?_⟩
  obtain ⟨p, g, rfl, hP, ok, kn, ks⟩ := h
  have h60 := ok.line60
  refine ⟨_, rfl, rd_rows T hP fun t ht => ⟨t, _, rfl, .inr ht, _, _, rfl, rfl, _, rfl, ?_⟩⟩
  rw [rowsV_len]
  refine iteD (fun h1 => ?_) (fun h1 => ?_)
  · exact kn H Kq.refl (by unfold Pg.brk; rw [if_pos (by omega)])
  refine ⟨_, rfl, p, g, rfl, hP, ok.row, ?_⟩
  refine ⟨_, rfl, _, rfl, rd_row T hP ⟨_, rfl, _, rfl, rd_col T hP ⟨_, rfl, _, rfl, S16 (by omega), _, rfl, _, rfl, rd_col T hP ⟨_, rfl, _, rfl, S16 (by omega), line16 (by show 2 ≤ 1000000; decide), fun tp ntp => ?_⟩⟩⟩⟩
  rw [cut_to g.line (n := g.col) rfl, cut_from g.line (n := g.col) rfl]
  refine ⟨p, g, _, _, tp, [_, _], g.row, 1, rfl, rfl, rfl, (Kq.alloc ntp).page hP, SqT.of upd_same, ok.row, by decide, ok.many, (by show 2 ≤ 2; decide), by simp, fun q H2 k2 a2 => ?_⟩
  have k12 := (Kq.alloc (S := []) (o := .tup [V.str (S (g.line.take g.col)), V.str (S (g.line.drop g.col))]) ntp).trans k2
  have hP2 := k12.page hP
  refine ⟨_, rfl, _, rfl, rd_row T hP2 ⟨_, _, rfl, rfl, _, rfl, rd_clip T hP2 ?_⟩⟩
  refine ⟨q, _, _, _, { rows := g.others g.row 1 [g.line.take g.col, g.line.drop g.col], row := g.row + 1, col := 0, clip := g.clip }, rfl, by simp, by simp, rfl, a2, fun q3 H3 k3 a3 => ?_⟩
  exact ks q3 H3 _ (k12.trans k3) (by unfold Pg.brk; rw [if_neg (by omega)]) a3
theorem sc_join_row : FnScope ["page", "above", "joined", "rows"] ["page"] (defScope s_join_row) := ⟨rfl, rfl, rfl, by decide +kernel, rfl, by decide +kernel, by decide +kernel⟩
theorem ok_join_row (T : Tx w K mg) : Fk P w K mg base 3 (Ad K d_join_row.at_) ["page"] (spAct K Pg.join) := by
  obtain ⟨t_MOST_SIGNS, h_MOST_SIGNS⟩ := T.i_MOST_SIGNS
  have F_Page___init__ := ok_Page___init__ (P := P) (base := base) T
  have F_line_at := ok_line_at (P := P) (base := base) T
  have F_with_lines := ok_with_lines (P := P) (base := base) T
  refine mkF T.f_join_row sc_join_row rfl (fun _ _ _ _ _ _ us hl => match us, hl with | [_], _ => rfl) (fun vs H Q E h => by obtain ⟨_, _, rfl, _⟩ := h; rfl) (fun cdv A outer s H vs Q E hcd hcode hr h => ?_)
  refine ⟨_, (pss_cons (ps_if (pt_cmpR op_eq (pe_fld (pv 0) rfl) pe_int (nomark _)) (pss_one (ps_ret pe_non)) pss_nil)
      (pss_cons (ps_asg (pe_ix ix_tup (pe_fld (pv 0) rfl) (pe_op op_sub (pe_fld (pv 0) rfl) pe_int) (fun _ _ => rfl)) (pg_name (i := 1) sc_join_row.nd rfl (.inl rfl)))
      (pss_cons (ps_asg (pe_op op_add_str (pv 1) (pe_cF F_line_at (hr.mono (by decide)) T.g_line_at px (pa_cons (pv 0) pa_nil))) (pg_name (i := 2) sc_join_row.nd rfl (.inl rfl)))
      (pss_cons (ps_if (pt_cmpR op_gt (pe_callB call_len_str (by rfl) T.n_len (by decide +kernel) (pa_cons (pv 2) pa_nil)) (pe_glob (v := .int 60) (by rfl) h_MOST_SIGNS ⟨_, rfl⟩) (nomark _)) (pss_one (ps_ret pe_non)) pss_nil)
      (pss_cons (ps_asg (pe_cF F_with_lines (hr.mono (by decide)) T.g_with_lines px (pa_cons (pv 0) (pa_cons (pe_op op_sub (pe_fld (pv 0) rfl) pe_int) (pa_cons pe_int (pa_cons (pe_tup (pa_cons (pv 2) pa_nil)) pa_nil))))) (pg_name (i := 3) sc_join_row.nd rfl (.inl rfl)))
      (pss_one (ps_ret (pe_kF (spN := sp_Page K) T.k_Page F_Page___init__ (hr.mono (by decide)) T.g_Page px new_Page (pa_cons (pv 3) (pa_cons (pe_op op_sub (pe_fld (pv 0) rfl) pe_int) (pa_cons (pe_callB call_len_str (by rfl) T.n_len (by decide +kernel) (pa_cons (pv 1) pa_nil)) (pa_cons (pe_fld (pv 0) rfl) pa_nil)))))))))))), ?_⟩
  obtain ⟨p, g, rfl, hP, ok, kn, ks⟩ := h
  have h60 := ok.line60
  refine ⟨_, rfl, rd_row T hP ⟨rfl, _, rfl, ?_⟩⟩
  refine iteD (fun h1 => ?_) (fun h1 => ?_)
  · have h1 : g.row = 0 := by simpa using h1
    exact kn H Kq.refl (by unfold Pg.join; rw [if_pos h1])
  have h1 : ¬ g.row = 0 := by simpa using h1
  have hrow := ok.row
  have habove : (g.rows.getD (g.row - 1) []).length ≤ 60 := ok.row60 (by omega)
  refine ⟨_, rfl, rd_rows T hP fun t ht => ⟨_, rfl, rd_row T hP ⟨_, _, rfl, rfl, t, _, _, _, rfl, rfl, ht, rows_at (n := g.row - 1) (by omega) (by omega), ?_⟩⟩⟩
  refine ⟨_, rfl, _, rfl, p, g, rfl, hP, ok.row, _, _, rfl, rfl, line16 (by rw [S_len, S_len]; omega), ?_⟩
  rw [S_app]
  refine ⟨_, rfl, _, rfl, S16 (by rw [List.length_append]; omega), _, _, rfl, rfl, _, rfl, ?_⟩
  rw [S_len]
  refine iteD (fun h2 => ?_) (fun h2 => ?_)
  · exact kn H Kq.refl (by unfold Pg.join; rw [if_neg h1, if_pos (by omega)])
  refine ⟨_, rfl, _, rfl, rd_row T hP ⟨_, _, rfl, rfl, _, rfl, line16 (by show 1 ≤ 1000000; decide), fun tp ntp => ?_⟩⟩
  refine ⟨p, g, _, _, tp, [_], g.row - 1, 2, rfl, by omega, rfl, (Kq.alloc ntp).page hP, SqT.of upd_same, by omega, by decide, ok.many, (by show 1 ≤ 2; decide), by simp, fun q H2 k2 a2 => ?_⟩
  have k12 := (Kq.alloc (S := []) (o := .tup [V.str (S (g.rows.getD (g.row - 1) [] ++ g.line))]) ntp).trans k2
  have hP2 := k12.page hP
  refine ⟨_, rfl, _, rfl, rd_row T hP2 ⟨_, _, rfl, rfl, _, rfl, _, rfl, S16 (by omega), _, rfl, rd_clip T hP2 ?_⟩⟩
  refine ⟨q, _, _, _, { rows := g.others (g.row - 1) 2 [g.rows.getD (g.row - 1) [] ++ g.line], row := g.row - 1, col := (g.rows.getD (g.row - 1) []).length, clip := g.clip }, rfl, (by show (g.row : Int) - 1 = ((g.row - 1 : Nat) : Int); omega), by rw [S_len], rfl, a2, fun q3 H3 k3 a3 => ?_⟩
  exact ks q3 H3 _ (k12.trans k3) (by unfold Pg.join; rw [if_neg h1, if_neg (by omega)]) a3
theorem sc_rub : FnScope ["page", "line", "rubbed", "rows"] ["page"] (defScope s_rub) := ⟨rfl, rfl, rfl, by decide +kernel, rfl, by decide +kernel, by decide +kernel⟩
theorem ok_rub (T : Tx w K mg) : Fk P w K mg base 4 (Ad K d_rub.at_) ["page"] (spAct K Pg.rub) := by
  have F_Page___init__ := ok_Page___init__ (P := P) (base := base) T
  have F_join_row := ok_join_row (P := P) (base := base) T
  have F_line_at := ok_line_at (P := P) (base := base) T
  have F_with_lines := ok_with_lines (P := P) (base := base) T
  refine mkF T.f_rub sc_rub rfl (fun _ _ _ _ _ _ us hl => match us, hl with | [_], _ => rfl) (fun vs H Q E h => by obtain ⟨_, _, rfl, _⟩ := h; rfl) (fun cdv A outer s H vs Q E hcd hcode hr h => ?_)
  refine ⟨_, (pss_cons (ps_if (pt_cmpR op_eq (pe_fld (pv 0) rfl) pe_int (nomark _)) (pss_one (ps_ret (pe_cF F_join_row (hr.mono (by decide)) T.g_join_row px (pa_cons (pv 0) pa_nil)))) pss_nil)
      (pss_cons (ps_asg (pe_cF F_line_at (hr.mono (by decide)) T.g_line_at px (pa_cons (pv 0) pa_nil)) (pg_name (i := 1) sc_rub.nd rfl (.inl rfl)))
      (pss_cons (ps_asg (pe_op op_add_str (pe_slice sl_str (pv 1) po_none (po_some (pe_op op_sub (pe_fld (pv 0) rfl) pe_int))) (pe_slice sl_str (pv 1) (po_some (pe_fld (pv 0) rfl)) po_none)) (pg_name (i := 2) sc_rub.nd rfl (.inl rfl)))
      (pss_cons (ps_asg (pe_cF F_with_lines (hr.mono (by decide)) T.g_with_lines px (pa_cons (pv 0) (pa_cons (pe_fld (pv 0) rfl) (pa_cons pe_int (pa_cons (pe_tup (pa_cons (pv 2) pa_nil)) pa_nil))))) (pg_name (i := 3) sc_rub.nd rfl (.inl rfl)))
      (pss_one (ps_ret (pe_kF (spN := sp_Page K) T.k_Page F_Page___init__ (hr.mono (by decide)) T.g_Page px new_Page (pa_cons (pv 3) (pa_cons (pe_fld (pv 0) rfl) (pa_cons (pe_op op_sub (pe_fld (pv 0) rfl) pe_int) (pa_cons (pe_fld (pv 0) rfl) pa_nil))))))))))), ?_⟩
  obtain ⟨p, g, rfl, hP, ok, kn, ks⟩ := h
  have h60 := ok.line60
  refine ⟨_, rfl, rd_col T hP ⟨rfl, _, rfl, ?_⟩⟩
  refine iteD (fun h1 => ?_) (fun h1 => ?_)
  · have h1 : g.col = 0 := by simpa using h1
    have e : g.rub = g.join := by unfold Pg.rub; rw [if_pos h1]
    exact ⟨_, rfl, p, g, rfl, hP, ok, fun H' k' z => kn H' k' (e.trans z), fun q H' g' k' z => ks q H' g' k' (e.trans z)⟩
  have h1 : ¬ g.col = 0 := by simpa using h1
  have hc := ok.col
  refine ⟨_, rfl, p, g, rfl, hP, ok.row, ?_⟩
  refine ⟨_, rfl, _, rfl, rd_col T hP ⟨_, _, rfl, rfl, _, rfl, _, rfl, S16 (by omega), _, rfl, _, rfl, rd_col T hP ⟨_, rfl, _, rfl, S16 (by omega), ?_⟩⟩⟩
  rw [cut_to g.line (n := g.col - 1) (by omega), cut_from g.line (n := g.col) rfl]
  refine ⟨_, _, rfl, rfl, line16 (by rw [S_len, S_len, List.length_take, List.length_drop]; omega), ?_⟩
  rw [S_app]
  refine ⟨_, rfl, _, rfl, rd_row T hP ⟨_, rfl, line16 (by show 1 ≤ 1000000; decide), fun tp ntp => ?_⟩⟩
  refine ⟨p, g, _, _, tp, [_], g.row, 1, rfl, rfl, rfl, (Kq.alloc ntp).page hP, SqT.of upd_same, ok.row, by decide, ok.many, (by show 1 ≤ 2; decide), by simp, fun q H2 k2 a2 => ?_⟩
  have k12 := (Kq.alloc (S := []) (o := .tup [V.str (S (g.line.take (g.col - 1) ++ g.line.drop g.col))]) ntp).trans k2
  have hP2 := k12.page hP
  refine ⟨_, rfl, _, rfl, rd_row T hP2 ⟨_, rfl, rd_col T hP2 ⟨_, _, rfl, rfl, _, rfl, rd_clip T hP2 ?_⟩⟩⟩
  refine ⟨q, _, _, _, { rows := g.others g.row 1 [g.line.take (g.col - 1) ++ g.line.drop g.col], row := g.row, col := g.col - 1, clip := g.clip }, rfl, rfl, (by show (g.col : Int) - 1 = ((g.col - 1 : Nat) : Int); omega), rfl, a2, fun q3 H3 k3 a3 => ?_⟩
  exact ks q3 H3 _ (k12.trans k3) (by unfold Pg.rub; rw [if_neg h1]) a3
theorem sc_go_left : FnScope ["page"] ["page"] (defScope s_go_left) := ⟨rfl, rfl, rfl, by decide +kernel, rfl, by decide +kernel, by decide +kernel⟩
theorem ok_go_left (T : Tx w K mg) : Fk P w K mg base 4 (Ad K d_go_left.at_) ["page"] (spAct K Pg.left) := by
  have F_moved := ok_moved (P := P) (base := base) T
  refine mkF T.f_go_left sc_go_left rfl (fun _ _ _ _ _ _ us hl => match us, hl with | [_], _ => rfl) (fun vs H Q E h => by obtain ⟨_, _, rfl, _⟩ := h; rfl) (fun cdv A outer s H vs Q E hcd hcode hr h => ?_)
  refine ⟨_, (pss_cons (ps_if (pt_cmpR op_gt (pe_fld (pv 0) rfl) pe_int (nomark _)) (pss_one (ps_ret (pe_cF F_moved (hr.mono (by decide)) T.g_moved px (pa_cons (pv 0) (pa_cons (pe_fld (pv 0) rfl) (pa_cons (pe_op op_sub (pe_fld (pv 0) rfl) pe_int) pa_nil)))))) pss_nil)
      (pss_cons (ps_if (pt_cmpR op_eq (pe_fld (pv 0) rfl) pe_int (nomark _)) (pss_one (ps_ret pe_non)) pss_nil)
      (pss_one (ps_ret (pe_cF F_moved (hr.mono (by decide)) T.g_moved px (pa_cons (pv 0) (pa_cons (pe_op op_sub (pe_fld (pv 0) rfl) pe_int) (pa_cons (pe_callB call_len_str (by rfl) T.n_len (by decide +kernel) (pa_cons (pe_ix ix_tup (pe_fld (pv 0) rfl) (pe_op op_sub (pe_fld (pv 0) rfl) pe_int) (fun _ _ => rfl)) pa_nil)) pa_nil)))))))), ?_⟩
  obtain ⟨p, g, rfl, hP, ok, kn, ks⟩ := h
  have hrow := ok.row
  refine ⟨_, rfl, rd_col T hP ⟨_, _, rfl, rfl, _, rfl, ?_⟩⟩
  refine iteD (fun h1 => ?_) (fun h1 => ?_)
  · refine ⟨_, rfl, _, rfl, rd_row T hP ⟨_, rfl, rd_col T hP ⟨_, _, rfl, rfl, p, g, _, _, g.row, g.col - 1, rfl, rfl, by omega, hP, fun q H' k' a' => ?_⟩⟩⟩
    exact ks q H' _ k' (by unfold Pg.left; rw [if_pos (by omega)]) a'
  refine ⟨_, rfl, rd_row T hP ⟨rfl, _, rfl, ?_⟩⟩
  refine iteD (fun h2 => ?_) (fun h2 => ?_)
  · have h2 : g.row = 0 := by simpa using h2
    exact kn H Kq.refl (by unfold Pg.left; rw [if_neg (by omega), if_pos h2])
  have h2 : ¬ g.row = 0 := by simpa using h2
  refine ⟨_, rfl, _, rfl, rd_row T hP ⟨_, _, rfl, rfl, _, rfl, rd_rows T hP fun t ht => ⟨_, rfl, rd_row T hP ⟨_, _, rfl, rfl, t, _, _, _, rfl, rfl, ht, rows_at (n := g.row - 1) (by omega) (by omega), _, rfl, S16 (Nat.le_trans (ok.row60 (by omega)) (by decide)), ?_⟩⟩⟩⟩
  refine ⟨p, g, _, _, g.row - 1, (g.rows.getD (g.row - 1) []).length, rfl, by omega, by rw [S_len], hP, fun q H' k' a' => ?_⟩
  exact ks q H' _ k' (by unfold Pg.left; rw [if_neg (by omega), if_neg h2]) a'
theorem sc_go_right : FnScope ["page"] ["page"] (defScope s_go_right) := ⟨rfl, rfl, rfl, by decide +kernel, rfl, by decide +kernel, by decide +kernel⟩
theorem ok_go_right (T : Tx w K mg) : Fk P w K mg base 4 (Ad K d_go_right.at_) ["page"] (spAct K Pg.right) := by
  have F_line_at := ok_line_at (P := P) (base := base) T
  have F_moved := ok_moved (P := P) (base := base) T
  refine mkF T.f_go_right sc_go_right rfl (fun _ _ _ _ _ _ us hl => match us, hl with | [_], _ => rfl) (fun vs H Q E h => by obtain ⟨_, _, rfl, _⟩ := h; rfl) (fun cdv A outer s H vs Q E hcd hcode hr h => ?_)
  refine ⟨_, (pss_cons (ps_if (pt_cmpR op_lt (pe_fld (pv 0) rfl) (pe_callB call_len_str (by rfl) T.n_len (by decide +kernel) (pa_cons (pe_cF F_line_at (hr.mono (by decide)) T.g_line_at px (pa_cons (pv 0) pa_nil)) pa_nil)) (nomark _)) (pss_one (ps_ret (pe_cF F_moved (hr.mono (by decide)) T.g_moved px (pa_cons (pv 0) (pa_cons (pe_fld (pv 0) rfl) (pa_cons (pe_op op_add (pe_fld (pv 0) rfl) pe_int) pa_nil)))))) pss_nil)
      (pss_cons (ps_if (pt_cmpR op_eq (pe_op op_add (pe_fld (pv 0) rfl) pe_int) (pe_callB call_len_seq (by rfl) T.n_len (by decide +kernel) (pa_cons (pe_fld (pv 0) rfl) pa_nil)) (nomark _)) (pss_one (ps_ret pe_non)) pss_nil)
      (pss_one (ps_ret (pe_cF F_moved (hr.mono (by decide)) T.g_moved px (pa_cons (pv 0) (pa_cons (pe_op op_add (pe_fld (pv 0) rfl) pe_int) (pa_cons pe_int pa_nil)))))))), ?_⟩
  obtain ⟨p, g, rfl, hP, ok, kn, ks⟩ := h
  have hrow := ok.row
  have h60 := ok.line60
  refine ⟨_, rfl, rd_col T hP ⟨_, rfl, p, g, rfl, hP, hrow, _, rfl, S16 (by omega), _, _, rfl, rfl, _, rfl, ?_⟩⟩
  rw [S_len]
  refine iteD (fun h1 => ?_) (fun h1 => ?_)
  · refine ⟨_, rfl, _, rfl, rd_row T hP ⟨_, rfl, rd_col T hP ⟨_, _, rfl, rfl, p, g, _, _, g.row, g.col + 1, rfl, rfl, by omega, hP, fun q H' k' a' => ?_⟩⟩⟩
    exact ks q H' _ k' (by unfold Pg.right; rw [if_pos (by omega)]) a'
  refine ⟨_, rfl, rd_row T hP ⟨_, _, rfl, rfl, _, rfl, rd_rows T hP fun t ht => ⟨t, _, rfl, .inr ht, rfl, _, rfl, ?_⟩⟩⟩
  rw [rowsV_len]
  refine iteD (fun h2 => ?_) (fun h2 => ?_)
  · have h2 : (g.row : Int) + 1 = (g.rows.length : Int) := by simpa using h2
    exact kn H Kq.refl (by unfold Pg.right; rw [if_neg (by omega), if_pos (by omega)])
  have h2 : ¬ (g.row : Int) + 1 = (g.rows.length : Int) := by simpa using h2
  refine ⟨_, rfl, _, rfl, rd_row T hP ⟨_, _, rfl, rfl, p, g, _, _, g.row + 1, 0, rfl, by omega, rfl, hP, fun q H' k' a' => ?_⟩⟩
  exact ks q H' _ k' (by unfold Pg.right; rw [if_neg (by omega), if_neg (by omega)]) a'
def spToRow (K : PySem.W.Frag) : Sp := fun vs H Q _ => ∃ p g i, vs = [.ref p, .int i] ∧ PageAt K H p g ∧ g.Ok ∧ (∀ H', Kq [] H H' → Pg.toRow i g = none → Q .non H') ∧ ∀ q H' g', Kq [] H H' → Pg.toRow i g = some g' → PageAt K H' q g' → Q (.ref q) H'
theorem sc_go_to_row : FnScope ["page", "row"] ["page", "row"] (defScope s_go_to_row) := ⟨rfl, rfl, rfl, by decide +kernel, rfl, by decide +kernel, by decide +kernel⟩
theorem ok_go_to_row (T : Tx w K mg) : Fk P w K mg base 4 (Ad K d_go_to_row.at_) ["page", "row"] (spToRow K) := by
  have F_moved := ok_moved (P := P) (base := base) T
  refine mkF T.f_go_to_row sc_go_to_row rfl (fun _ _ _ _ _ _ us hl => match us, hl with | [_, _], _ => rfl) (fun vs H Q E h => by obtain ⟨_, _, _, rfl, _⟩ := h; rfl) (fun cdv A outer s H vs Q E hcd hcode hr h => ?_)
  refine ⟨_, (pss_cons (ps_if ((pw_or (pt_cmpR op_lt (pv 1) pe_int (nomark _)) (pw_or1 (pt_cmpR op_ge (pv 1) (pe_callB call_len_seq (by rfl) T.n_len (by decide +kernel) (pa_cons (pe_fld (pv 0) rfl) pa_nil)) (nomark _))))).pt (pss_one (ps_ret pe_non)) pss_nil)
      (pss_one (ps_ret (pe_cF F_moved (hr.mono (by decide)) T.g_moved px (pa_cons (pv 0) (pa_cons (pv 1) (pa_cons (pe_callB (call_min2 rfl) (by rfl) T.n_min (by decide +kernel) (pa_cons (pe_fld (pv 0) rfl) (pa_cons (pe_callB call_len_str (by rfl) T.n_len (by decide +kernel) (pa_cons (pe_ix ix_tup (pe_fld (pv 0) rfl) (pv 1) (fun _ _ => rfl)) pa_nil)) pa_nil))) pa_nil))))))), ?_⟩
  obtain ⟨p, g, i, rfl, hP, ok, kn, ks⟩ := h
  refine ⟨_, rfl, _, _, rfl, rfl, _, rfl, ?_⟩
  refine iteD (fun h1 => iteT ?_) (fun h1 => ?_)
  · exact kn H Kq.refl (by unfold Pg.toRow; rw [if_pos (Or.inl h1)])
  refine ⟨_, rfl, _, rfl, rd_rows T hP fun t ht => ⟨t, _, rfl, .inr ht, _, _, rfl, rfl, _, rfl, ?_⟩⟩
  rw [rowsV_len]
  refine iteD (fun h2 => ?_) (fun h2 => ?_)
  · exact kn H Kq.refl (by unfold Pg.toRow; rw [if_pos (Or.inr h2)])
  obtain ⟨n, rfl⟩ : ∃ n : Nat, i = (n : Int) := ⟨i.toNat, by omega⟩
  refine ⟨_, rfl, _, rfl, _, rfl, rd_col T hP ⟨_, rfl, rd_rows T hP fun t ht => ⟨_, rfl, t, _, _, _, rfl, rfl, ht, rows_at (n := n) rfl (by omega), _, rfl, S16 (Nat.le_trans (ok.row60 (by omega)) (by decide)), _, _, rfl, ?_⟩⟩⟩
  rw [S_len]
  refine ⟨p, g, _, _, n, min g.col (g.rows.getD n []).length, rfl, rfl, ?_, hP, fun q H' k' a' => ?_⟩
  · split <;> omega
  exact ks q H' _ k' (by unfold Pg.toRow; rw [if_neg (by omega)]; rfl) a'
theorem sc_go_up : FnScope ["page"] ["page"] (defScope s_go_up) := ⟨rfl, rfl, rfl, by decide +kernel, rfl, by decide +kernel, by decide +kernel⟩
theorem ok_go_up (T : Tx w K mg) : Fk P w K mg base 5 (Ad K d_go_up.at_) ["page"] (spAct K Pg.up) := by
  have F_go_to_row := ok_go_to_row (P := P) (base := base) T
  refine mkF T.f_go_up sc_go_up rfl (fun _ _ _ _ _ _ us hl => match us, hl with | [_], _ => rfl) (fun vs H Q E h => by obtain ⟨_, _, rfl, _⟩ := h; rfl) (fun cdv A outer s H vs Q E hcd hcode hr h => ?_)
  refine ⟨_, (pss_one (ps_ret (pe_cF F_go_to_row (hr.mono (by decide)) T.g_go_to_row px (pa_cons (pv 0) (pa_cons (pe_op op_sub (pe_fld (pv 0) rfl) pe_int) pa_nil))))), ?_⟩
  obtain ⟨p, g, rfl, hP, ok, kn, ks⟩ := h
  exact ⟨_, rfl, _, rfl, rd_row T hP ⟨_, _, rfl, rfl, p, g, _, rfl, hP, ok, fun H' k' z => kn H' k' z, fun q H' g' k' z => ks q H' g' k' z⟩⟩
theorem sc_go_down : FnScope ["page"] ["page"] (defScope s_go_down) := ⟨rfl, rfl, rfl, by decide +kernel, rfl, by decide +kernel, by decide +kernel⟩
theorem ok_go_down (T : Tx w K mg) : Fk P w K mg base 5 (Ad K d_go_down.at_) ["page"] (spAct K Pg.down) := by
  have F_go_to_row := ok_go_to_row (P := P) (base := base) T
  refine mkF T.f_go_down sc_go_down rfl (fun _ _ _ _ _ _ us hl => match us, hl with | [_], _ => rfl) (fun vs H Q E h => by obtain ⟨_, _, rfl, _⟩ := h; rfl) (fun cdv A outer s H vs Q E hcd hcode hr h => ?_)
  refine ⟨_, (pss_one (ps_ret (pe_cF F_go_to_row (hr.mono (by decide)) T.g_go_to_row px (pa_cons (pv 0) (pa_cons (pe_op op_add (pe_fld (pv 0) rfl) pe_int) pa_nil))))), ?_⟩
  obtain ⟨p, g, rfl, hP, ok, kn, ks⟩ := h
  exact ⟨_, rfl, _, rfl, rd_row T hP ⟨_, _, rfl, rfl, p, g, _, rfl, hP, ok, fun H' k' z => kn H' k' z, fun q H' g' k' z => ks q H' g' k' z⟩⟩
theorem sc_go_home : FnScope ["page"] ["page"] (defScope s_go_home) := ⟨rfl, rfl, rfl, by decide +kernel, rfl, by decide +kernel, by decide +kernel⟩
theorem ok_go_home (T : Tx w K mg) : Fk P w K mg base 4 (Ad K d_go_home.at_) ["page"] (spAct K Pg.home) := by
  have F_moved := ok_moved (P := P) (base := base) T
  refine mkF T.f_go_home sc_go_home rfl (fun _ _ _ _ _ _ us hl => match us, hl with | [_], _ => rfl) (fun vs H Q E h => by obtain ⟨_, _, rfl, _⟩ := h; rfl) (fun cdv A outer s H vs Q E hcd hcode hr h => ?_)
  refine ⟨_, (pss_one (ps_ret (pe_cF F_moved (hr.mono (by decide)) T.g_moved px (pa_cons (pv 0) (pa_cons (pe_fld (pv 0) rfl) (pa_cons pe_int pa_nil)))))), ?_⟩
  obtain ⟨p, g, rfl, hP, ok, kn, ks⟩ := h
  exact ⟨_, rfl, _, rfl, rd_row T hP ⟨p, g, _, _, g.row, 0, rfl, rfl, rfl, hP, fun q H' k' a' => ks q H' _ k' rfl a'⟩⟩
theorem sc_go_end : FnScope ["page"] ["page"] (defScope s_go_end) := ⟨rfl, rfl, rfl, by decide +kernel, rfl, by decide +kernel, by decide +kernel⟩
theorem ok_go_end (T : Tx w K mg) : Fk P w K mg base 4 (Ad K d_go_end.at_) ["page"] (spAct K Pg.end_) := by
  have F_line_at := ok_line_at (P := P) (base := base) T
  have F_moved := ok_moved (P := P) (base := base) T
  refine mkF T.f_go_end sc_go_end rfl (fun _ _ _ _ _ _ us hl => match us, hl with | [_], _ => rfl) (fun vs H Q E h => by obtain ⟨_, _, rfl, _⟩ := h; rfl) (fun cdv A outer s H vs Q E hcd hcode hr h => ?_)
  refine ⟨_, (pss_one (ps_ret (pe_cF F_moved (hr.mono (by decide)) T.g_moved px (pa_cons (pv 0) (pa_cons (pe_fld (pv 0) rfl) (pa_cons (pe_callB call_len_str (by rfl) T.n_len (by decide +kernel) (pa_cons (pe_cF F_line_at (hr.mono (by decide)) T.g_line_at px (pa_cons (pv 0) pa_nil)) pa_nil)) pa_nil)))))), ?_⟩
  obtain ⟨p, g, rfl, hP, ok, kn, ks⟩ := h
  have h60 := ok.line60
  exact ⟨_, rfl, _, rfl, rd_row T hP ⟨_, rfl, p, g, rfl, hP, ok.row, _, rfl, S16 (by omega), p, g, _, _, g.row, g.line.length, rfl, rfl, by rw [S_len], hP, fun q H' k' a' => ks q H' _ k' rfl a'⟩⟩
theorem sc_lay : FnScope ["page"] ["page"] (defScope s_lay) := ⟨rfl, rfl, rfl, by decide +kernel, rfl, by decide +kernel, by decide +kernel⟩
theorem ok_lay (T : Tx w K mg) : Fk P w K mg base 4 (Ad K d_lay.at_) ["page"] (spAct K Pg.lay) := by
  have F_write := ok_write (P := P) (base := base) T
  refine mkF T.f_lay sc_lay rfl (fun _ _ _ _ _ _ us hl => match us, hl with | [_], _ => rfl) (fun vs H Q E h => by obtain ⟨_, _, rfl, _⟩ := h; rfl) (fun cdv A outer s H vs Q E hcd hcode hr h => ?_)
  refine ⟨_, (pss_cons (ps_if (pt_cmpR op_eq (pe_fld (pv 0) rfl) pe_str (nomark _)) (pss_one (ps_ret pe_non)) pss_nil)
      (pss_one (ps_ret (pe_cF F_write (hr.mono (by decide)) T.g_write px (pa_cons (pv 0) (pa_cons (pe_fld (pv 0) rfl) pa_nil)))))), ?_⟩
  obtain ⟨p, g, rfl, hP, ok, kn, ks⟩ := h
  refine ⟨_, rfl, rd_clip T hP ⟨rfl, _, rfl, ?_⟩⟩
  refine iteD (fun h1 => ?_) (fun h1 => ?_)
  · have h1 : g.clip = [] := S_inj (V.str.inj h1)
    exact kn H Kq.refl (by unfold Pg.lay; rw [if_pos h1])
  have h1 : ¬ g.clip = [] := fun e => h1 (by rw [e]; rfl)
  have e : g.lay = g.write g.clip := by unfold Pg.lay; rw [if_neg h1]
  exact ⟨_, rfl, _, rfl, rd_clip T hP ⟨p, g, g.clip, rfl, hP, ok, ok.clip, fun H' k' z => kn H' k' (e.trans z), fun q H' g' k' z => ks q H' g' k' (e.trans z)⟩⟩
end
end KT
set_option Elab.async false
set_option linter.all false
set_option maxRecDepth 100000
set_option maxHeartbeats 4000000
namespace KT
open PySem PySem.Spec PyProof.Rows L2 GxR
variable [GT]
/-! ### the next place of a word -/
theorem stands_at (w l : Ln) (c : Nat) : StrLaws.At (S l) (S w) (S l).length c ↔ stands w l c = true := by
  unfold StrLaws.At stands
  rw [StrLaws.subAt_eq, S_len, S_len]
  have e1 : (S l).cps.toList = l := by simp
  have e2 : (S w).cps.toList = w := by simp
  rw [e1, e2]
  simp
theorem firstAt_none {w l : Ln} : ∀ {n c : Nat}, firstAt w l c n = none ↔ ∀ i, c ≤ i → i < c + n → stands w l i = false
  | 0, c => by simp [firstAt]; intro i h1 h2; omega
  | n + 1, c => by
    unfold firstAt
    by_cases h : stands w l c = true
    · rw [if_pos h]
      constructor
      · intro e; cases e
      · intro e; rw [e c (Nat.le_refl _) (by omega)] at h; cases h
    · rw [if_neg h, firstAt_none]
      constructor
      · intro e i h1 h2
        by_cases hi : i = c
        · subst hi; simpa using h
        · exact e i (by omega) (by omega)
      · intro e i h1 h2; exact e i (by omega) (by omega)
theorem firstAt_some {w l : Ln} {j : Nat} : ∀ {n c : Nat}, firstAt w l c n = some j ↔ c ≤ j ∧ j < c + n ∧ stands w l j = true ∧ ∀ i, c ≤ i → i < j → stands w l i = false
  | 0, c => by simp [firstAt]; intro h1 h2; omega
  | n + 1, c => by
    unfold firstAt
    by_cases h : stands w l c = true
    · rw [if_pos h]
      constructor
      · intro e; cases e; exact ⟨Nat.le_refl _, by omega, h, fun i h1 h2 => by omega⟩
      · rintro ⟨h1, h2, h3, h4⟩
        by_cases hj : c = j
        · rw [hj]
        · rw [h4 c (Nat.le_refl _) (by omega)] at h; cases h
    · rw [if_neg h, firstAt_some]
      constructor
      · rintro ⟨h1, h2, h3, h4⟩
        refine ⟨by omega, by omega, h3, fun i h5 h6 => ?_⟩
        by_cases hi : i = c
        · subst hi; simpa using h
        · exact h4 i (by omega) h6
      · rintro ⟨h1, h2, h3, h4⟩
        have : c ≠ j := fun e => by subst e; exact h h3
        exact ⟨by omega, by omega, h3, fun i h5 h6 => h4 i (by omega) h6⟩
theorem seek_cons (w l : Ln) (r : List Ln) (k c : Nat) : seek w (l :: r) k c = match findL w l c with | some j => some (k, j) | none => seek w r (k + 1) 0 := rfl
theorem find3_eq (l w : Ln) (c : Nat) : Txt.find3 (S l) (S w) (c : Int) = match findL w l c with | some j => (j : Int) | none => -1 := by
  unfold Txt.find3
  have ec : fromIndex (S l).length (c : Int) = c := by
    unfold fromIndex
    rw [if_neg (by omega)]
    omega
  rw [ec, StrLaws.occ_eq]
  rcases StrLaws.occ_first (S l) (S w) (S l).length 1 (Nat.le_refl _) (List.range' c ((S l).length + 1 - c)) c (fun i hi => by rw [List.mem_range'] at hi; obtain ⟨k, _, rfl⟩ := hi; omega) with ⟨h0, hn⟩ | ⟨pre, a, post, e, h0, ha, hn⟩
  · rw [h0]
    have : findL w l c = none := by
      unfold findL
      rw [firstAt_none]
      intro i h1 h2
      have := hn i (by rw [List.mem_range']; exact ⟨i - c, by rw [S_len]; omega, by omega⟩)
      rw [stands_at] at this
      simpa using this
    rw [this]
  · have hp : ∀ i, c ≤ i → i < a → i ∈ pre := by
      have hL : ((S l).length + 1 - c) = pre.length + (post.length + 1) := by
        have := congrArg List.length e
        simpa using this
      have hlen : c + pre.length = a := by
        have h1 : (List.range' c ((S l).length + 1 - c))[pre.length]? = some a := by rw [e]; simp
        rw [List.getElem?_range' (by omega)] at h1
        simpa using h1
      intro i h1 h2
      have h3 : (List.range' c ((S l).length + 1 - c))[i - c]? = pre[i - c]? := by rw [e, List.getElem?_append_left (by omega)]
      rw [List.getElem?_range' (by omega)] at h3
      have : pre[i - c]? = some i := by rw [← h3]; congr 1; omega
      exact List.mem_of_getElem? this
    have hmem : a ∈ List.range' c ((S l).length + 1 - c) := by rw [e]; simp
    rw [List.mem_range'] at hmem
    obtain ⟨k, hk, ea⟩ := hmem
    have : findL w l c = some a := by
      unfold findL
      rw [firstAt_some]
      refine ⟨by omega, by rw [S_len] at hk; omega, (stands_at w l a).mp ha, fun i h1 h2 => ?_⟩
      have := hn i (hp i h1 h2)
      rw [stands_at] at this
      simpa using this
    rw [this]
    generalize (forIn (List.range' c ((S l).length + 1 - c)) ((#[] : Array Nat), c) (StrLaws.occBody (S l) (S w) (S l).length 1)).run.fst = arr at h0
    have h1 : arr.toList[0]? = some a := by simpa using h0
    cases hL : arr.toList with
    | nil => rw [hL] at h1; cases h1
    | cons b r => rw [hL] at h1; cases h1; rfl
theorem one_lt (a b : Nat) : ([a] < [b]) ↔ a < b := by
  constructor
  · intro h
    cases h with
    | rel h => exact h
    | cons h => cases h
  · intro h
    exact List.Lex.rel h
theorem sign_lo (c : Nat) : ((⟨#[c]⟩ : Str).cps.toList < (Str.ofString "a").cps.toList) ↔ c < 97 := by
  rw [show (Str.ofString "a").cps.toList = [97] by decide +kernel]
  exact one_lt c 97
theorem sign_hi (c : Nat) : ((Str.ofString "z").cps.toList < (⟨#[c]⟩ : Str).cps.toList) ↔ 122 < c := by
  rw [show (Str.ofString "z").cps.toList = [122] by decide +kernel]
  exact one_lt 122 c
theorem takeWhile_len {α : Type} (q : α → Bool) (d : α) : ∀ (l : List α) (n : Nat), n ≤ l.length → (∀ i, i < n → q (l.getD i d) = true) → (n = l.length ∨ q (l.getD n d) = false) → (l.takeWhile q).length = n
  | [], n, h, _, _ => by simp at h; subst h; rfl
  | a :: r, 0, _, _, h2 => by
    rcases h2 with h2 | h2
    · simp at h2
    · have : q a = false := by simpa using h2
      rw [List.takeWhile_cons, this]; rfl
  | a :: r, n + 1, h, h1, h2 => by
    have ha : q a = true := by simpa using h1 0 (by omega)
    rw [List.takeWhile_cons, ha]
    show (r.takeWhile q).length + 1 = n + 1
    rw [takeWhile_len q d r n (by simpa using h) (fun i hi => by simpa using h1 (i + 1) (by omega)) (by simpa using h2)]
theorem lets_eq {l : Ln} {c e : Nat} (h : ∀ i, c ≤ i → i < e → isLet (l.getD i 0) = true) (h1 : c ≤ e) (h2 : e ≤ l.length) (h3 : e = l.length ∨ isLet (l.getD e 0) = false) : lets (l.drop c) = e - c := by
  unfold lets
  have g : ∀ i, (l.drop c).getD i 0 = l.getD (c + i) 0 := fun i => by rw [List.getD_eq_getElem?_getD, List.getElem?_drop, List.getD_eq_getElem?_getD]
  refine takeWhile_len isLet 0 (l.drop c) (e - c) (by rw [List.length_drop]; omega) (fun i hi => ?_) ?_
  · rw [g]; exact h _ (by omega) (by omega)
  · rw [g, List.length_drop, show c + (e - c) = e by omega]
    rcases h3 with h3 | h3
    · left; omega
    · right; exact h3
section
variable {P : Program} {w : World} {K : PySem.W.Frag} {mg : Str → Option Value} {base : Heap}
theorem sc_take : FnScope ["page", "line", "end", "rows"] ["page"] (defScope s_take) := ⟨rfl, rfl, rfl, by decide +kernel, rfl, by decide +kernel, by decide +kernel⟩
theorem ok_take (T : Tx w K mg) : Fk P w K mg base 3 (Ad K d_take.at_) ["page"] (spAct K Pg.take) := by
  have F_Page___init__ := ok_Page___init__ (P := P) (base := base) T
  have F_line_at := ok_line_at (P := P) (base := base) T
  have F_with_lines := ok_with_lines (P := P) (base := base) T
  refine mkF T.f_take sc_take rfl (fun _ _ _ _ _ _ us hl => match us, hl with | [_], _ => rfl) (fun vs H Q E h => by obtain ⟨_, _, rfl, _⟩ := h; rfl) (fun cdv A outer s H vs Q E hcd hcode hr h => ?_)
  have po : PassesOwn (model P w) (CxD P w K mg base ["page", "line", "end", "rows"] d_take cdv A outer s H E).A (CxD P w K mg base ["page", "line", "end", "rows"] d_take cdv A outer s H E).env (CxD P w K mg base ["page", "line", "end", "rows"] d_take cdv A outer s H E).xe := passes_of rfl
  refine ⟨_, (pss_cons (ps_asg (pe_cF F_line_at (hr.mono (by decide)) T.g_line_at px (pa_cons (pv 0) pa_nil)) (pg_name (i := 1) sc_take.nd rfl (.inl rfl)))
      (pss_cons (ps_asg (pe_fld (pv 0) rfl) (pg_name (i := 2) sc_take.nd rfl (.inl rfl)))
      (pss_cons (ps_while po ((pw_and (pt_cmpR op_lt (pv 2) (pe_callB call_len_str (by rfl) T.n_len (by decide +kernel) (pa_cons (pv 1) pa_nil)) (nomark _)) (pw_and1 (pt_chain op_le_str op_le_str pe_str (pe_ix ix_str (pv 1) (pv 2) (fun _ _ => rfl)) pe_str)))).pt (pss_one (ps_aug (i := 2) sc_take.nd rfl (.inl rfl) pe_int ip_add)))
      (pss_cons (ps_if (pt_cmpR op_eq (pv 2) (pe_fld (pv 0) rfl) (nomark _)) (pss_one (ps_ret pe_non)) pss_nil)
      (pss_cons (ps_asg (pe_cF F_with_lines (hr.mono (by decide)) T.g_with_lines px (pa_cons (pv 0) (pa_cons (pe_fld (pv 0) rfl) (pa_cons pe_int (pa_cons (pe_tup (pa_cons (pe_op op_add_str (pe_slice sl_str (pv 1) po_none (po_some (pe_fld (pv 0) rfl))) (pe_slice sl_str (pv 1) (po_some (pv 2)) po_none)) pa_nil)) pa_nil))))) (pg_name (i := 3) sc_take.nd rfl (.inl rfl)))
      (pss_one (ps_ret (pe_kF (spN := sp_Page K) T.k_Page F_Page___init__ (hr.mono (by decide)) T.g_Page px new_Page (pa_cons (pv 3) (pa_cons (pe_fld (pv 0) rfl) (pa_cons (pe_fld (pv 0) rfl) (pa_cons (pe_slice sl_str (pv 1) (po_some (pe_fld (pv 0) rfl)) (po_some (pv 2))) pa_nil)))))))))))), ?_⟩
  obtain ⟨p, g, rfl, hP, ok, kn, ks⟩ := h
  have h60 := ok.line60
  have hcol := ok.col
  refine ⟨_, rfl, p, g, rfl, hP, ok.row, ?_⟩
  refine ⟨_, rfl, rd_col T hP ?_⟩
  refine ⟨fun m σ H' => H' = H ∧ ∃ e : Nat, σ = [some (.ref p), some (.str (S g.line)), some (.int (e : Int)), none] ∧ g.col ≤ e ∧ e ≤ g.line.length ∧ (∀ i, g.col ≤ i → i < e → isLet (g.line.getD i 0) = true) ∧ m = g.line.length - e,
    ⟨_, rfl, g.col, rfl, Nat.le_refl _, hcol, fun i h1 h2 => by omega, rfl⟩, ?_⟩
  rintro m σ H' ⟨rfl, e, rfl, he1, he2, hlet, rfl⟩
  refine ⟨_, rfl, _, rfl, _, rfl, S16 (by omega), _, _, rfl, rfl, _, rfl, ?_⟩
  rw [S_len]
  -- what follows the loop
  have fin : e = g.line.length ∨ isLet (g.line.getD e 0) = false → lets (g.line.drop g.col) = e - g.col := fun hend => lets_eq hlet he1 he2 hend
  have after : lets (g.line.drop g.col) = e - g.col → tSeq (tIfS (tTest (tOp rEq (tVar 2) (tFld K (tVar 0) "column"))) (tRet (tC .non)) tNext)
      (tSeq (tAsg (tCF (sp_with_lines K) E (tCons (tVar 0) (tCons (tFld K (tVar 0) "row") (tCons (tC (.int 1)) (tCons (tTup (tCons (tOp (fun x y H Q => ∃ i j, x = .str i ∧ y = .str j ∧ i.length + j.length ≤ sizeLine ∧ Q (.str (i ++ j)) H)
        (tSl rSlS (tVar 1) tNoPart (tPart (tFld K (tVar 0) "column"))) (tSl rSlS (tVar 1) (tPart (tVar 2)) tNoPart)) tNil)) tNil))))) (gName 3))
      (tRet (tCF (sp_Page K) E (tCons (tVar 3) (tCons (tFld K (tVar 0) "row") (tCons (tFld K (tVar 0) "column") (tCons (tSl rSlS (tVar 1) (tPart (tFld K (tVar 0) "column")) (tPart (tVar 2))) tNil)))))))
      { nx := fun _ H' => Q .non H', rt := Q } [some (.ref p), some (.str (S g.line)), some (.int (e : Int)), none] H' := by
    intro hl
    refine ⟨_, rfl, _, rfl, rd_col T hP ⟨rfl, _, rfl, ?_⟩⟩
    refine iteD (fun h1 => ?_) (fun h1 => ?_)
    · have h1 : (e : Int) = (g.col : Int) := V.int.inj h1
      exact kn H' Kq.refl (by unfold Pg.take; simp only [hl]; rw [if_pos (by omega)])
    have h1 : ¬ (e : Int) = (g.col : Int) := fun z => h1 (by rw [z])
    refine ⟨_, rfl, _, rfl, rd_row T hP ⟨_, rfl, _, rfl, rd_col T hP ⟨_, rfl, _, rfl, S16 (by omega), _, rfl, _, rfl, _, rfl, _, rfl, S16 (by omega), ?_⟩⟩⟩
    rw [cut_to g.line (n := g.col) rfl, cut_from g.line (n := e) rfl]
    refine ⟨_, _, rfl, rfl, line16 (by rw [S_len, S_len, List.length_take, List.length_drop]; omega), ?_⟩
    rw [S_app]
    refine ⟨line16 (by show 1 ≤ 1000000; decide), fun tp ntp => ?_⟩
    refine ⟨p, g, _, _, tp, [_], g.row, 1, rfl, rfl, rfl, (Kq.alloc ntp).page hP, SqT.of upd_same, ok.row, by decide, ok.many, (by show 1 ≤ 2; decide), by simp, fun q H2 k2 a2 => ?_⟩
    have k12 := (Kq.alloc (S := []) (o := .tup [V.str (S (g.line.take g.col ++ g.line.drop e))]) ntp).trans k2
    have hP2 := k12.page hP
    refine ⟨_, rfl, _, rfl, rd_row T hP2 ⟨_, rfl, rd_col T hP2 ⟨_, rfl, _, rfl, rd_col T hP2 ⟨_, rfl, _, rfl, _, rfl, _, rfl, S16 (by omega), ?_⟩⟩⟩⟩
    rw [cut_mid g.line (a := g.col) (b := e) rfl rfl]
    refine ⟨q, _, _, _, { rows := g.others g.row 1 [g.line.take g.col ++ g.line.drop e], row := g.row, col := g.col, clip := (g.line.drop g.col).take (e - g.col) }, rfl, rfl, rfl, rfl, a2, fun q3 H3 k3 a3 => ?_⟩
    refine ks q3 H3 _ (k12.trans k3) ?_ a3
    unfold Pg.take
    simp only [hl]
    rw [if_neg (by omega), show g.col + (e - g.col) = e by omega]
  refine iteD (fun h1 => ?_) (fun h1 => ?_)
  · have h1 : e < g.line.length := by omega
    have eg : g.line[e]? = some (g.line.getD e 0) := by rw [List.getElem?_eq_getElem h1, List.getD_eq_getElem?_getD, List.getElem?_eq_getElem h1]; rfl
    refine ⟨_, rfl, _, rfl, _, _, g.line.getD e 0, rfl, rfl, S16 (by omega), (by rw [show (S g.line).cps.toList = g.line by simp]; exact atI_nat eg), _, _, rfl, rfl, _, rfl, ?_⟩
    refine iteN (fun h2 => ?_) (fun h2 => ?_)
    · rw [sign_lo] at h2
      refine ⟨_, _, rfl, rfl, _, rfl, ?_⟩
      refine iteN (fun h3 => ?_) (fun h3 => ?_)
      · rw [sign_hi] at h3
        refine ⟨fun σ' H2 => H2 = H' ∧ σ' = [some (.ref p), some (.str (S g.line)), some (.int ((e + 1 : Nat) : Int)), none], fun σ' H2 ⟨e1, e2⟩ => ⟨g.line.length - (e + 1), by omega, e1, e + 1, e2, by omega, h1, fun i hi1 hi2 => ?_, rfl⟩, ?_⟩
        · by_cases hi : i = e
          · subst hi
            show (decide (97 ≤ g.line.getD i 0) && decide (g.line.getD i 0 ≤ 122)) = true
            simp only [Bool.and_eq_true, decide_eq_true_eq]
            omega
          · exact hlet i hi1 (by omega)
        · exact ⟨_, rfl, _, _, rfl, rfl, rfl, rfl⟩
      · rw [sign_hi] at h3
        exact after (fin (Or.inr (by show (decide (97 ≤ g.line.getD e 0) && decide (g.line.getD e 0 ≤ 122)) = false; simp only [Bool.and_eq_false_iff, decide_eq_false_iff_not]; omega)))
    · rw [sign_lo] at h2
      refine ⟨_, rfl, ?_⟩
      exact after (fin (Or.inr (by show (decide (97 ≤ g.line.getD e 0) && decide (g.line.getD e 0 ≤ 122)) = false; simp only [Bool.and_eq_false_iff, decide_eq_false_iff_not]; omega)))
  · exact after (fin (Or.inl (by omega)))
end
end KT
set_option Elab.async false
set_option linter.all false
set_option maxRecDepth 100000
set_option maxHeartbeats 4000000
namespace KT
open PySem PySem.Spec PyProof.Rows L2 GxR
variable [GT]
/-! ### keys in the heap -/
def nameS (n : Nat) : Str := S [97 + n]
def keyV : Ky → List V
  | .put s => [.str "put", .str (S s)]
  | .find s => [.str "find", .str (S s)]
  | .brk => [.str "break"]
  | .rub => [.str "rub"]
  | .left => [.str "left"]
  | .right => [.str "right"]
  | .up => [.str "up"]
  | .down => [.str "down"]
  | .home => [.str "home"]
  | .end_ => [.str "end"]
  | .take => [.str "take"]
  | .lay => [.str "lay"]
  | .play n m => [.str "play", .str (nameS n), .int m]
  | .till n => [.str "till", .str (nameS n)]
def KeyAt (K : PySem.W.Frag) (H : Hp) (a : Addr) (k : Ky) : Prop := SqT K H a (keyV k)
theorem Kq.key {K : PySem.W.Frag} {H H1 : Hp} (a : Kq [] H H1) {p : Addr} {k : Ky} (h : KeyAt K H p k) : KeyAt K H1 p k := a.tup h
section
variable {X : Cx} {k i : Nat} {f : Addr} {ps : List Str} {sp : Sp} {E : XK} {x : Str} {p pos : Pos} {e : Expr} {es : List Expr} {t : TA}
/-- f(e, ..), f a name of the def that holds one of several defs -/
def tCallV (P : Program) (w : World) (K : PySem.W.Frag) (mg : Str → Option Value) (base : Heap) (k i : Nat) (E : XK) (t : TA) : TE := fun σ H Q => ∃ f ps sp, σ[i]? = some (some (.ref f)) ∧ Fk P w K mg base k f ps sp ∧ t σ H fun vs H1 => sp vs H1 Q E
theorem pe_callV (hr : Room k X.A) (hx : Passes (L2.CX X.prog X.w) X E) (ha : PA X (e :: es) t) (hN : X.N[i]? = some x := by rfl) (hv : Vis X.env.scope x := by exact Or.inl rfl)
    (hdb : (x == ("__debug__" : Str)) = false := by decide) (hcd : (x == ("__classdict__" : Str)) = false := by decide)
    (he : starEach (e :: es) X.env = (false, eval e X.env) :: starEach es X.env := by rfl) (hpl : (backTo pos (starEach es X.env)).any (·.1) = false := by rfl) : PE X (.Call (.Name x p) (e :: es) [] pos) (tCallV X.prog X.w X.K X.mg X.base k i E t) := by
  refine ⟨fun pins s σ H Q I h => ?_⟩
  obtain ⟨f, ps, sp, hs, F, ht⟩ := h
  refine wpAny_Call_Name_kw (thn ((pe_var (pos := p) hN hv hdb hcd).run pins s σ H (fun v H1 => v = .ref f ∧ H1 = H) I ⟨.ref f, hs, rfl, rfl⟩) fun u s1 ⟨v, H1, I1, r1, q1⟩ => ?_)
  obtain ⟨rfl, rfl⟩ := q1
  cases r1
  refine PySem.W.callWith_K (h₀ := X.base) I.ok.mod.kin F.kp (thn (ha.run pos pins s1 σ _ _ I1 ht) fun us s2 ⟨vs, H2, I2, r, q⟩ => ⟨I2.kIn, ?_⟩) he hpl
  have q' : sp (vs ++ []) H2 Q E := by rw [List.append_nil]; exact q
  exact run_fn F.ok hr F.b .nil hx I2 r q'
end
section
variable {P : Program} {w : World} {K : PySem.W.Frag} {mg : Str → Option Value} {base : Heap}
theorem Tx.tab (T : Tx w K mg) : ∃ es n, KDict K w (He.ga K "ACTIONS") es n := by
  obtain ⟨_, _, _, c⟩ := T.ex
  exact c.t.tab 0
theorem Tx.vals (T : Tx w K mg) {q : Str × He.Dv} (h : q ∈ acts) : ∃ u, PySem.W.nsIn K (He.ga K "ACTIONS") q.1 = some (some u) ∧ RelV (q.2.v K) u := by
  obtain ⟨_, _, _, c⟩ := T.ex
  have := T.more0
  unfold ex0 at this
  exact He.valsB_ok (He.ba this).2 h
theorem Tx.act (T : Tx w K mg) {x f : Str} (h : (x, He.Dv.glo f) ∈ acts) : KDct K w (He.ga K "ACTIONS") x (.ref (He.ga K f)) := by
  obtain ⟨es, n, D⟩ := T.tab
  obtain ⟨u, h1, h2⟩ := T.vals h
  exact ⟨es, n, u, D.at_, D.lit, h1, h2⟩
def sp_page_behind (K : PySem.W.Frag) : Sp := fun vs H Q _ => ∃ p a g ky, vs = [.ref p, .ref a] ∧ PageAt K H p g ∧ g.Ok ∧ KeyAt K H a ky ∧ ky.Ok ∧ ky.single = true ∧ (∀ H', Kq [] H H' → g.does ky = none → Q .non H') ∧ ∀ q H' g', Kq [] H H' → g.does ky = some g' → PageAt K H' q g' → Q (.ref q) H'
end
end KT
set_option Elab.async false
set_option linter.all false
set_option maxRecDepth 100000
set_option maxHeartbeats 4000000
namespace KT
open PySem PySem.Spec PyProof.Rows L2 GxR
variable [GT]
/-! ### signs -/
theorem elt_range {prog : Program} {w : World} {scope : Scope} {x lo hi : Str} {j j' : Nat} {p1 p2 p3 p4 : Pos} (hk : scope.kind = .function) (hl : scope.names.lookup x = some .local) (hd : (x == ("__debug__" : Str)) = false := by decide) :
    EltP prog w scope x (.Compare (.Constant (.str lo) j p1) [.LtE, .LtE] [.Name x p2, .Constant (.str hi) j' p3] p4) (fun c => !decide ([c] < lo.cps.toList) && !decide (hi.cps.toList < [c])) := by
  intro cenv A' E' c t s₂ m₂ hs hn hm
  refine Compare_chain (Calls.Constant_str (chain_link ?_))
  refine wpAny_Name (wpAny_loadName_local (by rw [hs]; exact hk) (show cenv.scope.names.lookup x = some .local by rw [hs]; exact hl) hn hm ?_) hd
  refine PySem.P.le_str (wpAny_truthy_bool ?_)
  have e : (⟨#[c]⟩ : Str).cps.toList = [c] := rfl
  rw [e]
  by_cases h : [c] < lo.cps.toList
  · rw [decide_eq_true h]
    exact ite_ff ⟨congrArg Value.bool (by show _ = (!decide ([c] < lo.cps.toList) && _); rw [decide_eq_true h]; rfl), keeps_tok _ _⟩
  · rw [decide_eq_false h]
    refine ite_tt (chain_last (Calls.Constant_str (PySem.P.le_str ⟨congrArg Value.bool (by show _ = (!decide ([c] < lo.cps.toList) && _); rw [decide_eq_false h]; rfl), keeps_tok _ _⟩)))
/-- are_signs, in Lean -/
def signB (c : Nat) : Bool := !decide ([c] < (Str.ofString " ").cps.toList) && !decide ((Str.ofString "~").cps.toList < [c])
theorem signB_eq (c : Nat) : signB c = decide (okSign c) := by
  unfold signB okSign
  rw [show (Str.ofString " ").cps.toList = [32] by decide +kernel, show (Str.ofString "~").cps.toList = [126] by decide +kernel]
  have h1 := one_lt c 32
  have h2 := one_lt 126 c
  by_cases a : c < 32
  · rw [decide_eq_true (h1.mpr a)]
    simp; omega
  · rw [decide_eq_false (fun z => a (h1.mp z))]
    by_cases b : 126 < c
    · rw [decide_eq_true (h2.mpr b)]
      simp; omega
    · rw [decide_eq_false (fun z => b (h2.mp z))]
      simp; omega
/-- the table of are_signs -/
abbrev cS (K : PySem.W.Frag) : Addr := He.codeOf K ("are_signs", none)
abbrev tS (K : PySem.W.Frag) : Addr := GT.a
section
variable {P : Program} {w : World} {K : PySem.W.Frag} {mg : Str → Option Value} {base : Heap}
def sp_are_signs (K : PySem.W.Frag) : Sp := fun vs H Q _ => ∃ l, vs = [.str (S l)] ∧ TabG H (tS K) ∧ ∀ H', Kq [] H H' → Q (.bl (l.all signB)) H'
theorem sc_are_signs : FnScope ["text"] ["text"] (defScope s_are_signs) := ⟨rfl, rfl, rfl, by decide +kernel, rfl, by decide +kernel, by decide +kernel⟩
theorem ok_are_signs (T : Tx w K mg) (B : TabB base mg (cS K) (tS K)) : Fk P w K mg base 1 (Ad K d_are_signs.at_) ["text"] (sp_are_signs K) := by
  refine mkF T.f_are_signs sc_are_signs rfl (fun _ _ _ _ _ _ us hl => match us, hl with | [_], _ => rfl) (fun vs H Q E h => by obtain ⟨_, rfl, _⟩ := h; rfl) (fun cdv A outer s H vs Q E hcd hcode hr h => ?_)
  refine ⟨_, (pss_one (ps_ret (pe_allS (c := cS K) (P := tS K) hr rfl T.n_all (by decide +kernel) B hcode ⟨rfl, rfl, by decide +kernel, by decide +kernel, by decide +kernel, fun y hy e => absurd e ((by decide +kernel : ∀ y ∈ _, y.2 ≠ .free) y hy)⟩ (pv 0) (elt_range rfl (by decide +kernel)) (fun _ => rfl)))), ?_⟩
  obtain ⟨l, rfl, hT, k⟩ := h
  refine ⟨_, rfl, _, rfl, hT, fun H2 hH => ?_⟩
  exact k H2 (Kq.tabbed hH hT)
end
end KT
set_option Elab.async false
set_option linter.all false
set_option maxRecDepth 100000
set_option maxHeartbeats 4000000
namespace KT
open PySem PySem.Spec PyProof.Rows L2 GxR
/-! ### match: a tuple against sequences of texts and names -/
inductive PatI where
  | lit (z : Str) | cap (i : Nat)
/-- what may be held against a text -/
def flatS : V → Bool
  | .int _ => true
  | .str _ => true
  | .bl _ => true
  | .non => true
  | _ => false
theorem scal_flat {x : V} {z : Str} (h : flatS x = true) : scal x (.str z) = true := by
  cases x <;> first | rfl | cases h
def patHit : List PatI → List V → Bool
  | [], [] => true
  | .lit z :: ds, x :: xs => decide (x = .str z) && patHit ds xs
  | .cap _ :: ds, _ :: xs => patHit ds xs
  | _, _ => false
def patBind : List PatI → List V → L2.St → L2.St
  | .lit _ :: ds, _ :: xs, σ => patBind ds xs σ
  | .cap i :: ds, x :: xs, σ => patBind ds xs (σ.set i (some x))
  | _, _, σ => σ
section
variable {X : Cx} {pins : List (Addr × Obj)} {σ : L2.St} {H : Hp} {s : Shared}
inductive PsOk (X : Cx) : List Pattern → List PatI → Prop where
  | nil : PsOk X [] []
  | lit {z : Str} {j : Nat} {p1 p2 : Pos} {ps : List Pattern} {ds : List PatI} (h : PsOk X ps ds) : PsOk X (.MatchValue (.Constant (.str z) j p1) p2 :: ps) (.lit z :: ds)
  | cap {x : Str} {i : Nat} {p : Pos} {ps : List Pattern} {ds : List PatI} (hN : X.N[i]? = some x) (hl : Loc X.env.scope x) (hf : X.fn x = true ∨ X.env.scope.names.lookup x = some .local) (h : PsOk X ps ds) : PsOk X (.MatchAs none (some x) p :: ps) (.cap i :: ds)
theorem PsOk.len {ps : List Pattern} {ds : List PatI} (h : PsOk X ps ds) : ps.length = ds.length := by
  induction h with
  | nil => rfl
  | lit _ ih => simp [ih]
  | cap _ _ _ _ ih => simp [ih]
/-- the names and values that are bound -/
inductive Bs (X : Cx) : List PatI → List V → List (Str × Value) → Prop where
  | nil : Bs X [] [] []
  | lit {z : Str} {x : V} {ds : List PatI} {xs : List V} {bs : List (Str × Value)} (h : Bs X ds xs bs) : Bs X (.lit z :: ds) (x :: xs) bs
  | cap {n : Str} {i : Nat} {x : V} {u : Value} {ds : List PatI} {xs : List V} {bs : List (Str × Value)} (hN : X.N[i]? = some n) (hl : Loc X.env.scope n) (hf : X.fn n = true ∨ X.env.scope.names.lookup n = some .local) (r : RelV x u) (h : Bs X ds xs bs) : Bs X (.cap i :: ds) (x :: xs) ((n, u) :: bs)
theorem each_ok {ps : List Pattern} {ds : List PatI} (h : PsOk X ps ds) : ∀ {xs : List V} {us : List Value} {s : Shared} {Q : Option (List (Str × Value)) → Shared → Prop}, Vals xs us → xs.length = ds.length → (∀ x ∈ xs, flatS x = true) → Inv X pins σ H s →
    (∀ s', Inv X pins σ H s' → (patHit ds xs = false → Q none s') ∧ (patHit ds xs = true → ∀ bs, Bs X ds xs bs → Q (some bs) s')) → wpAny (model X.prog X.w) X.A (matchEach ps X.env us) Q X.xe s := by
  induction h with
  | nil =>
    intro xs us s Q r hl hf I k
    cases r with
    | nil => exact wpAny_matchEach_nil ((k s I).2 rfl [] .nil)
    | cons _ _ => simp at hl
  | @lit z j p1 p2 ps ds h ih =>
    intro xs us s Q r hl hf I k
    cases r with
    | nil => simp at hl
    | @cons x u xs us rx r =>
      refine wpAny_matchEach_cons ?_ rfl
      refine wpAny_matchPattern_Value (Calls.Constant_str ?_)
      refine thn (op_eq pins _ σ H x (.str z) u _ (fun v H' => v = .bl (decide (x = .str z)) ∧ H' = H) (I.tok _) rx ⟨_, rfl⟩ ⟨scal_flat (hf x (by simp)), rfl, rfl⟩) fun c s2 hc => ?_
      obtain ⟨v, H', I2, rc, ev, eH⟩ := hc
      subst ev eH
      cases rc
      refine wpAny_truthy_bool ?_
      by_cases e : x = .str z
      · rw [decide_eq_true e]
        show wpAny _ _ (matchEach ps X.env us) _ _ s2
        refine ih r (by simpa using hl) (fun y hy => hf y (by simp [hy])) I2 fun s3 I3 => ?_
        have h1 : patHit (.lit z :: ds) (x :: xs) = patHit ds xs := by
          show (decide (x = .str z) && patHit ds xs) = _
          rw [decide_eq_true e]; rfl
        have k3 := k s3 I3
        rw [h1] at k3
        exact ⟨fun e => k3.1 e, fun e bs hb => k3.2 e _ (.lit hb)⟩
      · rw [decide_eq_false e]
        show Q none s2
        refine (k s2 I2).1 ?_
        show (decide (x = .str z) && patHit ds xs) = false
        rw [decide_eq_false e]; rfl
  | @cap n i p ps ds hN hloc hfn h ih =>
    intro xs us s Q r hl hf I k
    cases r with
    | nil => simp at hl
    | @cons x u xs us rx r =>
      refine wpAny_matchEach_cons ?_ rfl
      refine wpAny_matchPattern_Capture ?_
      show wpAny _ _ (matchEach ps X.env us) _ _ s
      refine ih r (by simpa using hl) (fun y hy => hf y (by simp [hy])) I fun s3 I3 => ?_
      have k3 := k s3 I3
      exact ⟨fun e => k3.1 e, fun e bs hb => k3.2 e _ (.cap hN hloc hfn rx hb)⟩
theorem bind_ok (hnd : X.N.Nodup) {ds : List PatI} {xs : List V} {bs : List (Str × Value)} (h : Bs X ds xs bs) : ∀ {σ : L2.St} {s : Shared} {Q : Unit → Shared → Prop}, Inv X pins σ H s → (∀ s', Inv X pins (patBind ds xs σ) H s' → Q () s') →
    wpAny (model X.prog X.w) X.A (assignInOrder (bs.map fun (n, _) => bindName X.env n) (bs.map (·.2))) Q X.xe s := by
  induction h with
  | nil => intro σ s Q I k; exact wpAny_assignInOrder_none (k s I)
  | lit _ ih => intro σ s Q I k; exact ih I k
  | cap hN hl hf r _ ih =>
    intro σ s Q I k
    refine wpAny_assignInOrder_more (bindName_ (store_ok I hnd hN hl r (fun s' I' => ?_) hf))
    exact ih I' k
/-- the cases: a sequence, or whatever there is -/
inductive CaseD where
  | seq (ds : List PatI) (t : TS)
  | any (t : TS)
def tCases : List CaseD → List V → TS
  | [], _ => fun D σ H => D.nx σ H
  | .seq ds t :: r, xs => fun D σ H => if (decide (ds.length = xs.length) && patHit ds xs) = true then t D (patBind ds xs σ) H else tCases r xs D σ H
  | .any t :: _, _ => t
def tMatch (K : PySem.W.Frag) (te : TE) (cs : List CaseD) : TS := fun D σ H => te σ H fun v H1 => ∃ a xs, v = .ref a ∧ SqT K H1 a xs ∧ (∀ x ∈ xs, flatS x = true) ∧ tCases cs xs D σ H1
inductive CsOk (X : Cx) : List MatchCase → List CaseD → Prop where
  | nil : CsOk X [] []
  | seq {ps : List Pattern} {pos : Pos} {ds : List PatI} {t : TS} {body : List Stmt} {cs : List MatchCase} {dd : List CaseD} (hp : PsOk X ps ds) (hb : PSs X body t) (h : CsOk X cs dd)
    (hstar : ps.findIdx? (·.isStar) = none := by rfl) (hwild : (ps.all fun p => p.isWildcard || (p.isStar && p.names.isEmpty)) = false := by rfl) : CsOk X (⟨.MatchSequence ps pos, none, body⟩ :: cs) (.seq ds t :: dd)
  | any {pos : Pos} {t : TS} {body : List Stmt} {cs : List MatchCase} (hb : PSs X body t) : CsOk X (⟨.MatchAs none none pos, none, body⟩ :: cs) [.any t]
theorem cases_ok (hc : X.calm = true) (hnd : X.N.Nodup) {cs : List MatchCase} {dd : List CaseD} (h : CsOk X cs dd) : ∀ {a : Addr} {xs : List V} {s : Shared} {D : Ends} (first : Bool), Inv X pins σ H s → SqT X.K H a xs → (∀ x ∈ xs, flatS x = true) → tCases dd xs D σ H →
    wpAny (model X.prog X.w) X.A (matchCases cs X.env (.ref a) first) (SP X pins D) X.xe s := by
  induction h with
  | nil =>
    intro a xs s D first I ht hf k
    exact wpAny_matchCases_nil ⟨σ, H, I, k⟩
  | @seq ps pos ds t body cs dd hp hb h hstar hwild ih =>
    intro a xs s D first I ht hf k
    refine wpAny_matchCases_cons ?_
    obtain ⟨its, r, pl, hz⟩ := I.tuple ht
    have hlen := r.length
    have hl := hp.len
    have hsz : sizeLine = 16777216 := sizeLine_eq
    have hfit : (its.toArray.size : Int) < 2 ^ 63 := by simp only [List.size_toArray]; omega
    have k : if (decide (ds.length = xs.length) && patHit ds xs) = true then t D (patBind ds xs σ) H else tCases dd xs D σ H := k
    by_cases e : its.toArray.size = ps.length
    · refine matchSeq_tuple_hit pl hfit e ?_ hstar hwild
      have e2 : xs.length = ds.length := by simp only [List.size_toArray] at e; omega
      rw [← e]
      refine unpackItems_tuple (I.ok.hd hc) (s := { s with toks := s.toks + 1 + 1 }) pl fun h' hx => ?_
      have I2 : Inv X pins σ H { s with heap := h', toks := s.toks + 1 + 1 } := I.kept fun b u q => by
        exact hx b u (Nat.ne_of_lt (Heap.lt_size q)) q
      refine each_ok hp r e2 hf I2 fun s3 I3 => ⟨fun hn => ?_, fun hh bs hbs => ?_⟩
      · show wpAny _ _ (matchCases cs X.env (.ref a) false) _ _ s3
        refine ih false I3 ht hf ?_
        rw [hn, Bool.and_false, if_neg (by simp)] at k
        exact k
      · show wpAny _ _ (assignInOrder (bs.map fun (n, _) => bindName X.env n) (bs.map (·.2))) _ _ s3
        refine bind_ok hnd hbs I3 fun s4 I4 => ?_
        rw [hh, Bool.and_true, if_pos (by simp [e2])] at k
        exact hb.run pins s4 _ H D I4 k
    · refine matchSeq_tuple_miss pl hfit e ?_ hstar hwild
      show wpAny _ _ (matchCases cs X.env (.ref a) false) _ _ _
      refine ih false ((I.tok _)) ht hf ?_
      have e2 : ¬ ds.length = xs.length := by simp only [List.size_toArray] at e; omega
      rw [decide_eq_false e2, Bool.false_and, if_neg (by simp)] at k
      exact k
  | @any pos t body cs hb =>
    intro a xs s D first I ht hf k
    refine wpAny_matchCases_cons ?_
    refine wpAny_matchPattern_Capture ?_
    show wpAny _ _ (assignInOrder [] []) _ _ s
    refine wpAny_assignInOrder_none ?_
    exact hb.run pins s σ H D I k
theorem ps_match {subject : Expr} {te : TE} {cs : List MatchCase} {dd : List CaseD} {pos : Pos} (hc : X.calm = true) (hnd : X.N.Nodup) (he : PE X subject te) (h : CsOk X cs dd) : PS X (.Match subject cs pos) (tMatch X.K te dd) := by
  refine ⟨fun pins s σ H D I q => ?_⟩
  refine wpAny_Match (thn (he.run pins s σ H _ I q) fun v s1 hv => ?_)
  obtain ⟨x, H1, I1, r1, a, xs, ex, ht, hf, k⟩ := hv
  subst ex
  cases r1
  exact cases_ok hc hnd h true I1 ht hf k
end
end KT
set_option Elab.async false
set_option linter.all false
set_option maxRecDepth 100000
set_option maxHeartbeats 4000000
namespace KT
open PySem PySem.Spec PyProof.Rows L2
section
variable {X : Cx} {d : Addr} {es : Array DictEntry} {n : Nat}
def rInX (K : PySem.W.Frag) (d : Addr) : R2 := fun x y H Q => y = .ref d ∧ ((∃ (z : Str) (r : Option Value), x = .str z ∧ PySem.W.nsIn K d z = some r ∧ Q (.bl r.isSome) H) ∨ ∃ i : Int, x = .int i ∧ Q (.bl false) H)
/-- a text or a number in a dict of the text, whose keys are texts -/
theorem op_in_kdX (D : KDict X.K X.w d es n) : OpR X (compareOp .In) (rInX X.K d) := by
  intro pins s σ H x y v u Q I rx ry h
  obtain ⟨ey, ⟨z, r, ex, e, q⟩ | ⟨i, ex, q⟩⟩ := h
  · exact op_in_kd D pins s σ H x y v u Q I rx ry ⟨z, r, ex, ey, e, q⟩
  · subst ex ey
    obtain ⟨t, rfl⟩ := rx
    cases ry
    have hm : s.heap.MapOf (mixKind X.prog X.w) d (fun k => findBy (mixKind X.prog X.w).is es k) := by
      refine ⟨_, es, n, I.kIn _ _ D.at_, ⟨rfl, rfl, rfl⟩, rfl, fun e he => ?_, fun _ => rfl⟩
      obtain ⟨x, t', e1, e2⟩ := D.lit.all e (Array.mem_toList_iff.mpr he)
      exact ⟨.inr x, by rw [e1]; exact mixKind_str X.prog X.w x t', e2⟩
    have hnone : findBy (mixKind X.prog X.w).is es (.inl i) = none := by
      unfold findBy
      rw [show es.find? (fun e => (mixKind X.prog X.w).is (.inl i) e.key) = none from ?_]
      · rfl
      · rw [Array.find?_eq_none]
        intro e he
        obtain ⟨x, t', e1, e2⟩ := D.lit.all e (Array.mem_toList_iff.mpr he)
        rw [e1, mixKind_is]
        simp [keyIs, Value.isInt]
    refine wpAny_in_of (mixKind_int X.prog X.w i t) D.low hm ?_
    rw [hnone]
    exact ⟨.bl false, H, I.tok _, rfl, q⟩
end
end KT
set_option Elab.async false
set_option linter.all false
set_option maxRecDepth 100000
set_option maxHeartbeats 4000000
namespace KT
open PySem PySem.Spec PyProof.Rows L2 GxR
variable [GT]
/-! ### what is a key -/
theorem tyx_tup {K : PySem.W.Frag} {H : Hp} {a : Addr} {xs : List V} (h : SqT K H a xs) : TyX K H (.ref a) (.type "tuple") := by
  rcases h with (h | ⟨o, h⟩) | ⟨o, its, n, hk, hc, _⟩
  · exact .base (.tup h)
  · exact .fTuple h
  · exact .kTuple hk hc
def wordB (n : Nat) : V → Bool
  | .str z => decide (1 ≤ z.length) && (decide (z.length ≤ n) && z.cps.toList.all signB)
  | _ => false
def timesB : V → Bool
  | .int i => decide (1 ≤ i) && decide (i ≤ 9)
  | _ => false
def namesV : List V := [.str "a", .str "b", .str "c", .str "d", .str "e", .str "f", .str "g", .str "h"]
def nameB (v : V) : Bool := inV v namesV
/-- whether a tuple of these is a key; act: what stands alone -/
def keyB (act : V → Bool) : List V → Bool
  | [k, x] => if k = .str "put" then wordB 1 x else if k = .str "find" then wordB 4 x else if k = .str "till" then nameB x else false
  | [k, x, m] => if k = .str "play" then nameB x && timesB m else false
  | [k] => act k
  | _ => false
/-- a text or a number, not too long -/
def smallV : V → Prop
  | .str z => z.length ≤ 1000
  | .int _ => True
  | _ => False
theorem flatS_small {v : V} (h : smallV v) : flatS v = true := by
  cases v <;> first | rfl | exact h.elim
theorem flatV_small {v : V} (h : smallV v) : flatV v = true := by
  cases v <;> first | rfl | exact h.elim
theorem ite_lit2 {z : Str} {i : Nat} {x y : V} {A B : Prop} (h1 : x = .str z → A) (h2 : ¬ x = .str z → B) : if (decide ([PatI.lit z, PatI.cap i].length = [x, y].length) && patHit [.lit z, .cap i] [x, y]) = true then A else B := by
  by_cases e : x = .str z
  · have : (decide ([PatI.lit z, PatI.cap i].length = [x, y].length) && patHit [.lit z, .cap i] [x, y]) = true := by simp [patHit, e]
    rw [if_pos this]; exact h1 e
  · have : ¬ (decide ([PatI.lit z, PatI.cap i].length = [x, y].length) && patHit [.lit z, .cap i] [x, y]) = true := by simp [patHit, e]
    rw [if_neg this]; exact h2 e
theorem ite_lit3 {z : Str} {i j : Nat} {x y u : V} {A B : Prop} (h1 : x = .str z → A) (h2 : ¬ x = .str z → B) : if (decide ([PatI.lit z, PatI.cap i, PatI.cap j].length = [x, y, u].length) && patHit [.lit z, .cap i, .cap j] [x, y, u]) = true then A else B := by
  by_cases e : x = .str z
  · have : (decide ([PatI.lit z, PatI.cap i, PatI.cap j].length = [x, y, u].length) && patHit [.lit z, .cap i, .cap j] [x, y, u]) = true := by simp [patHit, e]
    rw [if_pos this]; exact h1 e
  · have : ¬ (decide ([PatI.lit z, PatI.cap i, PatI.cap j].length = [x, y, u].length) && patHit [.lit z, .cap i, .cap j] [x, y, u]) = true := by simp [patHit, e]
    rw [if_neg this]; exact h2 e
section
variable {P : Program} {w : World} {K : PySem.W.Frag} {mg : Str → Option Value} {base : Heap}
theorem Tx.names (T : Tx w K mg) (H : Hp) : SqT K H (He.ga K "NAMES") namesV := by
  obtain ⟨_, _, _, c⟩ := T.ex
  have := T.more0
  unfold ex0 at this
  exact He.tupB_ok (He.ba this).1 H
/-- how a word that stands alone is looked up -/
def ActIs (K : PySem.W.Frag) (k : V) (b : Bool) : Prop := (∃ z r, k = .str z ∧ PySem.W.nsIn K (He.ga K "ACTIONS") z = some r ∧ b = r.isSome) ∨ ∃ i : Int, k = .int i ∧ b = false
def sp_is_word (K : PySem.W.Frag) : Sp := fun vs H Q _ => ∃ v n, vs = [v, .int (n : Nat)] ∧ smallV v ∧ TabG H (tS K) ∧ ∀ H', Kq [] H H' → Q (.bl (wordB n v)) H'
theorem sc_is_word : FnScope ["word", "longest"] ["word", "longest"] (defScope s_is_word) := ⟨rfl, rfl, rfl, by decide +kernel, rfl, by decide +kernel, by decide +kernel⟩
theorem ok_is_word (T : Tx w K mg) (B : TabB base mg (cS K) (tS K)) : Fk P w K mg base 2 (Ad K d_is_word.at_) ["word", "longest"] (sp_is_word K) := by
  have F_are_signs := ok_are_signs (P := P) (base := base) T B
  refine mkF T.f_is_word sc_is_word rfl (fun _ _ _ _ _ _ us hl => match us, hl with | [_, _], _ => rfl) (fun vs H Q E h => by obtain ⟨_, _, rfl, _⟩ := h; rfl) (fun cdv A outer s H vs Q E hcd hcode hr h => ?_)
  refine ⟨_, (pss_one (ps_ret (pe_and (pe_callB call_isi (by rfl) T.n_isinstance (by decide +kernel) (pa_cons (pv 0) (pa_cons (pe_bltn (v := .ty "str") (by rfl) T.n_str (by decide +kernel) rfl) pa_nil))) (pe_and (pe_chain op_le op_le pe_int (pe_callB call_len_str (by rfl) T.n_len (by decide +kernel) (pa_cons (pv 0) pa_nil)) (pv 1)) (pe_one (pe_cF F_are_signs (hr.mono (by decide)) T.g_are_signs px (pa_cons (pv 0) pa_nil))))))), ?_⟩
  obtain ⟨v, n, rfl, hs, hT, k⟩ := h
  cases v with
  | str z =>
    have hz : z.length ≤ 1000 := hs
    refine ⟨_, rfl, _, _, _, _, true, rfl, .ty _, .base (.str _), kit_ty (by decide +kernel), _, rfl, iteT ?_⟩
    refine ⟨_, rfl, _, rfl, line16 (by omega), _, _, rfl, rfl, _, rfl, iteD (fun h1 => ?_) (fun h1 => ?_)⟩
    · refine ⟨_, rfl, _, _, rfl, rfl, _, rfl, iteD (fun h2 => ?_) (fun h2 => ?_)⟩
      · refine ⟨_, rfl, z.cps.toList, by rw [show S z.cps.toList = z from S_tl z], hT, fun H' k' => ?_⟩
        have e : wordB n (.str z) = z.cps.toList.all signB := by
          show (decide (1 ≤ z.length) && (decide (z.length ≤ n) && z.cps.toList.all signB)) = _
          rw [decide_eq_true (by omega), decide_eq_true (by omega)]; rfl
        rw [← e]
        exact k H' k'
      · have e : wordB n (.str z) = false := by
          show (decide (1 ≤ z.length) && (decide (z.length ≤ n) && z.cps.toList.all signB)) = _
          rw [decide_eq_false (show ¬ z.length ≤ n by omega)]; simp
        rw [← e]
        exact k H Kq.refl
    · refine ⟨_, rfl, iteF ?_⟩
      have e : wordB n (.str z) = false := by
        show (decide (1 ≤ z.length) && (decide (z.length ≤ n) && z.cps.toList.all signB)) = _
        rw [decide_eq_false (show ¬ 1 ≤ z.length by omega)]; simp
      rw [← e]
      exact k H Kq.refl
  | int i =>
    exact ⟨_, rfl, _, _, _, _, false, rfl, .ty _, .base (.int _), kit_ty (by decide +kernel), _, rfl, iteF (k H Kq.refl)⟩
  | _ => exact hs.elim
def numB (lo hi : Int) : V → Bool
  | .int i => decide (lo ≤ i) && decide (i ≤ hi)
  | _ => false
theorem numB_times (v : V) : numB 1 9 v = timesB v := by cases v <;> rfl
def sp_is_number : Sp := fun vs H Q _ => ∃ v lo hi, vs = [v, .int lo, .int hi] ∧ flatV v = true ∧ (∀ b, v ≠ .bl b) ∧ Q (.bl (numB lo hi v)) H
theorem sc_is_number : FnScope ["number", "least", "most"] ["number", "least", "most"] (defScope s_is_number) := ⟨rfl, rfl, rfl, by decide +kernel, rfl, by decide +kernel, by decide +kernel⟩
theorem ok_is_number (T : Tx w K mg) : Fk P w K mg base 1 (Ad K d_is_number.at_) ["number", "least", "most"] sp_is_number := by
  refine mkF T.f_is_number sc_is_number rfl (fun _ _ _ _ _ _ us hl => match us, hl with | [_, _, _], _ => rfl) (fun vs H Q E h => by obtain ⟨_, _, _, rfl, _⟩ := h; rfl) (fun cdv A outer s H vs Q E hcd hcode hr h => ?_)
  refine ⟨_, (pss_one (ps_ret (pe_and (pe_callB call_isi (by rfl) T.n_isinstance (by decide +kernel) (pa_cons (pv 0) (pa_cons (pe_bltn (v := .ty "int") (by rfl) T.n_int (by decide +kernel) rfl) pa_nil))) (pe_and (pe_not (pe_callB call_isi (by rfl) T.n_isinstance (by decide +kernel) (pa_cons (pv 0) (pa_cons (pe_bltn (v := .ty "bool") (by rfl) T.n_bool (by decide +kernel) rfl) pa_nil)))) (pe_one (pe_chain op_le op_le (pv 1) (pv 0) (pv 2))))))), ?_⟩
  obtain ⟨v, lo, hi, rfl, hs, hb, k⟩ := h
  cases v with
  | str z =>
    exact ⟨_, rfl, _, _, _, _, false, rfl, .ty _, .base (.str _), kit_ty (by decide +kernel), _, rfl, iteF k⟩
  | int i =>
    refine ⟨_, rfl, _, _, _, _, true, rfl, .ty _, .base (.int _), kit_ty (by decide +kernel), _, rfl, iteT ?_⟩
    refine ⟨_, rfl, _, _, _, _, false, rfl, .ty _, .base (.int _), kit_ty (by decide +kernel), _, rfl, _, rfl, iteT ?_⟩
    refine ⟨_, rfl, _, rfl, _, _, rfl, rfl, _, rfl, iteD (fun h1 => ?_) (fun h1 => ?_)⟩
    · refine ⟨_, rfl, _, _, rfl, rfl, ?_⟩
      have e : numB lo hi (.int i) = decide (i ≤ hi) := by
        show (decide (lo ≤ i) && decide (i ≤ hi)) = _
        rw [decide_eq_true h1]; rfl
      rw [e] at k
      exact k
    · have e : numB lo hi (.int i) = false := by
        show (decide (lo ≤ i) && decide (i ≤ hi)) = _
        rw [decide_eq_false h1]; rfl
      rw [← e]
      exact k
  | bl b => exact absurd rfl (hb b)
  | non => exact ⟨_, rfl, _, _, _, _, false, rfl, .ty _, .base .non, kit_ty (by decide +kernel), _, rfl, iteF k⟩
  | _ => exact (Bool.noConfusion (show false = true from hs))
theorem small_noB {v : V} (h : smallV v) : ∀ b, v ≠ .bl b := by
  rintro b rfl
  exact h.elim
def sp_is_key (K : PySem.W.Frag) : Sp := fun vs H Q _ => ∃ a xs act, vs = [.ref a] ∧ SqT K H a xs ∧ (∀ x ∈ xs, smallV x) ∧ TabG H (tS K) ∧ (∀ k, xs = [k] → ActIs K k (act k)) ∧ ∀ H', Kq [] H H' → Q (.bl (keyB act xs)) H'
theorem sc_is_key : FnScope ["key", "sign", "word", "name", "many", "kind"] ["key"] (defScope s_is_key) := ⟨rfl, rfl, rfl, by decide +kernel, rfl, by decide +kernel, by decide +kernel⟩
theorem ok_is_key (T : Tx w K mg) (B : TabB base mg (cS K) (tS K)) : Fk P w K mg base 3 (Ad K d_is_key.at_) ["key"] (sp_is_key K) := by
  obtain ⟨t_LONGEST_WORD, h_LONGEST_WORD⟩ := T.i_LONGEST_WORD
  obtain ⟨t_MOST_TIMES, h_MOST_TIMES⟩ := T.i_MOST_TIMES
  have F_is_number := ok_is_number (P := P) (base := base) T
  have F_is_word := ok_is_word (P := P) (base := base) T B
  refine mkF T.f_is_key sc_is_key rfl (fun _ _ _ _ _ _ us hl => match us, hl with | [_], _ => rfl) (fun vs H Q E h => by obtain ⟨_, _, _, rfl, _⟩ := h; rfl) (fun cdv A outer s H vs Q E hcd hcode hr h => ?_)
  obtain ⟨_, _, DA⟩ := T.tab
  refine ⟨_, (pss_cons (ps_if (pt_not (pt_val (pe_callB call_isi (by rfl) T.n_isinstance (by decide +kernel) (pa_cons (pv 0) (pa_cons (pe_bltn (v := .ty "tuple") (by rfl) T.n_tuple (by decide +kernel) rfl) pa_nil))))) (pss_one (ps_ret pe_bl)) pss_nil)
      (pss_one (ps_match rfl sc_is_key.nd (pv 0) (.seq (.lit (.cap (i := 1) rfl (.inl rfl) (.inl rfl) .nil)) (pss_one (ps_ret (pe_cF F_is_word (hr.mono (by decide)) T.g_is_word px (pa_cons (pv 1) (pa_cons pe_int pa_nil))))) (.seq (.lit (.cap (i := 2) rfl (.inl rfl) (.inl rfl) .nil)) (pss_one (ps_ret (pe_cF F_is_word (hr.mono (by decide)) T.g_is_word px (pa_cons (pv 2) (pa_cons (pe_glob (v := .int 4) (by rfl) h_LONGEST_WORD ⟨_, rfl⟩) pa_nil))))) (.seq (.lit (.cap (i := 3) rfl (.inl rfl) (.inl rfl) (.cap (i := 4) rfl (.inl rfl) (.inl rfl) .nil))) (pss_one (ps_ret (pe_and (pe_cmpR op_in_seq (pv 3) (pe_glob (v := .ref (He.ga K "NAMES")) (by rfl) T.g_NAMES rfl) (by rfl)) (pe_one (pe_cF F_is_number (hr.mono (by decide)) T.g_is_number px (pa_cons (pv 4) (pa_cons pe_int (pa_cons (pe_glob (v := .int 9) (by rfl) h_MOST_TIMES ⟨_, rfl⟩) pa_nil)))))))) (.seq (.lit (.cap (i := 3) rfl (.inl rfl) (.inl rfl) .nil)) (pss_one (ps_ret (pe_cmpR op_in_seq (pv 3) (pe_glob (v := .ref (He.ga K "NAMES")) (by rfl) T.g_NAMES rfl) (by rfl)))) (.seq (.cap (i := 5) rfl (.inl rfl) (.inl rfl) .nil) (pss_one (ps_ret (pe_cmpR (op_in_kdX DA) (pv 5) (pe_glob (v := .ref (He.ga K "ACTIONS")) (by rfl) T.g_ACTIONS rfl) (by rfl)))) (.any (pss_one (ps_ret pe_bl))))))))))), ?_⟩
  obtain ⟨a, xs, act, rfl, ht, hs, hT, hact, k⟩ := h
  refine ⟨_, rfl, _, _, _, _, true, rfl, .ty _, tyx_tup ht, kit_ty (by decide +kernel), _, rfl, iteF ?_⟩
  refine ⟨_, rfl, a, xs, rfl, ht, fun x hx => flatS_small (hs x hx), ?_⟩
  have k0 : ∀ b, keyB act xs = b → ∀ H', Kq [] H H' → Q (.bl b) H' := fun b e H' k' => e ▸ k H' k'
  match xs, ht, hs, hact, k0 with
  | [], _, _, _, k0 => exact k0 false rfl H Kq.refl
  | [x0], _, hs, hact, k0 =>
    rcases hact x0 rfl with ⟨z, r, e1, e2, e3⟩ | ⟨i, e1, e3⟩
    · subst e1
      exact ⟨_, rfl, rfl, .inl ⟨z, r, rfl, e2, k0 _ e3 H Kq.refl⟩⟩
    · subst e1
      exact ⟨_, rfl, rfl, .inr ⟨i, rfl, k0 _ e3 H Kq.refl⟩⟩
  | [x0, x1], _, hs, _, k0 =>
    have h1 : smallV x1 := hs x1 (by simp)
    refine ite_lit2 (fun e => ?_) (fun n1 => ite_lit2 (fun e => ?_) (fun n2 => ite_lit2 (fun e => ?_) (fun n3 => ?_)))
    · exact ⟨_, rfl, x1, 1, rfl, h1, hT, fun H' k' => k0 _ (by show (if x0 = .str "put" then _ else _) = _; rw [if_pos e]) H' k'⟩
    · exact ⟨_, rfl, x1, 4, rfl, h1, hT, fun H' k' => k0 _ (by show (if x0 = .str "put" then _ else if x0 = .str "find" then _ else _) = _; rw [if_neg n1, if_pos e]) H' k'⟩
    · exact ⟨_, rfl, _, _, rfl, .inr (T.names H), flatV_small h1, by decide +kernel, k0 _ (by show (if x0 = .str "put" then _ else if x0 = .str "find" then _ else if x0 = .str "till" then _ else _) = _; rw [if_neg n1, if_neg n2, if_pos e]; rfl) H Kq.refl⟩
    · exact k0 false (by show (if x0 = .str "put" then _ else if x0 = .str "find" then _ else if x0 = .str "till" then _ else _) = _; rw [if_neg n1, if_neg n2, if_neg n3]) H Kq.refl
  | [x0, x1, x2], _, hs, _, k0 =>
    have h1 : smallV x1 := hs x1 (by simp)
    have h2 : smallV x2 := hs x2 (by simp)
    refine ite_lit3 (fun e => ?_) (fun n1 => ?_)
    · refine ⟨_, rfl, _, _, rfl, .inr (T.names H), flatV_small h1, by decide +kernel, ?_⟩
      have e0 : keyB act [x0, x1, x2] = (nameB x1 && timesB x2) := by show (if x0 = .str "play" then _ else _) = _; rw [if_pos e]
      cases hn : inV x1 namesV with
      | true => exact ⟨_, rfl, iteT ⟨_, rfl, x2, 1, 9, rfl, flatV_small h2, small_noB h2, k0 _ (e0.trans (by show (inV x1 namesV && timesB x2) = _; rw [hn, numB_times]; rfl)) H Kq.refl⟩⟩
      | false => exact ⟨_, rfl, iteF (k0 _ (e0.trans (by show (inV x1 namesV && timesB x2) = _; rw [hn]; rfl)) H Kq.refl)⟩
    · exact k0 false (by show (if x0 = .str "play" then _ else _) = _; rw [if_neg n1]) H Kq.refl
  | _ :: _ :: _ :: _ :: _, _, _, _, k0 => exact k0 false rfl H Kq.refl
end
end KT
set_option Elab.async false
set_option linter.all false
set_option maxRecDepth 100000
set_option maxHeartbeats 4000000
namespace KT
open PySem PySem.Spec PyProof.Rows L2 GxR
variable [GT]
/-! ### what may be written: lists, dicts, instances but pages -/
def mutO : HO → Bool
  | .lst _ => true
  | .dK _ => true
  | .ins _ _ ((k, _) :: _) => !decide (k = "rows")
  | _ => false
structure Kf (S : List Addr) (H H' : Hp) : Prop where
  q : Kq S H H'
  w : ∀ b ∈ S, ∃ o, H b = some o ∧ mutO o = true
  w' : ∀ b ∈ S, ∃ o, H' b = some o ∧ mutO o = true
section
variable {S S' : List Addr} {H H1 H2 : Hp} {K : PySem.W.Frag}
theorem mut_wr {o : HO} (h : mutO o = true) : wrO o = true := by cases o <;> first | rfl | cases h
theorem mut_noTbl {o : HO} (h : mutO o = true) : noTbl o = true := by
  cases o <;> first | rfl | cases h
theorem Kf.refl (w : ∀ b ∈ S, ∃ o, H b = some o ∧ mutO o = true) : Kf S H H := ⟨Kq.refl, w, w⟩
theorem Kf.trans (a : Kf S H H1) (b : Kf S H1 H2) : Kf S H H2 := ⟨a.q.trans b.q, a.w, b.w'⟩
theorem Kf.kq (a : Kf S H H1) (b : Kq [] H1 H2) : Kf S H H2 := ⟨a.q.trans b.of, a.w, fun c hc => by
  obtain ⟨o, h1, h2⟩ := a.w' c hc
  exact ⟨o, b.get h1 (mut_noTbl h2), h2⟩⟩
theorem Kf.of (b : Kq [] H H1) (w : ∀ b ∈ S, ∃ o, H b = some o ∧ mutO o = true) : Kf S H H1 := (Kf.refl w).kq b
theorem Kf.cat (b : Kq [] H H1) (a : Kf S H1 H2) (w : ∀ b ∈ S, ∃ o, H b = some o ∧ mutO o = true) : Kf S H H2 := (Kf.of b w).trans a
theorem Kf.not (a : Kf S H H1) {b : Addr} {o : HO} (h : H b = some o) (n : mutO o = false) : b ∉ S := fun hb => by
  obtain ⟨u, h1, h2⟩ := a.w b hb
  rw [h] at h1
  cases h1
  rw [n] at h2
  cases h2
theorem Kf.get (a : Kf S H H1) {b : Addr} {o : HO} (h : H b = some o) (n : mutO o = false) (t : noTbl o = true := by rfl) : H1 b = some o := a.q.at_ b o h t (a.not h n)
theorem Kf.tup (a : Kf S H H1) {l : Addr} {xs : List V} (h : SqT K H l xs) : SqT K H1 l xs := by
  rcases h with (h | ⟨o, h⟩) | h
  · exact .inl (.inl (a.get h rfl))
  · exact .inl (.inr ⟨o, a.get h rfl⟩)
  · exact .inr h
theorem Kf.key (a : Kf S H H1) {p : Addr} {k : Ky} (h : KeyAt K H p k) : KeyAt K H1 p k := a.tup h
theorem Kf.page (a : Kf S H H1) {p : Addr} {g : Pg} (h : PageAt K H p g) : PageAt K H1 p g := by
  obtain ⟨dx, t, h1, h2⟩ := h
  exact ⟨dx, t, a.get h1 (by show (!decide (("rows" : Str) = "rows")) = false; simp), a.tup h2⟩
theorem Kf.write {p : Addr} {o u : HO} (hp : H p = some u) (hS : p ∈ S) (hm : mutO o = true) (w : ∀ b ∈ S, ∃ o, H b = some o ∧ mutO o = true) : Kf S H (upd H p o) :=
  ⟨Kq.write hp hS (by obtain ⟨o', h1, h2⟩ := w p hS; rw [hp] at h1; cases h1; exact mut_wr h2), w, fun b hb => by
    by_cases e : b = p
    · rw [e, upd_same]; exact ⟨o, rfl, hm⟩
    · rw [upd_ne e]; exact w b hb⟩
/-- a list of keys, by their addresses -/
inductive KeysAt (K : PySem.W.Frag) (H : Hp) : List Addr → List Ky → Prop where
  | nil : KeysAt K H [] []
  | cons {a : Addr} {k : Ky} {as : List Addr} {ks : List Ky} (h : KeyAt K H a k) (r : KeysAt K H as ks) : KeysAt K H (a :: as) (k :: ks)
theorem KeysAt.imp {as : List Addr} {ks : List Ky} (f : ∀ a k, KeyAt K H a k → KeyAt K H1 a k) (h : KeysAt K H as ks) : KeysAt K H1 as ks := by
  induction h with
  | nil => exact .nil
  | cons h _ ih => exact .cons (f _ _ h) ih
theorem Kf.keys (a : Kf S H H1) {as : List Addr} {ks : List Ky} (h : KeysAt K H as ks) : KeysAt K H1 as ks := h.imp fun _ _ z => a.key z
theorem Kq.keys (a : Kq [] H H1) {as : List Addr} {ks : List Ky} (h : KeysAt K H as ks) : KeysAt K H1 as ks := h.imp fun _ _ z => a.key z
theorem KeysAt.snoc {as : List Addr} {ks : List Ky} {a : Addr} {k : Ky} (h : KeysAt K H as ks) (hk : KeyAt K H a k) : KeysAt K H (as ++ [a]) (ks ++ [k]) := by
  induction h with
  | nil => exact .cons hk .nil
  | cons h _ ih => exact .cons h ih
theorem KeysAt.at_ {as : List Addr} {ks : List Ky} (h : KeysAt K H as ks) : ∀ {i : Nat} (h1 : i < as.length) (h2 : i < ks.length), KeyAt K H as[i] ks[i] := by
  induction h with
  | nil => intro i h1 h2; simp at h1
  | cons h _ ih =>
    intro i h1 h2
    cases i with
    | zero => exact h
    | succ i => exact ih (by simpa using h1) (by simpa using h2)
theorem KeysAt.len {as : List Addr} {ks : List Ky} (h : KeysAt K H as ks) : as.length = ks.length := by
  induction h with
  | nil => rfl
  | cons _ _ ih => simp [ih]
end
end KT
set_option linter.all false
namespace KT
theorem others_len (g : Pg) {f n : Nat} {ls : List Ln} (h : f ≤ g.rows.length) : (g.others f n ls).length = f + ls.length + (g.rows.length - (f + n)) := by
  unfold Pg.others
  rw [List.length_append, List.length_append, List.length_take, List.length_drop]
  omega
theorem others_mem (g : Pg) {f n : Nat} {ls : List Ln} {l : Ln} (h : l ∈ g.others f n ls) : l ∈ g.rows ∨ l ∈ ls := by
  unfold Pg.others at h
  rcases List.mem_append.mp h with h | h
  · rcases List.mem_append.mp h with h | h
    · exact .inl (List.mem_of_mem_take h)
    · exact .inr h
  · exact .inl (List.mem_of_mem_drop h)
theorem others_get (g : Pg) {f n i : Nat} {ls : List Ln} (h : f ≤ g.rows.length) (hi : i < ls.length) : (g.others f n ls).getD (f + i) [] = ls.getD i [] := by
  unfold Pg.others
  have h1 : (g.rows.take f).length = f := by rw [List.length_take]; omega
  rw [List.getD_eq_getElem?_getD, List.getD_eq_getElem?_getD, List.getElem?_append_left (by rw [List.length_append]; omega), List.getElem?_append_right (by omega), h1]
  congr 2
  omega
theorem Pg.Ok.line_le {g : Pg} (ok : g.Ok) : g.line.length ≤ 60 := by
  unfold Pg.line
  rw [List.getD_eq_getElem?_getD, List.getElem?_eq_getElem ok.row]
  exact ok.long _ (List.getElem_mem _)
theorem Pg.Ok.row_le {g : Pg} (ok : g.Ok) {i : Nat} (h : i < g.rows.length) : (g.rows.getD i []).length ≤ 60 := by
  rw [List.getD_eq_getElem?_getD, List.getElem?_eq_getElem h]
  exact ok.long _ (List.getElem_mem _)
/-- one row changed -/
theorem Pg.Ok.line_sig {g : Pg} (ok : g.Ok) : ∀ c ∈ g.line, okSign c := by
  unfold Pg.line
  rw [List.getD_eq_getElem?_getD, List.getElem?_eq_getElem ok.row]
  exact ok.sig _ (List.getElem_mem _)
theorem Pg.Ok.row_sig {g : Pg} (ok : g.Ok) {i : Nat} (h : i < g.rows.length) : ∀ c ∈ g.rows.getD i [], okSign c := by
  rw [List.getD_eq_getElem?_getD, List.getElem?_eq_getElem h]
  exact ok.sig _ (List.getElem_mem _)
theorem ok_one {g : Pg} (ok : g.Ok) {l cl : Ln} {c : Nat} (h : l.length ≤ 60) (hc : c ≤ l.length) (hcl : cl.length ≤ 60) (hs : ∀ c ∈ l, okSign c) (hcs : ∀ c ∈ cl, okSign c) : Pg.Ok { rows := g.others g.row 1 [l], row := g.row, col := c, clip := cl } := by
  have hr := ok.row
  have hl := others_len g (n := 1) (ls := [l]) (Nat.le_of_lt hr)
  have hm := ok.many
  have e : (g.others g.row 1 [l]).length = g.rows.length := by rw [hl]; simp; omega
  refine ⟨by show (g.others g.row 1 [l]).length ≤ 12; omega, fun m hm => ?_, by show g.row < (g.others g.row 1 [l]).length; omega, ?_, hcl, fun m hm => ?_, hcs⟩
  · rcases others_mem g hm with h1 | h1
    · exact ok.long m h1
    · rw [List.mem_singleton.mp h1]; exact h
  · show c ≤ ((g.others g.row 1 [l]).getD g.row []).length
    have := others_get g (n := 1) (i := 0) (ls := [l]) (Nat.le_of_lt hr) (by simp)
    rw [Nat.add_zero] at this
    rw [this]
    exact hc
  · rcases others_mem g hm with h1 | h1
    · exact ok.sig m h1
    · rw [List.mem_singleton.mp h1]; exact hs
theorem at_ok {g : Pg} (ok : g.Ok) {r c : Nat} (h : r < g.rows.length) (hc : c ≤ (g.rows.getD r []).length) : (g.at_ r c).Ok := ⟨ok.many, ok.long, h, hc, ok.clip, ok.sig, ok.csig⟩
theorem sig_app {a b : Ln} (h : ∀ c ∈ a, okSign c) (h' : ∀ c ∈ b, okSign c) : ∀ c ∈ a ++ b, okSign c := fun c hc => (List.mem_append.mp hc).elim (h c) (h' c)
theorem sig_take {a : Ln} {n : Nat} (h : ∀ c ∈ a, okSign c) : ∀ c ∈ a.take n, okSign c := fun c hc => h c (List.mem_of_mem_take hc)
theorem sig_drop {a : Ln} {n : Nat} (h : ∀ c ∈ a, okSign c) : ∀ c ∈ a.drop n, okSign c := fun c hc => h c (List.mem_of_mem_drop hc)
theorem write_ok {g g' : Pg} {s : Ln} (ok : g.Ok) (hs : ∀ c ∈ s, okSign c) (h : g.write s = some g') : g'.Ok := by
  unfold Pg.write at h
  split at h
  · cases h
  · rename_i hn
    cases h
    have hc := ok.col
    refine ok_one ok ?_ ?_ ok.clip (sig_app (sig_app (sig_take ok.line_sig) hs) (sig_drop ok.line_sig)) ok.csig
    · simp only [List.length_append, List.length_take, List.length_drop]; omega
    · simp only [List.length_append, List.length_take, List.length_drop]; omega
theorem brk_ok {g g' : Pg} (ok : g.Ok) (h : g.brk = some g') : g'.Ok := by
  unfold Pg.brk at h
  split at h
  · cases h
  · rename_i hn
    cases h
    have hr := ok.row
    have h60 := ok.line_le
    have hl := others_len g (n := 1) (ls := [g.line.take g.col, g.line.drop g.col]) (Nat.le_of_lt hr)
    have e : (g.others g.row 1 [g.line.take g.col, g.line.drop g.col]).length = g.rows.length + 1 := by rw [hl]; simp; omega
    refine ⟨by show (g.others g.row 1 _).length ≤ 12; omega, fun m hm => ?_, by show g.row + 1 < (g.others g.row 1 _).length; omega, Nat.zero_le _, ok.clip, fun m hm => ?_, ok.csig⟩
    · rcases others_mem g hm with h1 | h1
      · exact ok.long m h1
      · simp only [List.mem_cons, List.not_mem_nil, or_false] at h1
        rcases h1 with rfl | rfl
        · rw [List.length_take]; omega
        · rw [List.length_drop]; omega
    · rcases others_mem g hm with h1 | h1
      · exact ok.sig m h1
      · simp only [List.mem_cons, List.not_mem_nil, or_false] at h1
        rcases h1 with rfl | rfl
        · exact sig_take ok.line_sig
        · exact sig_drop ok.line_sig
theorem join_ok {g g' : Pg} (ok : g.Ok) (h : g.join = some g') : g'.Ok := by
  unfold Pg.join at h
  split at h
  · cases h
  · rename_i h0
    split at h
    · cases h
    · rename_i hn
      cases h
      have hr := ok.row
      have hm := ok.many
      have hl := others_len g (f := g.row - 1) (n := 2) (ls := [g.rows.getD (g.row - 1) [] ++ g.line]) (by omega)
      have e : (g.others (g.row - 1) 2 [g.rows.getD (g.row - 1) [] ++ g.line]).length = g.rows.length - 1 := by rw [hl]; simp; omega
      refine ⟨by show (g.others (g.row - 1) 2 _).length ≤ 12; omega, fun m hm => ?_, by show g.row - 1 < (g.others (g.row - 1) 2 _).length; omega, ?_, ok.clip, fun m hm => ?_, ok.csig⟩
      · rcases others_mem g hm with h1 | h1
        · exact ok.long m h1
        · rw [List.mem_singleton.mp h1]; omega
      rotate_left
      · rcases others_mem g hm with h1 | h1
        · exact ok.sig m h1
        · rw [List.mem_singleton.mp h1]; exact sig_app (ok.row_sig (by omega)) ok.line_sig
      · show (g.rows.getD (g.row - 1) []).length ≤ ((g.others (g.row - 1) 2 [g.rows.getD (g.row - 1) [] ++ g.line]).getD (g.row - 1) []).length
        have := others_get g (f := g.row - 1) (n := 2) (i := 0) (ls := [g.rows.getD (g.row - 1) [] ++ g.line]) (by omega) (by simp)
        rw [Nat.add_zero] at this
        rw [this]
        simp
theorem toRow_ok {g g' : Pg} {i : Int} (ok : g.Ok) (h : g.toRow i = some g') : g'.Ok := by
  unfold Pg.toRow at h
  split at h
  · cases h
  · rename_i hn
    cases h
    refine at_ok ok (by omega) ?_
    omega
theorem seek_ok {w : Ln} : ∀ {ls : List Ln} {k c r j : Nat}, seek w ls k c = some (r, j) → k ≤ r ∧ r < k + ls.length ∧ j ≤ (ls.getD (r - k) []).length
  | [], _, _, _, _, h => by cases h
  | l :: rest, k, c, r, j, h => by
    unfold seek at h
    cases hf : findL w l c with
    | some q =>
      rw [hf] at h
      cases h
      have : stands w l j = true := by
        have hs : ∀ (n c : Nat), firstAt w l c n = some j → stands w l j = true := by
          intro n
          induction n with
          | zero => intro c h; cases h
          | succ n ih =>
            intro c h
            unfold firstAt at h
            split at h
            · cases h; assumption
            · exact ih _ h
        exact hs _ _ hf
      refine ⟨Nat.le_refl _, by simp, ?_⟩
      rw [Nat.sub_self]
      unfold stands at this
      simp only [Bool.and_eq_true, decide_eq_true_eq] at this
      show j ≤ l.length
      omega
    | none =>
      rw [hf] at h
      obtain ⟨h1, h2, h3⟩ := seek_ok h
      refine ⟨by omega, by simp only [List.length_cons]; omega, ?_⟩
      rw [show r - k = (r - (k + 1)) + 1 by omega]
      exact h3
theorem lets_le (l : Ln) : lets l ≤ l.length := by
  unfold lets
  exact (List.takeWhile_sublist isLet).length_le
theorem does_ok {g g' : Pg} {k : Ky} (ok : g.Ok) (kok : k.Ok) (h : g.does k = some g') : g'.Ok := by
  have hr := ok.row
  have hc := ok.col
  have h60 := ok.line_le
  cases k with
  | put s => exact write_ok ok kok.2 h
  | find w =>
    have h : (seek w (g.rows.drop g.row) g.row (g.col + 1)).map (fun p => g.at_ p.1 p.2) = some g' := h
    cases hs : seek w (g.rows.drop g.row) g.row (g.col + 1) with
    | none => rw [hs] at h; cases h
    | some p =>
      rw [hs] at h
      cases h
      obtain ⟨h1, h2, h3⟩ := seek_ok (r := p.1) (j := p.2) hs
      rw [List.length_drop] at h2
      refine at_ok ok (by omega) ?_
      rw [List.getD_eq_getElem?_getD, List.getElem?_drop, show g.row + (p.1 - g.row) = p.1 by omega, ← List.getD_eq_getElem?_getD] at h3
      exact h3
  | brk => exact brk_ok ok h
  | rub =>
    have h : g.rub = some g' := h
    unfold Pg.rub at h
    split at h
    · exact join_ok ok h
    · cases h
      refine ok_one ok ?_ ?_ ok.clip (sig_app (sig_take ok.line_sig) (sig_drop ok.line_sig)) ok.csig
      · simp only [List.length_append, List.length_take, List.length_drop]; omega
      · simp only [List.length_append, List.length_take, List.length_drop]; omega
  | left =>
    have h : g.left = some g' := h
    unfold Pg.left at h
    split at h
    · cases h; exact at_ok ok hr (by show g.col - 1 ≤ g.line.length; omega)
    · split at h
      · cases h
      · cases h; exact at_ok ok (by omega) (Nat.le_refl _)
  | right =>
    have h : g.right = some g' := h
    unfold Pg.right at h
    split at h
    · cases h; exact at_ok ok hr (by show g.col + 1 ≤ g.line.length; omega)
    · split at h
      · cases h
      · cases h; exact at_ok ok (by omega) (Nat.zero_le _)
  | up => exact toRow_ok ok h
  | down => exact toRow_ok ok h
  | home => cases h; exact at_ok ok hr (Nat.zero_le _)
  | end_ => cases h; exact at_ok ok hr (Nat.le_refl _)
  | take =>
    have h : g.take = some g' := h
    unfold Pg.take at h
    have hlt := lets_le (g.line.drop g.col)
    rw [List.length_drop] at hlt
    simp only at h
    split at h
    · cases h
    · cases h
      refine ok_one ok ?_ ?_ ?_ (sig_app (sig_take ok.line_sig) (sig_drop ok.line_sig)) (sig_take (sig_drop ok.line_sig))
      · simp only [List.length_append, List.length_take, List.length_drop]; omega
      · simp only [List.length_append, List.length_take, List.length_drop]; omega
      · simp only [List.length_take, List.length_drop]; omega
  | lay =>
    have h : g.lay = some g' := h
    unfold Pg.lay at h
    split at h
    · cases h
    · exact write_ok ok ok.csig h
  | play _ _ => cases h
  | till _ => cases h
/-! ### playing counts -/
theorem addT_some {st st' : PSt} (h : addT st = some st') : st'.page = st.page ∧ st'.typed = st.typed ∧ st'.things = st.things + 1 ∧ st.things < 400 := by
  unfold addT at h
  split at h
  · cases h; exact ⟨rfl, rfl, rfl, by assumption⟩
  · cases h
theorem addT_none {st : PSt} (h : addT st = none) : 400 ≤ st.things := by
  unfold addT at h
  split at h
  · cases h
  · omega
theorem keysR_mono {f : Ky → PSt → Res} (hf : ∀ k st b st', f k st = .fin b st' → st.things ≤ st'.things) : ∀ (ks : List Ky) (st : PSt) (b : Bool) (st' : PSt), keysR f ks st = .fin b st' → st.things ≤ st'.things
  | [], st, b, st', h => by cases h; exact Nat.le_refl _
  | k :: ks, st, b, st', h => by
    unfold keysR at h
    cases hk : f k st with
    | long => rw [hk] at h; cases h
    | fin c s1 =>
      have h1 := hf _ _ _ _ hk
      rw [hk] at h
      cases c with
      | true => exact Nat.le_trans h1 (keysR_mono hf ks s1 b st' h)
      | false => cases h; exact h1
theorem once_mono {f : Ky → PSt → Res} (hf : ∀ k st b st', f k st = .fin b st' → st.things ≤ st'.things) {ks : List Ky} {st : PSt} {b : Bool} {st' : PSt} (h : once f ks st = .fin b st') : st.things + 1 ≤ st'.things := by
  unfold once at h
  cases ha : addT st with
  | none => rw [ha] at h; cases h
  | some s1 =>
    rw [ha] at h
    have := (addT_some ha).2.2.1
    have := keysR_mono hf ks s1 b st' h
    omega
theorem timesR_mono {g : PSt → Res} (hg : ∀ st b st', g st = .fin b st' → st.things ≤ st'.things) : ∀ (m : Nat) (st : PSt) (b : Bool) (st' : PSt), timesR g m st = .fin b st' → st.things ≤ st'.things
  | 0, st, b, st', h => by cases h; exact Nat.le_refl _
  | m + 1, st, b, st', h => by
    unfold timesR at h
    cases hk : g st with
    | long => rw [hk] at h; cases h
    | fin c s1 =>
      have h1 := hg _ _ _ hk
      rw [hk] at h
      cases c with
      | true => exact Nat.le_trans h1 (timesR_mono hg m s1 b st' h)
      | false => cases h; exact h1
theorem tillR_mono {g : PSt → Res} (hg : ∀ st b st', g st = .fin b st' → st.things ≤ st'.things) : ∀ (m : Nat) (st : PSt) (b : Bool) (st' : PSt), tillR g m st = .fin b st' → st.things ≤ st'.things
  | 0, st, b, st', h => by cases h
  | m + 1, st, b, st', h => by
    unfold tillR at h
    cases hk : g st with
    | long => rw [hk] at h; cases h
    | fin c s1 =>
      have h1 := hg _ _ _ hk
      rw [hk] at h
      cases c with
      | true => exact Nat.le_trans h1 (tillR_mono hg m s1 b st' h)
      | false => cases h; exact h1
theorem singleR_mono {k : Ky} {st : PSt} {b : Bool} {st' : PSt} (h : singleR k st = .fin b st') : st.things ≤ st'.things := by
  unfold singleR at h
  cases hd : st.page.does k with
  | none => rw [hd] at h; cases h; exact Nat.le_refl _
  | some g => rw [hd] at h; cases h; exact Nat.le_refl _
theorem playR_mono {tp : Nat → List Ky} {o : Option (Ky → PSt → Res)} (ho : ∀ f, o = some f → ∀ k st b st', f k st = .fin b st' → st.things ≤ st'.things) {k : Ky} {st : PSt} {b : Bool} {st' : PSt} (h : playR tp o k st = .fin b st') : st.things ≤ st'.things := by
  cases k with
  | play n m =>
    cases o with
    | none => cases h; exact Nat.le_refl _
    | some f => exact timesR_mono (fun st b st' h => Nat.le_of_succ_le (once_mono (ho f rfl) h)) m st b st' h
  | till n =>
    cases o with
    | none => cases h; exact Nat.le_refl _
    | some f => exact tillR_mono (fun st b st' h => Nat.le_of_succ_le (once_mono (ho f rfl) h)) 401 st b st' h
  | home => exact singleR_mono (k := .home) h
  | end_ => exact singleR_mono (k := .end_) h
  | _ => exact singleR_mono h
theorem doK_mono (tp : Nat → List Ky) : ∀ (d : Nat) (k : Ky) (st : PSt) (b : Bool) (st' : PSt), doK tp d k st = .fin b st' → st.things + 1 ≤ st'.things := by
  intro d
  induction d with
  | zero =>
    intro k st b st' h
    unfold doK at h
    cases ha : addT st with
    | none => rw [ha] at h; cases h
    | some s1 =>
      rw [ha] at h
      have := (addT_some ha).2.2.1
      have := playR_mono (fun f e => by cases e) h
      omega
  | succ d ih =>
    intro k st b st' h
    unfold doK at h
    cases ha : addT st with
    | none => rw [ha] at h; cases h
    | some s1 =>
      rw [ha] at h
      have := (addT_some ha).2.2.1
      have := playR_mono (fun f e k st b st' h => by cases e; exact Nat.le_of_succ_le (ih k st b st' h)) h
      omega
theorem onceK_mono (tp : Nat → List Ky) (d : Nat) {ks : List Ky} {st : PSt} {b : Bool} {st' : PSt} (h : once (doK tp d) ks st = .fin b st') : st.things + 1 ≤ st'.things :=
  once_mono (fun k st b st' h => Nat.le_of_succ_le (doK_mono tp d k st b st' h)) h
theorem keysR_cons (f : Ky → PSt → Res) (k : Ky) (ks : List Ky) (st : PSt) : keysR f (k :: ks) st = match f k st with | .fin true st' => keysR f ks st' | r => r := rfl
theorem timesR_succ (g : PSt → Res) (m : Nat) (st : PSt) : timesR g (m + 1) st = match g st with | .fin true st' => timesR g m st' | r => r := rfl
theorem tillR_succ (g : PSt → Res) (m : Nat) (st : PSt) : tillR g (m + 1) st = match g st with | .fin true st' => tillR g m st' | .fin false st' => .fin true st' | .long => .long := rfl
end KT
set_option Elab.async false
set_option linter.all false
set_option maxRecDepth 100000
set_option maxHeartbeats 4000000
namespace KT
open PySem PySem.Spec PyProof.Rows L2 GxR
variable [GT]
/-! ### keys refused -/
theorem keyV_small {ky : Ky} (h : ky.Ok) : ∀ x ∈ keyV ky, smallV x := by
  have kw : ∀ z : Str, z.length ≤ 1000 → smallV (.str z) := fun z h => h
  have lit : ∀ x, x ∈ ([.str "put", .str "find", .str "break", .str "rub", .str "left", .str "right", .str "up", .str "down", .str "home", .str "end", .str "take", .str "lay", .str "play", .str "till"] : List V) → smallV x := by
    intro x hx
    simp only [List.mem_cons, List.not_mem_nil, or_false] at hx
    rcases hx with rfl | rfl | rfl | rfl | rfl | rfl | rfl | rfl | rfl | rfl | rfl | rfl | rfl | rfl <;> exact kw _ (by decide +kernel)
  have nm : ∀ n, smallV (.str (nameS n)) := fun n => by show (nameS n).length ≤ 1000; unfold nameS; rw [S_len]; simp
  cases ky with
  | put s => intro x hx; simp only [keyV, List.mem_cons, List.not_mem_nil, or_false] at hx; rcases hx with rfl | rfl; exact lit _ (by simp); exact kw _ (by rw [S_len]; have := h.1; omega)
  | find s => intro x hx; simp only [keyV, List.mem_cons, List.not_mem_nil, or_false] at hx; rcases hx with rfl | rfl; exact lit _ (by simp); exact kw _ (by rw [S_len]; have := h.2.1; omega)
  | play n m => intro x hx; simp only [keyV, List.mem_cons, List.not_mem_nil, or_false] at hx; rcases hx with rfl | rfl | rfl; exact lit _ (by simp); exact nm n; exact True.intro
  | till n => intro x hx; simp only [keyV, List.mem_cons, List.not_mem_nil, or_false] at hx; rcases hx with rfl | rfl; exact lit _ (by simp); exact nm n
  | _ => intro x hx; simp only [keyV, List.mem_cons, List.not_mem_nil, or_false] at hx; subst hx; exact lit _ (by simp)
theorem signs_ok {s : Ln} (h : ∀ c ∈ s, okSign c) : s.all signB = true := by
  rw [List.all_eq_true]
  intro c hc
  rw [signB_eq]
  exact decide_eq_true (h c hc)
theorem nameB_ok {n : Nat} (h : n < 8) : nameB (.str (nameS n)) = true := by
  have : ∀ n, n < 8 → nameB (.str (nameS n)) = true := by decide +kernel
  exact this n h
theorem keyB2 (act : V → Bool) (k x : V) : keyB act [k, x] = if k = .str "put" then wordB 1 x else if k = .str "find" then wordB 4 x else if k = .str "till" then nameB x else false := rfl
theorem keyB3 (act : V → Bool) (k x m : V) : keyB act [k, x, m] = if k = .str "play" then nameB x && timesB m else false := rfl
theorem keyB_ok {ky : Ky} (h : ky.Ok) : keyB (fun _ => true) (keyV ky) = true := by
  have put : ¬ ((.str "find" : V) = .str "put") := by decide +kernel
  have t1 : ¬ ((.str "till" : V) = .str "put") := by decide +kernel
  have t2 : ¬ ((.str "till" : V) = .str "find") := by decide +kernel
  cases ky with
  | put s =>
    obtain ⟨h1, h2⟩ := h
    show keyB _ [.str "put", .str (S s)] = true
    rw [keyB2, if_pos rfl]
    show (decide (1 ≤ (S s).length) && (decide ((S s).length ≤ 1) && (S s).cps.toList.all signB)) = true
    rw [S_len, show (S s).cps.toList = s by simp, signs_ok h2, h1]; rfl
  | find s =>
    obtain ⟨h0, h1, h2⟩ := h
    show keyB _ [.str "find", .str (S s)] = true
    rw [keyB2, if_neg put, if_pos rfl]
    show (decide (1 ≤ (S s).length) && (decide ((S s).length ≤ 4) && (S s).cps.toList.all signB)) = true
    rw [S_len, show (S s).cps.toList = s by simp, signs_ok h2, decide_eq_true h0, decide_eq_true h1]; rfl
  | play n m =>
    obtain ⟨h0, h1, h2⟩ := h
    show keyB _ [.str "play", .str (nameS n), .int m] = true
    rw [keyB3, if_pos rfl, nameB_ok h0]
    show (true && (decide (1 ≤ (m : Int)) && decide ((m : Int) ≤ 9))) = true
    rw [decide_eq_true (by omega), decide_eq_true (by omega)]; rfl
  | till n =>
    show keyB _ [.str "till", .str (nameS n)] = true
    rw [keyB2, if_neg t1, if_neg t2, if_pos rfl]
    exact nameB_ok h
  | _ => rfl
section
variable {P : Program} {w : World} {K : PySem.W.Frag} {mg : Str → Option Value} {base : Heap}
theorem act_ok (T : Tx w K mg) {ky : Ky} : ∀ k, keyV ky = [k] → ActIs K k true := by
  have a : ∀ (i : Nat) (q : Str × He.Dv), acts[i]? = some q → ActIs K (.str q.1) true := fun i q h => by
    obtain ⟨u, h1, h2⟩ := T.vals (List.mem_of_getElem? h)
    exact .inl ⟨_, _, rfl, h1, rfl⟩
  intro k h
  cases ky <;> first | (cases h; done) | (injection h with h1 _; subst h1; first | exact a 0 _ rfl | exact a 1 _ rfl | exact a 2 _ rfl | exact a 3 _ rfl | exact a 4 _ rfl | exact a 5 _ rfl | exact a 6 _ rfl | exact a 7 _ rfl | exact a 8 _ rfl | exact a 9 _ rfl)
def sp_check_key (K : PySem.W.Frag) : Sp := fun vs H Q E => ∃ a xs act, vs = [.ref a] ∧ SqT K H a xs ∧ (∀ x ∈ xs, smallV x) ∧ TabG H (tS K) ∧ (∀ k, xs = [k] → ActIs K k (act k)) ∧
  (keyB act xs = true → ∀ H', Kq [] H H' → Q .non H') ∧ (keyB act xs = false → ∀ H', Kq [] H H' → E (.ref (He.ga K "BadKey")) none H')
/-- a key of the program is let by -/
theorem check_ok (T : Tx w K mg) {a : Addr} {ky : Ky} {H : Hp} {Q : VK} {E : XK} (hk : KeyAt K H a ky) (ok : ky.Ok) (hT : TabG H (tS K)) (k : ∀ H', Kq [] H H' → Q .non H') : sp_check_key K [.ref a] H Q E :=
  ⟨a, keyV ky, fun _ => true, rfl, hk, keyV_small ok, hT, fun x e => act_ok T x e, fun _ => k, fun e => absurd ((keyB_ok ok).symm.trans e) (by simp)⟩
/-! ### tapes -/
def TapeAt (K : PySem.W.Frag) (H : Hp) (a : Addr) (ks : List Ky) : Prop := ∃ as : List Addr, SqT K H a (as.map V.ref) ∧ KeysAt K H as ks
def names8 : List Key := [.inr (nameS 0), .inr (nameS 1), .inr (nameS 2), .inr (nameS 3), .inr (nameS 4), .inr (nameS 5), .inr (nameS 6), .inr (nameS 7)]
/-- a dict of the eight tapes stands at t -/
def TapesAt (K : PySem.W.Frag) (H : Hp) (t : Addr) (tp : Nat → List Ky) : Prop := ∃ kvs : List (Key × V), H t = some (.dK kvs) ∧ kvs.map (·.1) = names8 ∧ ∀ n, n < 8 → ∃ a, valV kvs (.inr (nameS n)) = some (.ref a) ∧ TapeAt K H a (tp n)
structure TpOk (tp : Nat → List Ky) : Prop where
  len : ∀ n, n < 8 → (tp n).length ≤ 30
  ok : ∀ n, n < 8 → ∀ k ∈ tp n, k.Ok
theorem Kf.tape {S : List Addr} {H H1 : Hp} {a : Addr} {ks : List Ky} (k : Kf S H H1) (h : TapeAt K H a ks) : TapeAt K H1 a ks := by
  obtain ⟨as, h1, h2⟩ := h
  exact ⟨as, k.tup h1, k.keys h2⟩
theorem Kf.tapes {S : List Addr} {H H1 : Hp} {t : Addr} {tp : Nat → List Ky} (k : Kf S H H1) (h : TapesAt K H t tp) (n : t ∉ S) : TapesAt K H1 t tp := by
  obtain ⟨kvs, h1, h2, h3⟩ := h
  refine ⟨kvs, k.q.at_ t _ h1 rfl n, h2, fun n hn => ?_⟩
  obtain ⟨a, h4, h5⟩ := h3 n hn
  exact ⟨a, h4, k.tape h5⟩
theorem Kq.tape {H H1 : Hp} {a : Addr} {ks : List Ky} (k : Kq [] H H1) (h : TapeAt K H a ks) : TapeAt K H1 a ks := by
  obtain ⟨as, h1, h2⟩ := h
  exact ⟨as, k.tup h1, k.keys h2⟩
theorem Kq.tapes {H H1 : Hp} {t : Addr} {tp : Nat → List Ky} (k : Kq [] H H1) (h : TapesAt K H t tp) : TapesAt K H1 t tp := (Kf.of (S := []) k (fun b hb => absurd hb (by simp))).tapes h (by simp)
/-! ### the player -/
def playerF (p t y : Addr) (n : Nat) : List (Str × V) := [("page", .ref p), ("tapes", .ref t), ("typed", .ref y), ("things", .int n)]
theorem playerF_page (p t y : Addr) (n : Nat) : (playerF p t y n).lookup ("page" : Str) = some (.ref p) := by kernel_rfl
theorem playerF_tapes (p t y : Addr) (n : Nat) : (playerF p t y n).lookup ("tapes" : Str) = some (.ref t) := by kernel_rfl
theorem playerF_typed (p t y : Addr) (n : Nat) : (playerF p t y n).lookup ("typed" : Str) = some (.ref y) := by kernel_rfl
theorem playerF_things (p t y : Addr) (n : Nat) : (playerF p t y n).lookup ("things" : Str) = some (.int n) := by kernel_rfl
theorem playerF_put_things (p t y : Addr) (n : Nat) (m : Nat) : putF "things" (.int m) (playerF p t y n) = playerF p t y m := by kernel_rfl
theorem playerF_put_page (p t y q : Addr) (n : Nat) : putF "page" (.ref q) (playerF p t y n) = playerF q t y n := by kernel_rfl
theorem playerF_make (p t y : Addr) : putF "things" (.int 0) (putF "typed" (.ref y) (putF "tapes" (.ref t) (putF "page" (.ref p) []))) = playerF p t y 0 := by kernel_rfl
theorem playerF_no_add (p t y : Addr) (n : Nat) : (playerF p t y n).lookup ("add_thing" : Str) = none := by kernel_rfl
theorem playerF_no_do (p t y : Addr) (n : Nat) : (playerF p t y n).lookup ("do" : Str) = none := by kernel_rfl
theorem playerF_no_play (p t y : Addr) (n : Nat) : (playerF p t y n).lookup ("play" : Str) = none := by kernel_rfl
theorem playerF_no_till (p t y : Addr) (n : Nat) : (playerF p t y n).lookup ("play_till" : Str) = none := by kernel_rfl
theorem playerF_no_once (p t y : Addr) (n : Nat) : (playerF p t y n).lookup ("play_once" : Str) = none := by kernel_rfl
theorem mut_player (C dx p t y : Addr) (n : Nat) : mutO (.ins C dx (playerF p t y n)) = true := by kernel_rfl
/-- a player stands at x, its list of keys at y, over the tapes at t -/
structure PlAt (K : PySem.W.Frag) (H : Hp) (x t y : Addr) (tp : Nat → List Ky) (st : PSt) : Prop where
  ex : ∃ dx p as, H x = some (.ins (He.ga K "Player") dx (playerF p t y st.things)) ∧ PageAt K H p st.page ∧ H y = some (.lst (as.map V.ref)) ∧ KeysAt K H as st.typed
  tapes : TapesAt K H t tp
  tok : TpOk tp
  sign : TabG H (tS K)
  ok : st.page.Ok
  small : st.typed.length ≤ st.things
  low : st.things ≤ 401
theorem PlAt.wr {H : Hp} {x t y : Addr} {tp : Nat → List Ky} {st : PSt} (h : PlAt K H x t y tp st) : ∀ b ∈ [x, y], ∃ o, H b = some o ∧ mutO o = true := by
  obtain ⟨dx, p, as, h1, _, h3, _⟩ := h.ex
  intro b hb
  simp only [List.mem_cons, List.not_mem_nil, or_false] at hb
  rcases hb with rfl | rfl
  · exact ⟨_, h1, mut_player _ _ _ _ _ _⟩
  · exact ⟨_, h3, rfl⟩
theorem PlAt.nt {H : Hp} {x t y : Addr} {tp : Nat → List Ky} {st : PSt} (h : PlAt K H x t y tp st) : t ∉ [x, y] := by
  obtain ⟨dx, p, as, h1, _, h3, _⟩ := h.ex
  obtain ⟨kvs, h4, _⟩ := h.tapes
  intro hb
  simp only [List.mem_cons, List.not_mem_nil, or_false] at hb
  rcases hb with rfl | rfl
  · rw [h1] at h4; cases h4
  · rw [h3] at h4; cases h4
theorem PlAt.kq {H H' : Hp} {x t y : Addr} {tp : Nat → List Ky} {st : PSt} (h : PlAt K H x t y tp st) (k : Kq [] H H') : PlAt K H' x t y tp st := by
  obtain ⟨dx, p, as, h1, h2, h3, h4⟩ := h.ex
  exact ⟨⟨dx, p, as, k.get h1, k.page h2, k.get h3, k.keys h4⟩, k.tapes h.tapes, h.tok, k.tab _ h.sign, h.ok, h.small, h.low⟩
def sp_add_thing (K : PySem.W.Frag) : Sp := fun vs H Q E => ∃ x t y tp st, vs = [.ref x] ∧ PlAt K H x t y tp st ∧ st.things ≤ 400 ∧
  (∀ st' H', addT st = some st' → Kf [x, y] H H' → PlAt K H' x t y tp st' → Q .non H') ∧ (∀ H', addT st = none → Kf [x, y] H H' → E (.ref (He.ga K "TooLong")) none H')
end
end KT
set_option Elab.async false
set_option linter.all false
set_option maxRecDepth 100000
set_option maxHeartbeats 4000000
namespace KT
open PySem PySem.Spec PyProof.Rows L2 GxR
variable [GT]
section
variable {P : Program} {w : World} {K : PySem.W.Frag} {mg : Str → Option Value} {base : Heap}
/-- what a def of the player that plays comes to: long, or whether all fits -/
def spRes (K : PySem.W.Frag) (H : Hp) (x t y : Addr) (tp : Nat → List Ky) (r : Res) (Q : VK) (E : XK) : Prop :=
  (r = .long → ∀ H', Kf [x, y] H H' → E (.ref (He.ga K "TooLong")) none H') ∧ ∀ b st' H', r = .fin b st' → Kf [x, y] H H' → PlAt K H' x t y tp st' → st'.things ≤ 400 → Q (.bl b) H'
theorem spRes.pre {H H1 : Hp} {x t y : Addr} {tp : Nat → List Ky} {r : Res} {Q : VK} {E : XK} (h : spRes K H x t y tp r Q E) (k : Kf [x, y] H H1) : spRes K H1 x t y tp r Q E :=
  ⟨fun e H' k' => h.1 e H' (k.trans k'), fun b st' H' e k' a l => h.2 b st' H' e (k.trans k') a l⟩
theorem spRes.eq {H : Hp} {x t y : Addr} {tp : Nat → List Ky} {r r' : Res} {Q : VK} {E : XK} (h : spRes K H x t y tp r Q E) (e : r = r') : spRes K H x t y tp r' Q E := e ▸ h
def sp_do (K : PySem.W.Frag) (d : Nat) : Sp := fun vs H Q E => ∃ x t y tp st a ky, vs = [.ref x, .ref a, .int ((20 : Int) - (d : Int))] ∧ PlAt K H x t y tp st ∧ st.things ≤ 400 ∧ d ≤ 20 ∧ KeyAt K H a ky ∧ ky.Ok ∧ spRes K H x t y tp (doK tp d ky st) Q E
/-- the def under a play at d others -/
def sp_once (K : PySem.W.Frag) : Nat → Sp
  | 0 => fun _ _ _ _ => False
  | d + 1 => fun vs H Q E => ∃ x t y tp st n, vs = [.ref x, .str (nameS n), .int ((20 : Int) - (d : Int))] ∧ n < 8 ∧ PlAt K H x t y tp st ∧ st.things ≤ 400 ∧ d ≤ 20 ∧ spRes K H x t y tp (once (doK tp d) (tp n) st) Q E
def sp_play (K : PySem.W.Frag) (d : Nat) : Sp := fun vs H Q E => ∃ x t y tp st n m, vs = [.ref x, .str (nameS n), .int (m : Nat), .int ((20 : Int) - (d : Int))] ∧ n < 8 ∧ m ≤ 9 ∧ PlAt K H x t y tp st ∧ st.things ≤ 400 ∧ d ≤ 20 ∧ spRes K H x t y tp (playR tp (under tp d) (.play n m) st) Q E
def sp_till (K : PySem.W.Frag) (d : Nat) : Sp := fun vs H Q E => ∃ x t y tp st n, vs = [.ref x, .str (nameS n), .int ((20 : Int) - (d : Int))] ∧ n < 8 ∧ PlAt K H x t y tp st ∧ st.things ≤ 400 ∧ d ≤ 20 ∧ spRes K H x t y tp (playR tp (under tp d) (.till n) st) Q E
end
end KT
set_option Elab.async false
set_option linter.all false
set_option maxRecDepth 100000
set_option maxHeartbeats 4000000
namespace KT
open PySem PySem.Spec PyProof.Rows L2 GxR
variable [GT]
/-! ### texts of rows -/
def nl : Str := Str.ofString "\n"
theorem nl_eq : nl = ⟨#[10]⟩ := by decide +kernel
def textS (ls : List Ln) : Str := Txt.join nl (ls.map S)
theorem S_tls (ls : List Ln) : (ls.map S).map TL.tl = ls := by
  rw [List.map_map]
  conv => rhs; rw [← List.map_id ls]
  apply List.map_congr_left
  intro l _
  show (S l).cps.toList = l
  simp
theorem textS_split {ls : List Ln} (h : ls ≠ []) (h10 : ∀ l ∈ ls, 10 ∉ l) : Txt.split (textS ls) nl = ls.map S := by
  refine TL.split_join (y := nl) (s := 10) (S := []) (by rw [nl_eq]) (by rw [nl_eq]; decide +kernel) (by simpa using h) ?_
  intro p hp
  obtain ⟨l, hl, rfl⟩ := List.mem_map.mp hp
  have : TL.tl (S l) = l := by show (S l).cps.toList = l; simp
  rw [this]
  exact h10 l hl
theorem joinL_len {B : Nat} : ∀ (ls : List Ln), (∀ l ∈ ls, l.length ≤ B) → (TL.joinL [10] ls).length ≤ ls.length * (B + 1)
  | [], _ => by simp [TL.joinL]
  | [l], h => by
    have := h l (by simp)
    simp only [TL.joinL, List.length_cons, List.length_nil]
    omega
  | l :: m :: r, h => by
    have h1 := h l (by simp)
    have h2 := joinL_len (B := B) (m :: r) (fun x hx => h x (by simp [List.mem_cons.mp hx]))
    show (l ++ ([10] ++ TL.joinL [10] (m :: r))).length ≤ (m :: r).length.succ * (B + 1)
    rw [List.length_append, List.length_append, Nat.succ_mul]
    simp only [List.length_cons, List.length_nil] at h2 ⊢
    omega
theorem textS_len {B : Nat} {ls : List Ln} (h : ∀ l ∈ ls, l.length ≤ B) : (textS ls).length ≤ ls.length * (B + 1) := by
  have : (textS ls).length = (TL.joinL [10] ls).length := by
    unfold textS
    rw [TL.join_eq, TL.len_tl, TL.tl_join, S_tls, nl_eq]
  rw [this]
  exact joinL_len ls h
def goodRow (l : Ln) : Bool := decide (l.length ≤ 60) && l.all signB
def goodB (ls : List Ln) : Bool := decide (ls.length ≤ 12) && ls.all goodRow
theorem good_no10 {l : Ln} (h : l.all signB = true) : 10 ∉ l := fun h10 => by
  have := List.all_eq_true.mp h 10 h10
  rw [signB_eq] at this
  exact absurd (of_decide_eq_true this).1 (by decide)
section
variable {P : Program} {w : World} {K : PySem.W.Frag} {mg : Str → Option Value} {base : Heap}
def sp_first_page (K : PySem.W.Frag) : Sp := fun vs H Q E => ∃ ls, vs = [.str (textS ls)] ∧ ls ≠ [] ∧ (∀ l ∈ ls, 10 ∉ l) ∧ (∀ l ∈ ls, l.length ≤ 1000) ∧ ls.length ≤ 900 ∧ TabG H (tS K) ∧
  (goodB ls = true → ∀ q H', Kq [] H H' → PageAt K H' q ⟨ls, 0, 0, []⟩ → Q (.ref q) H') ∧ (goodB ls = false → ∀ H', Kq [] H H' → E (.ref (He.ga K "BadText")) none H')
theorem good_ok {ls : List Ln} (hne : ls ≠ []) (h : goodB ls = true) : Pg.Ok ⟨ls, 0, 0, []⟩ := by
  unfold goodB at h
  simp only [Bool.and_eq_true, decide_eq_true_eq, List.all_eq_true] at h
  have h2 : ∀ l ∈ ls, l.length ≤ 60 ∧ ∀ c ∈ l, signB c = true := fun l hl => by
    have := h.2 l hl
    unfold goodRow at this
    simp only [Bool.and_eq_true, decide_eq_true_eq, List.all_eq_true] at this
    exact this
  refine ⟨h.1, fun l hl => (h2 l hl).1, List.length_pos_iff.mpr hne, Nat.zero_le _, Nat.zero_le _, fun l hl c hc => ?_, fun c hc => by simp at hc⟩
  have := (h2 l hl).2 c hc
  rw [signB_eq] at this
  exact of_decide_eq_true this
end
end KT
set_option Elab.async false
set_option linter.all false
set_option maxRecDepth 100000
set_option maxHeartbeats 4000000
namespace KT
open PySem PySem.Spec PyProof.Rows L2 GxR
variable [GT]
/-! ### rows held against rows -/
def rowsD (ls : List Ln) : PyData := .tuple (ls.map fun l => .str (S l))
theorem dp_strs {K : PySem.W.Frag} {H : Hp} : ∀ ls : List Ln, DpAll K H (rowsV ls) (ls.map fun l => PyData.str (S l))
  | [] => .nil
  | l :: r => .cons (.str _) (dp_strs r)
theorem dp_rows {K : PySem.W.Frag} {H : Hp} {t : Addr} {ls : List Ln} (h : SqT K H t (rowsV ls)) : Dp K H (.ref t) (rowsD ls) := .tup h (dp_strs ls)
theorem strOk_sig {l : Ln} (h : ∀ c ∈ l, okSign c) : PyData.strOk (S l) = true := by
  unfold PyData.strOk
  rw [Array.all_eq_true_iff_forall_mem]
  intro c hc
  have : c ∈ l := by simpa using hc
  have := (h c this).2
  exact decide_eq_true (by omega)
theorem canLay_strs : ∀ ls : List Ln, (∀ l ∈ ls, ∀ c ∈ l, okSign c) → PyData.canLayAll0 (ls.map fun l => PyData.str (S l)) = true
  | [], _ => rfl
  | l :: r, h => by
    show (PyData.strOk (S l) && PyData.canLayAll0 (r.map fun l => PyData.str (S l))) = true
    rw [strOk_sig (h l (by simp)), canLay_strs r fun m hm => h m (by simp [hm])]; rfl
theorem depth_strs : ∀ ls : List Ln, PyData.depthAll (ls.map fun l => PyData.str (S l)) = 0
  | [] => rfl
  | l :: r => by
    show max 0 (PyData.depthAll (r.map fun l => PyData.str (S l))) = 0
    rw [depth_strs r]; rfl
theorem shaped_rows {ls : List Ln} (h : ∀ l ∈ ls, ∀ c ∈ l, okSign c) : SeqAt.shaped (rowsD ls) = true := by
  unfold SeqAt.shaped rowsD
  have h1 : PyData.canLay0 (.tuple (ls.map fun l => PyData.str (S l))) = PyData.canLayAll0 (ls.map fun l => PyData.str (S l)) := by simp [PyData.canLay0]
  have h2 : PyData.depth (.tuple (ls.map fun l => PyData.str (S l))) = PyData.depthAll (ls.map fun l => PyData.str (S l)) + 1 := by simp [PyData.depth]
  rw [h1, h2, canLay_strs ls h, depth_strs]; rfl
theorem eqv_strs : ∀ a b : List Ln, PyData.eqvAll (a.map fun l => PyData.str (S l)) (b.map fun l => PyData.str (S l)) = decide (a = b)
  | [], [] => rfl
  | [], _ :: _ => rfl
  | _ :: _, [] => rfl
  | x :: a, y :: b => by
    show (PyData.eqv (.str (S x)) (.str (S y)) && PyData.eqvAll (a.map fun l => PyData.str (S l)) (b.map fun l => PyData.str (S l))) = _
    rw [eqv_strs a b]
    have : PyData.eqv (.str (S x)) (.str (S y)) = (S x == S y) := by simp [PyData.eqv]
    rw [this]
    by_cases e : x = y
    · subst e; simp
    · have : (S x == S y) = false := by rw [beq_eq_false_iff_ne]; exact fun z => e (S_inj z)
      rw [this]; simp [e]
theorem eqv_rows (a b : List Ln) : PyData.eqv (rowsD a) (rowsD b) = decide (a = b) := by
  unfold rowsD
  have : PyData.eqv (.tuple (a.map fun l => PyData.str (S l))) (.tuple (b.map fun l => PyData.str (S l))) = PyData.eqvAll (a.map fun l => PyData.str (S l)) (b.map fun l => PyData.str (S l)) := by simp [PyData.eqv]
  rw [this, eqv_strs]
/-! ### the editor -/
structure EdSt where
  page : Pg
  tapes : Nat → List Ky
  taped : Option Nat
  pressed : List Ky
  units : List (Pg × Pg)
  undone : List (Pg × Pg)
/-- where an editor's parts stand -/
structure EdM where
  e : Addr
  t : Addr
  pr : Addr
  un : Addr
  ud : Addr
def EdM.l (m : EdM) : List Addr := [m.e, m.t, m.pr, m.un, m.ud]
def recV : Option Nat → V
  | none => .non
  | some n => .str (nameS n)
def edF (p t : Addr) (r : V) (pr un ud : Addr) : List (Str × V) := [("page", .ref p), ("tapes", .ref t), ("recorded", r), ("pressed", .ref pr), ("units", .ref un), ("undone", .ref ud)]
theorem edF_page (p t : Addr) (r : V) (pr un ud : Addr) : (edF p t r pr un ud).lookup ("page" : Str) = some (.ref p) := by kernel_rfl
theorem edF_tapes (p t : Addr) (r : V) (pr un ud : Addr) : (edF p t r pr un ud).lookup ("tapes" : Str) = some (.ref t) := by kernel_rfl
theorem edF_recorded (p t : Addr) (r : V) (pr un ud : Addr) : (edF p t r pr un ud).lookup ("recorded" : Str) = some r := by kernel_rfl
theorem edF_pressed (p t : Addr) (r : V) (pr un ud : Addr) : (edF p t r pr un ud).lookup ("pressed" : Str) = some (.ref pr) := by kernel_rfl
theorem edF_units (p t : Addr) (r : V) (pr un ud : Addr) : (edF p t r pr un ud).lookup ("units" : Str) = some (.ref un) := by kernel_rfl
theorem edF_undone (p t : Addr) (r : V) (pr un ud : Addr) : (edF p t r pr un ud).lookup ("undone" : Str) = some (.ref ud) := by kernel_rfl
theorem edF_put_page (p q t : Addr) (r : V) (pr un ud : Addr) : putF "page" (.ref q) (edF p t r pr un ud) = edF q t r pr un ud := by kernel_rfl
theorem edF_put_recorded (p t : Addr) (r r' : V) (pr un ud : Addr) : putF "recorded" r' (edF p t r pr un ud) = edF p t r' pr un ud := by kernel_rfl
theorem edF_put_pressed (p t : Addr) (r : V) (pr pr' un ud : Addr) : putF "pressed" (.ref pr') (edF p t r pr un ud) = edF p t r pr' un ud := by kernel_rfl
theorem edF_put_undone (p t : Addr) (r : V) (pr un ud ud' : Addr) : putF "undone" (.ref ud') (edF p t r pr un ud) = edF p t r pr un ud' := by kernel_rfl
theorem edF_make (p t : Addr) (r : V) (pr un ud : Addr) : putF "undone" (.ref ud) (putF "units" (.ref un) (putF "pressed" (.ref pr) (putF "recorded" r (putF "tapes" (.ref t) (putF "page" (.ref p) []))))) = edF p t r pr un ud := by kernel_rfl
theorem mut_ed (C dx p t : Addr) (r : V) (pr un ud : Addr) : mutO (.ins C dx (edF p t r pr un ud)) = true := by kernel_rfl
inductive UnitsAt (K : PySem.W.Frag) (H : Hp) : List Addr → List (Pg × Pg) → Prop where
  | nil : UnitsAt K H [] []
  | cons {a p q : Addr} {u : Pg × Pg} {as : List Addr} {us : List (Pg × Pg)} (h : SqT K H a [.ref p, .ref q]) (h1 : PageAt K H p u.1) (h2 : PageAt K H q u.2) (r : UnitsAt K H as us) : UnitsAt K H (a :: as) (u :: us)
theorem UnitsAt.imp {K : PySem.W.Frag} {H H1 : Hp} {as : List Addr} {us : List (Pg × Pg)} (f : ∀ a xs, SqT K H a xs → SqT K H1 a xs) (g : ∀ p x, PageAt K H p x → PageAt K H1 p x) (h : UnitsAt K H as us) : UnitsAt K H1 as us := by
  induction h with
  | nil => exact .nil
  | cons h h1 h2 _ ih => exact .cons (f _ _ h) (g _ _ h1) (g _ _ h2) ih
theorem UnitsAt.snoc {K : PySem.W.Frag} {H : Hp} {as : List Addr} {us : List (Pg × Pg)} {a p q : Addr} {u : Pg × Pg} (h : UnitsAt K H as us) (ha : SqT K H a [.ref p, .ref q]) (h1 : PageAt K H p u.1) (h2 : PageAt K H q u.2) : UnitsAt K H (as ++ [a]) (us ++ [u]) := by
  induction h with
  | nil => exact .cons ha h1 h2 .nil
  | cons h g1 g2 _ ih => exact .cons h g1 g2 ih
theorem UnitsAt.len {K : PySem.W.Frag} {H : Hp} {as : List Addr} {us : List (Pg × Pg)} (h : UnitsAt K H as us) : as.length = us.length := by
  induction h with
  | nil => rfl
  | cons _ _ _ _ ih => simp [ih]
/-- an editor stands at m -/
structure EdAt (K : PySem.W.Frag) (H : Hp) (m : EdM) (ed : EdSt) : Prop where
  ex : ∃ dx p ap au ad, H m.e = some (.ins (He.ga K "Editor") dx (edF p m.t (recV ed.taped) m.pr m.un m.ud)) ∧ PageAt K H p ed.page ∧ H m.pr = some (.lst (ap.map V.ref)) ∧ KeysAt K H ap ed.pressed ∧
    H m.un = some (.lst (au.map V.ref)) ∧ UnitsAt K H au ed.units ∧ H m.ud = some (.lst (ad.map V.ref)) ∧ UnitsAt K H ad ed.undone
  tapes : TapesAt K H m.t ed.tapes
  tok : TpOk ed.tapes
  sign : TabG H (tS K)
  ok : ed.page.Ok
  d1 : m.pr ≠ m.un
  d2 : m.pr ≠ m.ud
  d3 : m.un ≠ m.ud
  pok : ∀ k ∈ ed.pressed, k.Ok
  uok : ∀ u ∈ ed.units, u.1.Ok ∧ u.2.Ok
  dok : ∀ u ∈ ed.undone, u.1.Ok ∧ u.2.Ok
  rok : ∀ n, ed.taped = some n → n < 8
theorem EdAt.wr {K : PySem.W.Frag} {H : Hp} {m : EdM} {ed : EdSt} (h : EdAt K H m ed) : ∀ b ∈ m.l, ∃ o, H b = some o ∧ mutO o = true := by
  obtain ⟨dx, p, ap, au, ad, h1, _, h3, _, h5, _, h7, _⟩ := h.ex
  obtain ⟨kvs, h9, _⟩ := h.tapes
  intro b hb
  simp only [EdM.l, List.mem_cons, List.not_mem_nil, or_false] at hb
  rcases hb with rfl | rfl | rfl | rfl | rfl
  · exact ⟨_, h1, mut_ed _ _ _ _ _ _ _ _⟩
  · exact ⟨_, h9, rfl⟩
  · exact ⟨_, h3, rfl⟩
  · exact ⟨_, h5, rfl⟩
  · exact ⟨_, h7, rfl⟩
/-- what is written elsewhere is nothing to an editor -/
theorem EdAt.kf {K : PySem.W.Frag} {S : List Addr} {H H1 : Hp} {m : EdM} {ed : EdSt} (h : EdAt K H m ed) (k : Kf S H H1) (d : ∀ b ∈ m.l, b ∉ S) : EdAt K H1 m ed := by
  obtain ⟨dx, p, ap, au, ad, h1, h2, h3, h4, h5, h6, h7, h8⟩ := h.ex
  have g : ∀ {b o}, b ∈ m.l → H b = some o → noTbl o = true → H1 b = some o := fun hb e n => k.q.at_ _ _ e n (d _ hb)
  exact ⟨⟨dx, p, ap, au, ad, g (by simp [EdM.l]) h1 rfl, k.page h2, g (by simp [EdM.l]) h3 rfl, k.keys h4, g (by simp [EdM.l]) h5 rfl, h6.imp (fun _ _ z => k.tup z) (fun _ _ z => k.page z), g (by simp [EdM.l]) h7 rfl, h8.imp (fun _ _ z => k.tup z) (fun _ _ z => k.page z)⟩,
    k.tapes h.tapes (d _ (by simp [EdM.l])), h.tok, k.q.tab _ h.sign, h.ok, h.d1, h.d2, h.d3, h.pok, h.uok, h.dok, h.rok⟩
theorem EdAt.kq {K : PySem.W.Frag} {H H1 : Hp} {m : EdM} {ed : EdSt} (h : EdAt K H m ed) (k : Kq [] H H1) : EdAt K H1 m ed := h.kf (Kf.of (S := []) k (fun b hb => absurd hb (by simp))) (fun b _ => by simp)
section
variable {P : Program} {w : World} {K : PySem.W.Frag} {mg : Str → Option Value} {base : Heap}
def sp_ed_text (K : PySem.W.Frag) : Sp := fun vs H Q _ => ∃ m ed, vs = [.ref m.e] ∧ EdAt K H m ed ∧ Q (.str (textS ed.page.rows)) H
def sp_ed_place (K : PySem.W.Frag) : Sp := fun vs H Q _ => ∃ m ed, vs = [.ref m.e] ∧ EdAt K H m ed ∧ ∀ q H', Kq [] H H' → H' q = some (.tup [.int ed.page.row, .int ed.page.col]) → Q (.ref q) H'
def sp_ed_clip (K : PySem.W.Frag) : Sp := fun vs H Q _ => ∃ m ed, vs = [.ref m.e] ∧ EdAt K H m ed ∧ Q (.str (S ed.page.clip)) H
end
end KT
set_option Elab.async false
set_option linter.all false
set_option maxRecDepth 100000
set_option maxHeartbeats 4000000
namespace KT
open PySem PySem.Spec PyProof.Rows L2 GxR
variable [GT]
/-- what was not there may be written -/
theorem Kq.writeF {S : List Addr} {H H' : Hp} {d : Addr} {o u : HO} (k : Kq S H H') (nd : H d = none) (hd : H' d = some u) (n : wrO u = true := by rfl) : Kq S H (upd H' d o) := by
  refine ⟨fun b v h n' m => ?_, fun q h => ?_, fun b h => ?_, fun q m h => tabS_imp (k.tabS q m h) (fun ps e => by rw [upd_ne (wr_tbl hd n e)]; exact e) (fun c e => by rw [upd_ne (wr_ne hd n e)]; exact e)⟩
  · rw [upd_ne (ne_of_none h nd)]; exact k.at_ b v h n' m
  · obtain ⟨ps, h1, h2⟩ := k.tab q h
    have : q ≠ d := fun e => by
      subst e
      rw [hd] at h1
      cases h1
      cases n
    exact ⟨ps, by rw [upd_ne this]; exact h1, h2⟩
  · by_cases e : b = d
    · subst e; rw [upd_same] at h; cases h
    · rw [upd_ne e] at h; exact k.fr b h
theorem Kq.tup1 {K : PySem.W.Frag} {x C dx : Addr} {fs : List (Str × V)} {H H' : Hp} (k : Kq [x] H H') (hx : H x = some (.ins C dx fs)) {l : Addr} {xs : List V} (h : SqT K H l xs) : SqT K H' l xs := by
  rcases h with (h | ⟨o, h⟩) | h
  · exact .inl (.inl (k.gets h (by simp; exact fun e => by rw [e, hx] at h; cases h)))
  · exact .inl (.inr ⟨o, k.gets h (by simp; exact fun e => by rw [e, hx] at h; cases h)⟩)
  · exact .inr h
theorem Kq.page1 {K : PySem.W.Frag} {x C dx : Addr} {fs : List (Str × V)} {H H' : Hp} (k : Kq [x] H H') (hx : H x = some (.ins C dx fs)) {p : Addr} {g : Pg} (h : PageAt K H p g) (ne : p ≠ x) : PageAt K H' p g := by
  obtain ⟨d, t, h1, h2⟩ := h
  exact ⟨d, t, k.gets h1 (by simp [ne]), k.tup1 hx h2⟩
theorem valV_zip : ∀ {ks : List Key} {vs : List V} {n : Nat} (h1 : n < ks.length) (h2 : n < vs.length), ks.Nodup → valV (ks.zip vs) ks[n] = some vs[n]
  | k :: ks, v :: vs, 0, _, _, _ => valV_pos (p := (k, v)) rfl
  | k :: ks, v :: vs, n + 1, h1, h2, hn => by
    have hne : ¬ k = ks[n]'(by simpa using h1) := fun e => (List.nodup_cons.mp hn).1 (e ▸ List.getElem_mem _)
    show valV ((k, v) :: ks.zip vs) (ks[n]'(by simpa using h1)) = some (vs[n]'(by simpa using h2))
    rw [valV_neg (p := (k, v)) hne]
    exact valV_zip (by simpa using h1) (by simpa using h2) (List.nodup_cons.mp hn).2
theorem valV_no {kvs : List (Key × V)} {k : Key} (h : ∀ p ∈ kvs, p.1 ≠ k) : valV kvs k = none := by
  induction kvs with
  | nil => rfl
  | cons p r ih => rw [valV_neg (h p (by simp))]; exact ih fun q hq => h q (by simp [hq])
theorem names8_nd : names8.Nodup := by decide +kernel
theorem names8_V : namesV = names8.map kV := by decide +kernel
theorem names8_at {n : Nat} (h : n < 8) : names8[n]'(by simpa [names8] using h) = .inr (nameS n) := by
  have : ∀ n (h : n < 8), names8[n]'(by simpa [names8] using h) = .inr (nameS n) := by decide +kernel
  exact this n h
def EdSt.new (ls : List Ln) : EdSt := ⟨⟨ls, 0, 0, []⟩, fun _ => [], none, [], [], []⟩
section
variable {P : Program} {w : World} {K : PySem.W.Frag} {mg : Str → Option Value} {base : Heap}
def sp_Editor___init__ (K : PySem.W.Frag) : Sp := fun vs H Q E => ∃ x dx ls, vs = [.ref x, .str (textS ls)] ∧ H x = some (.ins (He.ga K "Editor") dx []) ∧ ls ≠ [] ∧ (∀ l ∈ ls, 10 ∉ l) ∧ (∀ l ∈ ls, l.length ≤ 1000) ∧ ls.length ≤ 900 ∧ TabG H (tS K) ∧
  (goodB ls = true → ∀ t pr un ud H', H t = none → H pr = none → H un = none → H ud = none → Kq [x] H H' → EdAt K H' ⟨x, t, pr, un, ud⟩ (EdSt.new ls) → Q .non H') ∧ (goodB ls = false → ∀ H', Kq [] H H' → E (.ref (He.ga K "BadText")) none H')
end
end KT
set_option Elab.async false
set_option linter.all false
set_option maxRecDepth 100000
set_option maxHeartbeats 4000000
namespace KT
open PySem PySem.Spec PyProof.Rows L2 GxR
variable [GT]
/-- what is fresh may be written -/
theorem Kq.fresh {S : List Addr} {H H1 H2 : Hp} (a : Kq [] H H1) (b : Kq S H1 H2) (h : ∀ c ∈ S, H c = none) : Kq [] H H2 :=
  ⟨fun c o q n m => b.at_ c o (a.get q n) n (fun z => absurd (h c z) (by rw [q]; simp)), fun p q => b.tab p (a.tab p q), fun c q => a.fr c (b.fr c q), fun p m q => b.tabS p m (a.tabS p m q)⟩
theorem PlAt.kf {K : PySem.W.Frag} {S : List Addr} {H H1 : Hp} {x t y : Addr} {tp : Nat → List Ky} {st : PSt} (h : PlAt K H x t y tp st) (k : Kf S H H1) (nx : x ∉ S) (ny : y ∉ S) (nt : t ∉ S) : PlAt K H1 x t y tp st := by
  obtain ⟨dx, p, as, h1, h2, h3, h4⟩ := h.ex
  exact ⟨⟨dx, p, as, k.q.at_ _ _ h1 rfl nx, k.page h2, k.q.at_ _ _ h3 rfl ny, k.keys h4⟩, k.tapes h.tapes nt, h.tok, k.q.tab _ h.sign, h.ok, h.small, h.low⟩
theorem Kf.mono {S S' : List Addr} {H H1 : Hp} (k : Kf S H H1) (h : ∀ b ∈ S, b ∈ S') (w : ∀ b ∈ S', ∃ o, H b = some o ∧ mutO o = true) (w' : ∀ b ∈ S', ∃ o, H1 b = some o ∧ mutO o = true) : Kf S' H H1 := ⟨k.q.mono h, w, w'⟩
/-- one list is written -/
theorem Kf.one {H : Hp} {l : Addr} {xs ys : List V} (h : H l = some (.lst xs)) : Kf [l] H (upd H l (.lst ys)) :=
  Kf.write h (by simp) rfl fun b hb => by rw [List.mem_singleton.mp hb]; exact ⟨_, h, rfl⟩
theorem recV_none {o : Option Nat} (h : recV o = .non) : o = none := by
  cases o with
  | none => rfl
  | some n => cases h
def doneE (ed : EdSt) (ky : Ky) (g : Pg) : EdSt :=
  { page := g, tapes := ed.tapes, taped := ed.taped, pressed := if ed.taped.isSome = true then ed.pressed ++ [ky] else ed.pressed,
    units := if g.rows = ed.page.rows then ed.units else ed.units ++ [(ed.page, g)], undone := if g.rows = ed.page.rows then ed.undone else [] }
def runK (ed : EdSt) (ky : Ky) : Res := doK ed.tapes 20 ky ⟨ed.page, [], 0⟩
structure EdSt.Small (ed : EdSt) : Prop where
  p : ed.pressed.length ≤ 900000
  u : ed.units.length ≤ 900000
  d : ed.undone.length ≤ 900000
theorem smallM {n : Nat} (h : n ≤ 1000000) : n < sizeLine := Nat.lt_of_le_of_lt h (by rw [sizeLine_eq]; decide)
section
variable {P : Program} {w : World} {K : PySem.W.Frag} {mg : Str → Option Value} {base : Heap}
def sp_Player___init__ (K : PySem.W.Frag) : Sp := fun vs H Q _ => ∃ x dx p t, vs = [.ref x, .ref p, .ref t] ∧ H x = some (.ins (He.ga K "Player") dx []) ∧ ∀ y H', H y = none → Kq [x] H H' → H' x = some (.ins (He.ga K "Player") dx (playerF p t y 0)) → H' y = some (.lst []) → Q .non H'
def sp_Player (K : PySem.W.Frag) : Sp := fun vs H Q _ => ∃ p t g tp, vs = [.ref p, .ref t] ∧ PageAt K H p g ∧ g.Ok ∧ TapesAt K H t tp ∧ TpOk tp ∧ TabG H (tS K) ∧ ∀ x y H', Kq [] H H' → H x = none → H y = none → x ≠ y → PlAt K H' x t y tp ⟨g, [], 0⟩ → Q (.ref x) H'
theorem new_Player {E : XK} : ∀ vs H Q, sp_Player K vs H Q E → ∀ x dx, H x = none → H dx = none → dx ≠ x →
    sp_Player___init__ K (.ref x :: vs) (upd (upd H dx (.own x)) x (.ins (He.ga K "Player") dx [])) (fun v H2 => v = .non ∧ Q (.ref x) H2) E := by
  rintro vs H Q ⟨p, t, g, tp, rfl, hp, hg, ht, hto, hT, k⟩ x dx nx ndx ne
  refine ⟨x, dx, p, t, rfl, upd_same, fun y H' ny k' h1 h2 => ⟨rfl, ?_⟩⟩
  have k0 : Kq [] H (upd (upd H dx (.own x)) x (.ins (He.ga K "Player") dx [])) := Kq.made nx ndx ne
  have kk : Kq [] H H' := k0.fresh k' fun c hc => by rw [List.mem_singleton.mp hc]; exact nx
  have nxy : x ≠ y := fun e => by subst e; rw [upd_same] at ny; cases ny
  exact k x y H' kk nx (k0.fr y ny) nxy ⟨⟨dx, p, [], h1, kk.page hp, h2, .nil⟩, kk.tapes ht, hto, kk.tab _ hT, hg, Nat.le_refl _, Nat.zero_le _⟩
def sp_ed_press (K : PySem.W.Frag) : Sp := fun vs H Q E => ∃ m ed a ky, vs = [.ref m.e, .ref a] ∧ EdAt K H m ed ∧ ed.Small ∧ KeyAt K H a ky ∧ ky.Ok ∧
  (runK ed ky = .long → ∀ H', Kq [] H H' → E (.ref (He.ga K "TooLong")) none H') ∧
  (∀ b st m' H', runK ed ky = .fin b st → m'.e = m.e → m'.t = m.t → m'.pr = m.pr → m'.un = m.un → (m'.ud = m.ud ∨ H m'.ud = none) → Kf m.l H H' → EdAt K H' m' (doneE ed ky st.page) → Q (.bl b) H')
end
end KT
set_option Elab.async false
set_option linter.all false
set_option maxRecDepth 100000
set_option maxHeartbeats 4000000
namespace KT
open PySem PySem.Spec PyProof.Rows L2 GxR
variable [GT]
/-! ### the drawer of numbers -/
def DrAt (H : Hp) (h l : Addr) : Prop := ∃ (a c : Int) (xs : List Int), H h = some (.lst [.int a, .ref l, .int c]) ∧ H l = some (.lst (xs.map V.int)) ∧ h ≠ l
theorem DrAt.kq {H H1 : Hp} {h l : Addr} (d : DrAt H h l) (k : Kq [] H H1) : DrAt H1 h l := by
  obtain ⟨a, c, xs, h1, h2, ne⟩ := d
  exact ⟨a, c, xs, k.get h1, k.get h2, ne⟩
theorem DrAt.kf {S : List Addr} {H H1 : Hp} {h l : Addr} (d : DrAt H h l) (k : Kf S H H1) (n1 : h ∉ S) (n2 : l ∉ S) : DrAt H1 h l := by
  obtain ⟨a, c, xs, h1, h2, ne⟩ := d
  exact ⟨a, c, xs, k.q.gets h1 n1, k.q.gets h2 n2, ne⟩
theorem DrAt.wr {H : Hp} {h l : Addr} (d : DrAt H h l) : ∀ b ∈ [h, l], ∃ o, H b = some o ∧ mutO o = true := by
  obtain ⟨a, c, xs, h1, h2, ne⟩ := d
  intro b hb
  simp only [List.mem_cons, List.not_mem_nil, or_false] at hb
  rcases hb with rfl | rfl
  · exact ⟨_, h1, rfl⟩
  · exact ⟨_, h2, rfl⟩
theorem ints_at {xs : List Int} {j : Nat} (h : j < xs.length) : atI (xs.map V.int) (j : Int) = some (.int xs[j]) := at_of rfl (by rw [List.getElem?_map, List.getElem?_eq_getElem h]; rfl)
theorem ixN_nat {n j : Nat} (h : j < n) : ixN n (j : Int) = some j := by
  unfold ixN
  rw [if_pos (by omega), if_pos (by omega)]; rfl
theorem eqv_nil (xs : List PyData) : PyData.eqv (.list xs) (.list []) = xs.isEmpty := by
  cases xs <;> simp [PyData.eqv, PyData.eqvAll]
theorem dp_ints {K : PySem.W.Frag} {H : Hp} : ∀ (xs : List Int), DpAll K H (xs.map V.int) (xs.map PyData.int)
  | [] => .nil
  | x :: xs => .cons (.int x) (dp_ints xs)
theorem canLay_ints : ∀ xs : List Int, PyData.canLayAll0 (xs.map PyData.int) = true
  | [] => rfl
  | x :: r => by
    show (PyData.canLay0 (.int x) && PyData.canLayAll0 (r.map PyData.int)) = true
    rw [canLay_ints r]; rfl
theorem depth_ints : ∀ xs : List Int, PyData.depthAll (xs.map PyData.int) = 0
  | [] => rfl
  | x :: r => by
    show max 0 (PyData.depthAll (r.map PyData.int)) = 0
    rw [depth_ints r]; rfl
theorem shaped_ints (xs : List Int) : SeqAt.shaped (.list (xs.map PyData.int)) = true := by
  unfold SeqAt.shaped
  have h1 : PyData.canLay0 (.list (xs.map PyData.int)) = PyData.canLayAll0 (xs.map PyData.int) := by simp [PyData.canLay0]
  have h2 : PyData.depth (.list (xs.map PyData.int)) = PyData.depthAll (xs.map PyData.int) + 1 := by simp [PyData.depth]
  rw [h1, h2, canLay_ints, depth_ints]; rfl
section
variable {P : Program} {w : World} {K : PySem.W.Frag} {mg : Str → Option Value} {base : Heap}
def sp_mix (K : PySem.W.Frag) : Sp := fun vs H Q _ => ∃ (a : Addr) (ns : List Int) (i : Int), vs = [.ref a, .int i] ∧ SqL K H a (ns.map V.int) ∧ ∀ h l H', H h = none → H l = none → Kq [] H H' → DrAt H' h l → Q (.ref h) H'
theorem sc__law_mix : FnScope ["_law_script", "_law_seed", "_law_mixed", "_law_cell"] ["_law_script", "_law_seed"] (defScope s__law_mix) := ⟨rfl, rfl, rfl, by decide +kernel, rfl, by decide +kernel, by decide +kernel⟩
theorem ok__law_mix (T : Tx w K mg) : Fk P w K mg base 1 (Ad K d__law_mix.at_) ["_law_script", "_law_seed"] (sp_mix K) := by
  refine mkF T.f__law_mix sc__law_mix rfl (fun _ _ _ _ _ _ us hl => match us, hl with | [_, _], _ => rfl) (fun vs H Q E h => by obtain ⟨_, _, _, rfl, _⟩ := h; rfl) (fun cdv A outer s H vs Q E hcd hcode hr h => ?_)
  have po : PassesOwn (model P w) (CxD P w K mg base ["_law_script", "_law_seed", "_law_mixed", "_law_cell"] d__law_mix cdv A outer s H E).A (CxD P w K mg base ["_law_script", "_law_seed", "_law_mixed", "_law_cell"] d__law_mix cdv A outer s H E).env (CxD P w K mg base ["_law_script", "_law_seed", "_law_mixed", "_law_cell"] d__law_mix cdv A outer s H E).xe := passes_of rfl
  refine ⟨_, (pss_cons (ps_asg (pv 1) (pg_name (i := 2) sc__law_mix.nd rfl (.inl rfl)))
      (pss_cons (ps_for po rfl (pi_list (pv 0)) (pg_name (i := 3) sc__law_mix.nd rfl (.inl rfl)) (pss_one (ps_asg (pe_op op_mod (pe_op op_add (pe_op op_add (pe_op op_mul (pv 2) pe_int) (pe_op op_mod (pv 3) pe_int)) pe_int) pe_int) (pg_name (i := 2) sc__law_mix.nd rfl (.inl rfl)))))
      (pss_one (ps_ret (pe_lst (pa_cons (pv 2) (pa_cons (pe_callTy call_list_of (by rfl) T.n_list (by decide +kernel) (pa_cons (pv 0) pa_nil)) (pa_cons pe_int pa_nil)))))))), ?_⟩
  obtain ⟨a, ns, i, rfl, ha, k⟩ := h
  refine ⟨_, rfl, ?_⟩
  refine ⟨_, rfl, a, rfl, ⟨_, ha⟩, ?_⟩
  refine for_list (K := K) (a := a) (xs := ns.map V.int) (fun j σ H' => H' = H ∧ ∃ z c, σ = [some (.ref a), some (.int i), some (.int z), c]) ⟨rfl, _, _, rfl⟩ (fun j σ H' _ z => by rw [z.1]; exact ha) ?_ ?_
  · rintro j x σ H' hx ⟨rfl, z, c, rfl⟩
    rw [List.getElem?_map] at hx
    obtain ⟨y, _, rfl⟩ := Option.map_eq_some_iff.mp hx
    refine ⟨_, rfl, _, _, rfl, rfl, .inr ⟨by decide, by decide⟩, _, rfl, _, _, rfl, rfl, (by show (0 : Int) < 2147483629; decide), _, _, rfl, rfl, _, _, rfl, rfl, _, _, rfl, rfl, (by show (0 : Int) < 2147483647; decide), rfl, _, _, rfl⟩
  · rintro σ H' ⟨rfl, z, c, rfl⟩
    refine ⟨_, rfl, _, rfl, a, _, rfl, .inl ha, fun l nl => ⟨line16 (by show 3 ≤ 1000000; decide), fun h nh => ?_⟩⟩
    have ne : h ≠ l := fun e => by subst e; rw [upd_same] at nh; cases nh
    refine k h l _ (by rw [upd_ne ne] at nh; exact nh) nl ((Kq.alloc nl).trans (Kq.alloc nh)) ⟨z, 0, ns, upd_same, by rw [upd_ne ne.symm, upd_same], ne⟩
def sp_next (K : PySem.W.Frag) : Sp := fun vs H Q _ => ∃ (h l : Addr) (m : Nat), vs = [.ref h, .int m] ∧ DrAt H h l ∧ 1 ≤ m ∧ m < 1073741824 ∧ ∀ (r : Nat) H', r < m → Kf [h, l] H H' → DrAt H' h l → Q (.int r) H'
theorem sc__law_next : FnScope ["_law_h", "_law_many", "_law_at", "_law_cell"] ["_law_h", "_law_many"] (defScope s__law_next) := ⟨rfl, rfl, rfl, by decide +kernel, rfl, by decide +kernel, by decide +kernel⟩
theorem ok__law_next (T : Tx w K mg) : Fk P w K mg base 1 (Ad K d__law_next.at_) ["_law_h", "_law_many"] (sp_next K) := by
  refine mkF T.f__law_next sc__law_next rfl (fun _ _ _ _ _ _ us hl => match us, hl with | [_, _], _ => rfl) (fun vs H Q E h => by obtain ⟨_, _, _, rfl, _⟩ := h; rfl) (fun cdv A outer s H vs Q E hcd hcode hr h => ?_)
  refine ⟨_, (pss_cons (ps_asg (pe_op op_mod (pe_ix ix_list (pv 0) pe_int (fun _ _ => rfl)) (pe_callB (call_max2 rfl) (by rfl) T.n_max (by decide +kernel) (pa_cons pe_int (pa_cons (pe_callB call_len_seq (by rfl) T.n_len (by decide +kernel) (pa_cons (pe_ix ix_list (pv 0) pe_int (fun _ _ => rfl)) pa_nil)) pa_nil)))) (pg_name (i := 2) sc__law_next.nd rfl (.inl rfl)))
      (C8.pss_cut (ps_asg (pe_ifExp (pt_cmpR (op_neD hr.units) (pe_ix ix_list (pv 0) pe_int (fun _ _ => rfl)) (pe_lst pa_nil) (nomark _)) (pe_ix ix_list (pe_ix ix_list (pv 0) pe_int (fun _ _ => rfl)) (pv 2) (fun _ _ => rfl)) pe_int) (pg_name (i := 3) sc__law_next.nd rfl (.inl rfl)))
      (pss_cons (ps_if (pt_cmpR op_ge (pv 3) (pe_op op_pow pe_int pe_int) (nomark _)) (pss_cons (ps_asg (pe_op op_fdivN (pv 3) (pv 1)) (pg_sub (pe_ix ix_list (pv 0) pe_int (fun _ _ => rfl)) (pv 2) set_list))
      (pss_one (ps_ret (pe_op op_mod (pv 3) (pv 1))))) pss_nil)
      (pss_cons (ps_asg (pe_op op_mod (pe_op op_add (pe_op op_add (pe_op op_mul (pe_ix ix_list (pv 0) pe_int (fun _ _ => rfl)) pe_int) (pe_op op_mul (pv 3) pe_int)) pe_int) pe_int) (pg_sub (pv 0) pe_int set_list))
      (pss_cons (ps_asg (pe_op op_add (pe_ix ix_list (pv 0) pe_int (fun _ _ => rfl)) pe_int) (pg_sub (pv 0) pe_int set_list))
      (pss_one (ps_ret (pe_op op_mod (pe_op op_fdivN (pe_ix ix_list (pv 0) pe_int (fun _ _ => rfl)) pe_int) (pv 1))))))))), ?_⟩
  obtain ⟨h, l, m, rfl, hD, hm, hm2, kQ⟩ := h
  have hD0 := hD
  obtain ⟨a, c, xs, h1, h2, ne⟩ := hD
  refine ⟨_, rfl, h, _, _, .int c, rfl, rfl, SqL.of h1, at_of (j := 2) rfl rfl, _, rfl, h, _, _, .ref l, rfl, rfl, SqL.of h1, at_of (j := 1) rfl rfl, l, _, rfl, .inl (SqL.of h2), _, _, rfl, _, _, rfl, rfl, ?_, ?_⟩
  · split <;> omega
  rw [List.length_map]
  have hat : ∃ j : Nat, c % (if (xs.length : Int) > 1 then (xs.length : Int) else 1) = (j : Int) ∧ (xs ≠ [] → j < xs.length) := by
    have hp : (0 : Int) < (if (xs.length : Int) > 1 then (xs.length : Int) else 1) := by split <;> omega
    refine ⟨(c % (if (xs.length : Int) > 1 then (xs.length : Int) else 1)).toNat, ?_, fun hx => ?_⟩
    · rw [Int.toNat_of_nonneg (Int.emod_nonneg _ (by omega))]
    · have h1 := Int.emod_lt_of_pos c hp
      have h0 := Int.emod_nonneg c (b := (if (xs.length : Int) > 1 then (xs.length : Int) else 1)) (by omega)
      have : 0 < xs.length := List.length_pos_iff.mpr hx
      generalize c % (if (xs.length : Int) > 1 then (xs.length : Int) else 1) = r at *
      split at h1 <;> omega
  obtain ⟨j, ej, hj⟩ := hat
  refine ⟨fun σ' H' => ∃ z, σ' = [some (.ref h), some (.int m), some (.int j), some (.int z)] ∧ Kq [] H H' ∧ (xs = [] → z = 0), ?_, ?_⟩
  · refine ⟨_, rfl, h, _, _, .ref l, rfl, rfl, SqL.of h1, at_of (j := 1) rfl rfl, line16 (by show 0 ≤ 1000000; decide), fun p np => ?_⟩
    have k1 : Kq [] H (upd H p (.lst [])) := Kq.alloc np
    refine ⟨.list (xs.map .int), .list [], .lst (SqL.of (k1.get h2)) (dp_ints xs), .lst (SqL.of upd_same) .nil, shaped_ints xs, rfl, _, rfl, ?_⟩
    rw [eqv_nil]
    by_cases hx : xs = []
    · rw [show (xs.map PyData.int).isEmpty = true by rw [hx]; rfl]
      exact iteF ⟨0, by rw [← ej]; rfl, k1, fun _ => rfl⟩
    · rw [show (xs.map PyData.int).isEmpty = false by cases xs <;> first | rfl | exact absurd rfl hx]
      exact iteT ⟨_, rfl, h, _, _, .ref l, rfl, rfl, SqL.of (k1.get h1), at_of (j := 1) rfl rfl, _, rfl, l, _, _, _, rfl, rfl, SqL.of (k1.get h2), (by rw [ej]; exact ints_at (hj hx)), xs[j]'(hj hx), by rw [← ej]; rfl, k1, fun e => absurd e hx⟩
  rintro σ' H1 ⟨z, rfl, k1, hz⟩
  refine ⟨_, rfl, _, _, rfl, rfl, ⟨by decide, by decide, by decide⟩, _, _, rfl, rfl, _, rfl, ?_⟩
  refine iteD (fun hge => ?_) (fun hlt => ?_)
  · have hne : xs ≠ [] := fun e => by rw [hz e] at hge; exact absurd hge (by decide)
    have k2 : Kf [h, l] H1 (upd H1 l (.lst ((xs.map V.int).set j (.int (z.fdiv m))))) := Kf.write (k1.get h2) (by simp) rfl (hD0.kq k1).wr
    refine ⟨_, rfl, _, rfl, _, _, rfl, rfl, ⟨by omega, by omega⟩, _, rfl, h, _, _, .ref l, rfl, rfl, SqL.of (k1.get h1), at_of (j := 1) rfl rfl, _, rfl, l, _, _, j, rfl, rfl, k1.get h2, ixN_nat (by rw [List.length_map]; exact hj hne), ?_⟩
    refine ⟨_, rfl, _, rfl, _, _, rfl, rfl, by omega, ?_⟩
    have e0 : z % (m : Int) = ((z % (m : Int)).toNat : Int) := by rw [Int.toNat_of_nonneg (Int.emod_nonneg _ (by omega))]
    have e1 := Int.emod_lt_of_pos z (b := (m : Int)) (by omega)
    show Q (.int (z % (m : Int))) _
    rw [e0]
    refine kQ _ _ (by omega) (Kf.cat k1 k2 hD0.wr) ⟨a, c, xs.set j (z.fdiv m), (upd_ne ne).trans (k1.get h1), ?_, ne⟩
    rw [upd_same, List.map_set]
  · have g1 := k1.get h1
    have g2 := k1.get h2
    have d1 := hD0.kq k1
    refine ⟨_, rfl, h, _, _, .int a, rfl, rfl, SqL.of g1, at_of (j := 0) rfl rfl, _, _, rfl, rfl, .inr ⟨by decide, by decide⟩, _, rfl, _, _, rfl, rfl, .inr ⟨by decide, by decide⟩, _, _, rfl, rfl, _, _, rfl, rfl, _, _, rfl, rfl, (by show (0 : Int) < 2147483647; decide), _, rfl, h, _, _, 0, rfl, rfl, g1, rfl, ?_⟩
    have kA : Kf [h, l] H1 (upd H1 h (.lst [.int ((a * 48271 + z * 69621 + 11) % 2147483647), .ref l, .int c])) := Kf.write g1 (by simp) rfl d1.wr
    refine ⟨_, rfl, h, _, _, .int c, rfl, rfl, SqL.of upd_same, at_of (j := 2) rfl rfl, _, _, rfl, rfl, _, rfl, h, _, _, 2, rfl, rfl, upd_same, rfl, ?_⟩
    have kB : Kf [h, l] (upd H1 h (.lst [.int ((a * 48271 + z * 69621 + 11) % 2147483647), .ref l, .int c])) (upd (upd H1 h (.lst [.int ((a * 48271 + z * 69621 + 11) % 2147483647), .ref l, .int c])) h (.lst [.int ((a * 48271 + z * 69621 + 11) % 2147483647), .ref l, .int (c + 1)])) := Kf.write upd_same (by simp) rfl kA.w'
    refine ⟨_, rfl, h, _, _, .int ((a * 48271 + z * 69621 + 11) % 2147483647), rfl, rfl, SqL.of upd_same, at_of (j := 0) rfl rfl, _, _, rfl, rfl, ⟨by decide, by decide⟩, _, rfl, _, _, rfl, rfl, by omega, ?_⟩
    show Q (.int (((a * 48271 + z * 69621 + 11) % 2147483647).fdiv 7 % (m : Int))) _
    generalize ((a * 48271 + z * 69621 + 11) % 2147483647).fdiv 7 = u
    have e0 : u % (m : Int) = ((u % (m : Int)).toNat : Int) := by rw [Int.toNat_of_nonneg (Int.emod_nonneg _ (by omega))]
    have e1 := Int.emod_lt_of_pos u (b := (m : Int)) (by omega)
    rw [e0]
    exact kQ _ _ (by omega) (Kf.cat k1 (kA.trans kB) hD0.wr) ⟨_, c + 1, xs, upd_same, (upd_ne ne.symm).trans ((upd_ne ne.symm).trans g2), ne⟩
end
end KT
set_option Elab.async false
set_option linter.all false
set_option maxRecDepth 100000
set_option maxHeartbeats 4000000
namespace KT
open PySem PySem.Spec PyProof.Rows L2 GxR
variable [GT]
theorem kit_tl {K : PySem.W.Frag} {a : String} {b1 b2 : Bool} (h1 : kitB a "tuple" = some b1) (h2 : kitB a "list" = some b2) : W.kitAny K (.type a) [.type "tuple", .type "list"] = some (b1 || b2) := by
  simp only [PySem.W.kitAny, kit_ty h1, kit_ty h2]
  cases b1 <;> cases b2 <;> rfl
theorem ix_seqB {X : Cx} {K : PySem.W.Frag} (e : X.K = K) : IxR X (rIx K) := e ▸ ix_seq
theorem ix_listB {X : Cx} {K : PySem.W.Frag} (e : X.K = K) : IxR X (rIxL K) := e ▸ ix_list
theorem ix_tupB {X : Cx} {K : PySem.W.Frag} (e : X.K = K) : IxR X (rIxT K) := e ▸ ix_tup
theorem op_in_seqB {X : Cx} {K : PySem.W.Frag} (e : X.K = K) : OpR X (compareOp .In) (rIn K false) := e ▸ op_in_seq
theorem call_len_seqB {X : Cx} {K : PySem.W.Frag} (e : X.K = K) : CallR X (Value.builtin "len") fun xs H Q => ∃ p ys, xs = [V.ref p] ∧ (SqL K H p ys ∨ SqT K H p ys) ∧ Q (V.int ↑ys.length) H := e ▸ call_len_seq
/-- alike, n deep -/
inductive Al (K : PySem.W.Frag) (H : Hp) : Nat → V → V → Prop where
  | non (n : Nat) : Al K H n .non .non
  | int (n : Nat) (i : Int) : Al K H n (.int i) (.int i)
  | str (n : Nat) (s : Str) : Al K H n (.str s) (.str s)
  | bl (n : Nat) (b : Bool) : Al K H n (.bl b) (.bl b)
  | lst {n : Nat} {a b : Addr} {xs ys : List V} (h1 : H a = some (.lst xs)) (h2 : H b = some (.lst ys)) (hl : xs.length = ys.length) (hb : xs.length ≤ 1000) (h : ∀ (i : Nat) (x y : V), xs[i]? = some x → ys[i]? = some y → Al K H n x y) : Al K H (n + 1) (.ref a) (.ref b)
  | tup {n : Nat} {a b : Addr} {xs ys : List V} (h1 : SqT K H a xs) (h2 : SqT K H b ys) (hl : xs.length = ys.length) (hb : xs.length ≤ 1000) (h : ∀ (i : Nat) (x y : V), xs[i]? = some x → ys[i]? = some y → Al K H n x y) : Al K H (n + 1) (.ref a) (.ref b)
theorem Al.kq {K : PySem.W.Frag} {H H1 : Hp} (k : Kq [] H H1) {n : Nat} {x y : V} (h : Al K H n x y) : Al K H1 n x y := by
  induction h with
  | non n => exact .non n
  | int n i => exact .int n i
  | str n s => exact .str n s
  | bl n b => exact .bl n b
  | lst h1 h2 hl hb _ ih => exact .lst (k.get h1) (k.get h2) hl hb ih
  | tup h1 h2 hl hb _ ih => exact .tup (k.tup h1) (k.tup h2) hl hb ih
section
variable {P : Program} {w : World} {K : PySem.W.Frag} {mg : Str → Option Value} {base : Heap}
def sp_alike (K : PySem.W.Frag) : Nat → Sp
  | 0 => fun _ _ _ _ => False
  | n + 1 => fun vs H Q _ => ∃ x y, vs = [x, y] ∧ Al K H n x y ∧ ∀ H', Kq [] H H' → Q (.bl true) H'
theorem paired_tl : Paired ClsV [.ty "tuple", .ty "list"] [.type "tuple", .type "list"] := .cons (.ty _) (.cons (.ty _) .nil)
theorem sc__law_alike : FnScope ["_law_found", "_law_due_here", "_law_k"] ["_law_found", "_law_due_here"] (defScope s__law_alike) := ⟨rfl, rfl, rfl, by decide +kernel, rfl, by decide +kernel, by decide +kernel⟩
theorem ok__law_alike (T : Tx w K mg) {n k : Nat} (F__law_alike : Fk P w K mg base k (Ad K d__law_alike.at_) ["_law_found", "_law_due_here"] (sp_alike K n)) : Fk P w K mg base (k + 1) (Ad K d__law_alike.at_) ["_law_found", "_law_due_here"] (sp_alike K (n + 1)) := by
  refine mkF T.f__law_alike sc__law_alike rfl (fun _ _ _ _ _ _ us hl => match us, hl with | [_, _], _ => rfl) (fun vs H Q E h => by obtain ⟨_, _, rfl, _⟩ := h; rfl) (fun cdv A outer s H vs Q E hcd hcode hr h => ?_)
  refine ⟨_, (pss_cons (ps_if (pt_val (pe_callB call_isiT (by rfl) T.n_isinstance (by decide +kernel) (pa_cons (pv 1) (pa_cons (pe_tup (pa_cons (pe_bltn (v := .ty "tuple") (by rfl) T.n_tuple (by decide +kernel) rfl) (pa_cons (pe_bltn (v := .ty "list") (by rfl) T.n_list (by decide +kernel) rfl) pa_nil))) pa_nil)))) (pss_cons (ps_if ((pw_or (pt_not (pt_val (pe_callB call_isiT (by rfl) T.n_isinstance (by decide +kernel) (pa_cons (pv 0) (pa_cons (pe_tup (pa_cons (pe_bltn (v := .ty "tuple") (by rfl) T.n_tuple (by decide +kernel) rfl) (pa_cons (pe_bltn (v := .ty "list") (by rfl) T.n_list (by decide +kernel) rfl) pa_nil))) pa_nil))))) (pw_or1 (pt_cmpR op_ne (pe_callB call_isi (by rfl) T.n_isinstance (by decide +kernel) (pa_cons (pv 0) (pa_cons (pe_bltn (v := .ty "list") (by rfl) T.n_list (by decide +kernel) rfl) pa_nil))) (pe_callB call_isi (by rfl) T.n_isinstance (by decide +kernel) (pa_cons (pv 1) (pa_cons (pe_bltn (v := .ty "list") (by rfl) T.n_list (by decide +kernel) rfl) pa_nil))) (nomark _))))).pt (pss_one (ps_ret pe_bl)) pss_nil)
      (pss_cons (ps_if (pt_cmpR op_ne (pe_callB call_len_seq (by rfl) T.n_len (by decide +kernel) (pa_cons (pv 0) pa_nil)) (pe_callB call_len_seq (by rfl) T.n_len (by decide +kernel) (pa_cons (pv 1) pa_nil)) (nomark _)) (pss_one (ps_ret pe_bl)) pss_nil)
      (pss_one (ps_ret (pe_cmpR (op_eqD hr.units) (pe_lc (own := [("_law_k", 2)]) (by rfl) sc__law_alike.nd (pi_range1 (by rfl) T.n_range (pa_cons (pe_callB call_len_seq (by rfl) T.n_len (by decide +kernel) (pa_cons (pv 1) pa_nil)) pa_nil)) (blkOk_by (own := [("_law_k", 2)]) (N := ["_law_found", "_law_due_here", "_law_k"]) (sc := defScope s__law_alike) (by decide +kernel)) (fun _ _ _ _ _ => (pg_name (i := 2) sc__law_alike.nd rfl (.inl rfl))) (fun _ _ _ _ _ => (pts_one (pt_not (pt_val (pe_cF F__law_alike hr T.g__law_alike passL (pa_cons (pe_ix (ix_seqB (K := K) rfl) (pv 0) (pv 2) (fun _ _ => rfl)) (pa_cons (pe_ix (ix_seqB (K := K) rfl) (pv 1) (pv 2) (fun _ _ => rfl)) pa_nil))))))) (fun _ _ _ _ _ => (pv 2))) (pe_lst pa_nil) (nomark _)))))) pss_nil)
      (pss_cons (ps_if (pt_cmpR op_isN (pv 1) pe_non (nomark _)) (pss_one (ps_ret (pe_cmpR op_isN (pv 0) pe_non (nomark _)))) pss_nil)
      (pss_cons (ps_if (pt_val (pe_callB call_isi (by rfl) T.n_isinstance (by decide +kernel) (pa_cons (pv 1) (pa_cons (pe_bltn (v := .ty "str") (by rfl) T.n_str (by decide +kernel) rfl) pa_nil)))) (pss_one (ps_ret (pe_and (pe_callB call_isi (by rfl) T.n_isinstance (by decide +kernel) (pa_cons (pv 0) (pa_cons (pe_bltn (v := .ty "str") (by rfl) T.n_str (by decide +kernel) rfl) pa_nil))) (pe_one (pe_cmpR op_eq (pv 0) (pv 1) (nomark _)))))) pss_nil)
      (pss_cons (ps_if ((pw_or (pt_val (pe_callB call_isi (by rfl) T.n_isinstance (by decide +kernel) (pa_cons (pv 1) (pa_cons (pe_bltn (v := .ty "bool") (by rfl) T.n_bool (by decide +kernel) rfl) pa_nil)))) (pw_or1 (pt_val (pe_callB call_isi (by rfl) T.n_isinstance (by decide +kernel) (pa_cons (pv 0) (pa_cons (pe_bltn (v := .ty "bool") (by rfl) T.n_bool (by decide +kernel) rfl) pa_nil))))))).pt (pss_one (ps_ret (pe_and (pe_callB call_isi (by rfl) T.n_isinstance (by decide +kernel) (pa_cons (pv 1) (pa_cons (pe_bltn (v := .ty "bool") (by rfl) T.n_bool (by decide +kernel) rfl) pa_nil))) (pe_and (pe_callB call_isi (by rfl) T.n_isinstance (by decide +kernel) (pa_cons (pv 0) (pa_cons (pe_bltn (v := .ty "bool") (by rfl) T.n_bool (by decide +kernel) rfl) pa_nil))) (pe_one (pe_cmpR op_eq (pv 0) (pv 1) (nomark _))))))) pss_nil)
      (pss_one (ps_ret (pe_and (pe_callB call_isi (by rfl) T.n_isinstance (by decide +kernel) (pa_cons (pv 0) (pa_cons (pe_bltn (v := .ty "int") (by rfl) T.n_int (by decide +kernel) rfl) pa_nil))) (pe_one (pe_cmpR op_eq (pv 0) (pv 1) (nomark _)))))))))), ?_⟩
  obtain ⟨x, y, rfl, hA, kQ⟩ := h
  refine ⟨_, rfl, line16 (by show 2 ≤ 1000000; decide), fun tp ntp => ?_⟩
  have k1 : Kq [] H (upd H tp (.tup [.ty "tuple", .ty "list"])) := Kq.alloc ntp
  have htp : (upd H tp (.tup [.ty "tuple", .ty "list"])) tp = some (.tup [.ty "tuple", .ty "list"]) := upd_same
  have hA1 := hA.kq k1
  generalize (upd H tp (.tup [.ty "tuple", .ty "list"])) = H1 at k1 htp hA1 ⊢
  cases hA1 with
  | non n =>
    refine ⟨_, tp, _, _, _, _, rfl, htp, paired_tl, (.base .non), kit_tl (b1 := false) (b2 := false) (by decide +kernel) (by decide +kernel), _, rfl, iteF ⟨_, rfl, rfl, _, rfl, iteT ⟨_, rfl, rfl, kQ _ k1⟩⟩⟩
  | str n s =>
    refine ⟨_, tp, _, _, _, _, rfl, htp, paired_tl, (.base (.str _)), kit_tl (b1 := false) (b2 := false) (by decide +kernel) (by decide +kernel), _, rfl, iteF ⟨_, rfl, rfl, _, rfl, iteF ⟨_, rfl, _, _, _, _, true, rfl, .ty _, .base (.str _), kit_ty (by decide +kernel), _, rfl, iteT ?_⟩⟩⟩
    refine ⟨_, rfl, _, _, _, _, true, rfl, .ty _, .base (.str _), kit_ty (by decide +kernel), _, rfl, iteT ⟨_, rfl, _, rfl, rfl, ?_⟩⟩
    rw [decide_eq_true rfl]; exact kQ _ k1
  | int n i =>
    refine ⟨_, tp, _, _, _, _, rfl, htp, paired_tl, (.base (.int _)), kit_tl (b1 := false) (b2 := false) (by decide +kernel) (by decide +kernel), _, rfl, iteF ⟨_, rfl, rfl, _, rfl, iteF ⟨_, rfl, _, _, _, _, false, rfl, .ty _, .base (.int _), kit_ty (by decide +kernel), _, rfl, iteF ?_⟩⟩⟩
    refine ⟨_, rfl, _, _, _, _, false, rfl, .ty _, .base (.int _), kit_ty (by decide +kernel), _, rfl, iteF ⟨_, rfl, _, _, _, _, false, rfl, .ty _, .base (.int _), kit_ty (by decide +kernel), _, rfl, iteF ?_⟩⟩
    refine ⟨_, rfl, _, _, _, _, true, rfl, .ty _, .base (.int _), kit_ty (by decide +kernel), _, rfl, iteT ⟨_, rfl, _, rfl, rfl, ?_⟩⟩
    rw [decide_eq_true rfl]; exact kQ _ k1
  | bl n b =>
    refine ⟨_, tp, _, _, _, _, rfl, htp, paired_tl, (.base (.bl _)), kit_tl (b1 := false) (b2 := false) (by decide +kernel) (by decide +kernel), _, rfl, iteF ⟨_, rfl, rfl, _, rfl, iteF ⟨_, rfl, _, _, _, _, false, rfl, .ty _, .base (.bl _), kit_ty (by decide +kernel), _, rfl, iteF ?_⟩⟩⟩
    refine ⟨_, rfl, _, _, _, _, true, rfl, .ty _, .base (.bl _), kit_ty (by decide +kernel), _, rfl, iteT ?_⟩
    refine ⟨_, rfl, _, _, _, _, true, rfl, .ty _, .base (.bl _), kit_ty (by decide +kernel), _, rfl, iteT ?_⟩
    refine ⟨_, rfl, _, _, _, _, true, rfl, .ty _, .base (.bl _), kit_ty (by decide +kernel), _, rfl, iteT ⟨_, rfl, _, rfl, rfl, ?_⟩⟩
    rw [decide_eq_true rfl]; exact kQ _ k1
  | lst h1 h2 hl hb hh =>
    rename_i n a b xs ys
    refine ⟨_, tp, _, _, _, _, rfl, htp, paired_tl, .base (.lst h2), kit_tl (b1 := false) (b2 := true) (by decide +kernel) (by decide +kernel), _, rfl, iteT ?_⟩
    refine ⟨_, rfl, line16 (by show 2 ≤ 1000000; decide), fun tp2 ntp2 => ?_⟩
    have k2 : Kq [] H1 (upd H1 tp2 (.tup [.ty "tuple", .ty "list"])) := Kq.alloc ntp2
    refine ⟨_, tp2, _, _, _, _, rfl, upd_same, paired_tl, .base (.lst (k2.get h1)), kit_tl (b1 := false) (b2 := true) (by decide +kernel) (by decide +kernel), _, rfl, iteF ?_⟩
    generalize (upd H1 tp2 (.tup [.ty "tuple", .ty "list"])) = H2 at k2 ⊢
    refine ⟨_, rfl, _, _, _, _, true, rfl, .ty _, .base (.lst (k2.get h1)), kit_ty (by decide +kernel), _, rfl, _, _, _, _, true, rfl, .ty _, .base (.lst (k2.get h2)), kit_ty (by decide +kernel), rfl, _, rfl, iteN (fun z => absurd rfl z) (fun _ => ?_)⟩
    refine ⟨_, rfl, a, _, rfl, .inl (SqL.of (k2.get h1)), _, rfl, b, _, rfl, .inl (SqL.of (k2.get h2)), rfl, _, rfl, iteN (fun z => absurd (by rw [hl]) z) (fun _ => ?_)⟩
    refine ⟨_, rfl, b, _, rfl, .inl (SqL.of (k2.get h2)), _, rfl, by omega, by omega, fun D nD => ?_⟩
    refine lc_range (lo := 0) (n := (ys.length : Int).toNat) (fun i H' => Kq [] H2 H' ∧ H' D = some (.lst [])) ⟨Kq.alloc nD, upd_same⟩ ?_ ?_
    · rintro i H' hi ⟨k3, hD⟩
      have hi : i < ys.length := by simpa using hi
      have hix : i < xs.length := by omega
      have k23 := k2.trans k3
      refine ⟨rfl, _, rfl, _, rfl, .inl ⟨a, xs, _, xs[i], rfl, rfl, SqL.of (k23.get h1), at_of (j := i) (by omega) (List.getElem?_eq_getElem hix), _, rfl, _, rfl, .inl ⟨b, ys, _, ys[i], rfl, rfl, SqL.of (k23.get h2), at_of (j := i) (by omega) (List.getElem?_eq_getElem hi), _, _, rfl, (hh i _ _ (List.getElem?_eq_getElem hix) (List.getElem?_eq_getElem hi)).kq k23, fun H3 k4 => ⟨_, rfl, ?_⟩⟩⟩⟩
      exact iteF ⟨k3.trans k4, k4.get hD⟩
    · rintro H' ⟨k3, hD⟩
      refine ⟨line16 (by show 0 ≤ 1000000; decide), fun p np => ?_⟩
      have k4 : Kq [] H' (upd H' p (.lst [])) := Kq.alloc np
      refine ⟨.list [], .list [], .lst (SqL.of (k4.get hD)) .nil, .lst (SqL.of upd_same) .nil, rfl, rfl, ?_⟩
      exact kQ _ ((k1.trans k2).trans (k3.trans k4))
  | tup h1 h2 hl hb hh =>
    rename_i n a b xs ys
    refine ⟨_, tp, _, _, _, _, rfl, htp, paired_tl, tyx_tup h2, kit_tl (b1 := true) (b2 := false) (by decide +kernel) (by decide +kernel), _, rfl, iteT ?_⟩
    refine ⟨_, rfl, line16 (by show 2 ≤ 1000000; decide), fun tp2 ntp2 => ?_⟩
    have k2 : Kq [] H1 (upd H1 tp2 (.tup [.ty "tuple", .ty "list"])) := Kq.alloc ntp2
    refine ⟨_, tp2, _, _, _, _, rfl, upd_same, paired_tl, tyx_tup (k2.tup h1), kit_tl (b1 := true) (b2 := false) (by decide +kernel) (by decide +kernel), _, rfl, iteF ?_⟩
    generalize (upd H1 tp2 (.tup [.ty "tuple", .ty "list"])) = H2 at k2 ⊢
    refine ⟨_, rfl, _, _, _, _, false, rfl, .ty _, tyx_tup (k2.tup h1), kit_ty (by decide +kernel), _, rfl, _, _, _, _, false, rfl, .ty _, tyx_tup (k2.tup h2), kit_ty (by decide +kernel), rfl, _, rfl, iteN (fun z => absurd rfl z) (fun _ => ?_)⟩
    refine ⟨_, rfl, a, _, rfl, .inr (k2.tup h1), _, rfl, b, _, rfl, .inr (k2.tup h2), rfl, _, rfl, iteN (fun z => absurd (by rw [hl]) z) (fun _ => ?_)⟩
    refine ⟨_, rfl, b, _, rfl, .inr (k2.tup h2), _, rfl, by omega, by omega, fun D nD => ?_⟩
    refine lc_range (lo := 0) (n := (ys.length : Int).toNat) (fun i H' => Kq [] H2 H' ∧ H' D = some (.lst [])) ⟨Kq.alloc nD, upd_same⟩ ?_ ?_
    · rintro i H' hi ⟨k3, hD⟩
      have hi : i < ys.length := by simpa using hi
      have hix : i < xs.length := by omega
      have k23 := k2.trans k3
      refine ⟨rfl, _, rfl, _, rfl, .inr <| .inl ⟨a, xs, _, xs[i], rfl, rfl, k23.tup h1, at_of (j := i) (by omega) (List.getElem?_eq_getElem hix), _, rfl, _, rfl, .inr <| .inl ⟨b, ys, _, ys[i], rfl, rfl, k23.tup h2, at_of (j := i) (by omega) (List.getElem?_eq_getElem hi), _, _, rfl, (hh i _ _ (List.getElem?_eq_getElem hix) (List.getElem?_eq_getElem hi)).kq k23, fun H3 k4 => ⟨_, rfl, ?_⟩⟩⟩⟩
      exact iteF ⟨k3.trans k4, k4.get hD⟩
    · rintro H' ⟨k3, hD⟩
      refine ⟨line16 (by show 0 ≤ 1000000; decide), fun p np => ?_⟩
      have k4 : Kq [] H' (upd H' p (.lst [])) := Kq.alloc np
      refine ⟨.list [], .list [], .lst (SqL.of (k4.get hD)) .nil, .lst (SqL.of upd_same) .nil, rfl, rfl, ?_⟩
      exact kQ _ ((k1.trans k2).trans (k3.trans k4))
theorem cps_aab : (Str.ofString "aab, ").cps.toList = [97, 97, 98, 44, 32] := by decide +kernel
end
end KT
set_option Elab.async false
set_option linter.all false
set_option maxRecDepth 100000
set_option maxHeartbeats 4000000
namespace KT
open PySem PySem.Spec PyProof.Rows L2
variable [GT]
/-! ### a lambda handed to a def: all tables but the maker's stay -/
structure Gr (P : Addr) (q : Str) (H H' : Hp) : Prop where
  at_ : ∀ b o, H b = some o → b ≠ P → H' b = some o
  tab : LamX.TabS H' P q
  fr : ∀ b, H' b = none → H b = none
theorem Gr.kq {P : Addr} {q : Str} {H H' : Hp} (g : Gr P q H H') (hP : LamX.TabS H P q) (un : ∀ p ∈ GT.l, p.1 = P → p.2 = q) : Kq [] H H' := by
  obtain ⟨ps, t1, t2, t3⟩ := hP
  refine ⟨fun b o e n _ => g.at_ b o e fun z => ?_, fun p hp => ?_, g.fr, fun p m hp => ?_⟩
  · subst z
    rw [t1] at e
    cases e
    cases n
  · by_cases e : p = P
    · subst e
      obtain ⟨ps', a1, a2, _⟩ := g.tab
      exact ⟨ps', a1, a2⟩
    · obtain ⟨ps', a1, a2⟩ := hp
      exact ⟨ps', g.at_ _ _ a1 e, a2⟩
  · by_cases e : p.1 = P
    · rw [un p m e, e]
      exact g.tab
    · refine tabS_imp hp (fun ps' z => g.at_ _ _ z e) fun c z => g.at_ _ _ z fun y => ?_
      subst y
      rw [t1] at z
      unfold LamX.CodeO at z
      cases z
section
variable {X : Cx} {pins : List (Addr × Obj)} {σ : L2.St} {H : Hp} {s : Shared}
theorem lam_mk {c P : Addr} {params : Arguments} {body : Expr} {scope : Scope} {pos : Pos} {Er Qr : Value → Shared → Prop} (I : Inv X pins σ H s) (TB : LamX.TabB X.base X.mg c P) (hcode : X.env.code = .ref c)
    (hT : LamX.TabS H P (X.env.qual ++ "<lambda>")) (hdef : defaultsOf params X.env = ([], [])) (hfree : ∀ y ∈ scope.names, y.2 = .free → ∃ c, X.env.cells.lookup y.1 = some c)
    (fin : ∀ (f c' : Addr) (pm ctv : Value) (H1 : Hp) (s1 : Shared), Inv X pins σ H1 s1 → Gr P (X.env.qual ++ "<lambda>") H H1 →
      s1.heap.get? f = some (PySem.W.kla_obj "<lambda>" (X.env.qual ++ "<lambda>") params body scope (cloFrom X.env.cells scope.names []) pm c' ctv) → H1 f = none → f ∉ frs X.stack → H1 c' = some (LamX.CodeO c' (X.env.qual ++ "<lambda>")) → Qr (.ref f) s1) :
    wpAny (model X.prog X.w) X.A (eval (.Lambda params body scope pos) X.env) Qr Er s := by
  obtain ⟨ps, tP, tOk, tAll⟩ := hT
  have builtP : s.heap.BuiltinsAt X.mg P := TB.bm.keeps I.bk
  have heapP : s.heap.get? P = some { cls := .none, data := .fields ps } := I.hok P _ tP
  have outside : ∀ f, s.heap.objs.size ≤ f → f ∉ frs X.stack := by
    intro f big mem
    rcases List.mem_cons.mp (I.stkSub _ mem) with same | rest
    · have low := I.lt
      rw [← same] at low
      exact absurd big (Nat.not_le.mpr low)
    · exact I.nofs big rest
  refine PySem.W.kla_eval hdef ?_
  by_cases known : ∃ cv, codeAmong pos ps.toList = some cv
  · obtain ⟨cv, found⟩ := known
    obtain ⟨c', rfl, isCode⟩ := tAll pos cv found
    refine PySem.W.kla_makeFunctionHit (c := c) (P := P) (mg := X.mg) (ps := ps) (closure_ok hfree) I.ok.glob (I.mod.glob.keeps I.bk) hcode (TB.code.keeps I.bk) heapP tOk found builtP ?_
    intro ctv h' tk grows big
    have inv1 := I.kept (t' := tk) (h' := h'.push (PySem.W.kla_obj "<lambda>" (X.env.qual ++ "<lambda>") params body scope (cloFrom X.env.cells scope.names []) ((X.mg "__name__").getD .none) c' ctv)) fun b o e => Heap.get?_push_of_some _ (grows b o e)
    exact fin h'.objs.size c' _ ctv H _ inv1 ⟨fun _ _ e _ => e, ⟨ps, tP, tOk, tAll⟩, fun _ e => e⟩ (Heap.get?_push_size _ rfl) (I.hok.fresh big) (outside _ big) isCode
  · have none_ : codeAmong pos ps.toList = none := by
      cases e : codeAmong pos ps.toList with
      | none => rfl
      | some cv => exact absurd ⟨cv, e⟩ known
    refine PySem.W.kla_makeFunction (c := c) (P := P) (mg := X.mg) (ps := ps) (closure_ok hfree) I.ok.glob (I.mod.glob.keeps I.bk) hcode (TB.code.keeps I.bk) heapP tOk none_ TB.gP builtP ?_
    intro c' ctv h' tk others big lower isRec table
    obtain ⟨c2, oc, fs, t, sameC, getC, dataC, nameC⟩ := isRec
    cases sameC
    have freeC : H c' = none := I.hok.fresh big
    have size : s.heap.objs.size ≤ h'.objs.size := Nat.le_trans big (Nat.le_of_lt lower)
    have inv1 := LamX.inv_table (t' := tk) (q := X.env.qual ++ "<lambda>") (more := #[rawInt pos.line, rawInt pos.col, .ref c']) (h' := h'.push (PySem.W.kla_obj "<lambda>" (X.env.qual ++ "<lambda>") params body scope (cloFrom X.env.cells scope.names []) ((X.mg "__name__").getD .none) c' ctv)) I tP
      (fun b o ne e => Heap.get?_push_of_some _ (others b o ne e)) (Heap.get?_push_of_some _ table) big ⟨oc, fs, t, Heap.get?_push_of_some _ getC, dataC, nameC⟩
    have pc : P ≠ c' := ne_of_none tP freeC
    have kept : ∀ b o, H b = some o → b ≠ P → upd (upd H P (.tbl (ps ++ #[rawInt pos.line, rawInt pos.col, .ref c']))) c' (LamX.CodeO c' (X.env.qual ++ "<lambda>")) b = some o := fun b o e ne => by
      rw [upd_ne (ne_of_none e freeC), upd_ne ne]
      exact e
    have asList : (ps ++ #[rawInt pos.line, rawInt pos.col, .ref c']).toList = ps.toList ++ [rawInt pos.line, rawInt pos.col, .ref c'] := by simp
    refine fin h'.objs.size c' _ ctv _ _ inv1 ⟨kept, ⟨ps ++ #[rawInt pos.line, rawInt pos.col, .ref c'], (upd_ne pc).trans upd_same, by rw [asList]; exact PySem.TriplesOk_snoc _ _ _ _ tOk, ?_⟩, ?_⟩ (Heap.get?_push_size _ rfl) ?_ (outside _ size) upd_same
    · intro pos' cv among
      rw [asList] at among
      rcases LamX.among_app _ tOk among with old | new
      · obtain ⟨c0, e0, code0⟩ := tAll pos' cv old
        exact ⟨c0, e0, kept _ _ code0 fun z => by subst z; rw [tP] at code0; unfold LamX.CodeO at code0; cases code0⟩
      · exact ⟨c', new, upd_same⟩
    · intro b e
      by_cases e1 : b = c'
      · rw [e1]; exact freeC
      · rw [upd_ne e1] at e
        by_cases e2 : b = P
        · rw [e2, upd_same] at e; cases e
        · rw [upd_ne e2] at e; exact e
    · have n1 : h'.objs.size ≠ c' := Nat.ne_of_gt lower
      have lowP : P < s.heap.objs.size := Heap.lt_size heapP
      have n2 : h'.objs.size ≠ P := Nat.ne_of_gt (Nat.lt_of_lt_of_le lowP size)
      rw [upd_ne n1, upd_ne n2]
      exact I.hok.fresh size
/-- the def that got the lambda calls it: what is let out may speak of the caller's names -/
theorem pe_actK {CXg : CXT} {Eg : XK} {Ng : List Str} {qg : Str} {sg : Scope} {g f c' : Addr} {cdg pm ctv : Value} {params : Arguments} {body : Expr} {scope : Scope} {k i : Nat} {a : Str} {pn : List (Addr × Obj)} {xe : Value → Shared → Prop} {W : WX} {t : XK → TE} {p1 p2 : Pos}
    (I : Inv X pins σ H s) (L : LamX.LamS X.env.scope scope) (getF : s.heap.get? f = some (PySem.W.kla_obj "<lambda>" (X.env.qual ++ "<lambda>") params body scope (cloFrom X.env.cells scope.names []) pm c' ctv)) (freeF : H f = none) (outF : f ∉ frs X.stack)
    (noArgs : bindArgs (PySem.W.kla_fn "<lambda>" (X.env.qual ++ "<lambda>") params body scope (cloFrom X.env.cells scope.names []) pm (.ref c') ctv) ⟨[], []⟩ = pure [])
    (tk : Takes ((cxOf CXg X.prog X.w X.K X.mg X.base Ng qg sg g cdg X.A X.stack s H Eg).tr pn xe) W) (room : Room (k + 1) (X.A.deeper (envOfC qg sg s.heap.objs.size g cdg)))
    (runs : ∀ (A : Around) (outer : List Env) (s : Shared) (H : Hp) (E : XK), Room k (A.deeper (LamX.lamEnv X scope s.heap.objs.size f c')) → PE (LamX.lamCx X A outer s H E scope f c') body (t E))
    (hN : Ng[i]? = some a) (hv : Vis sg a) (hd : (a == ("__debug__" : Str)) = false := by decide) (hcd : (a == ("__classdict__" : Str)) = false := by decide) :
    PE ((cxOf CXg X.prog X.w X.K X.mg X.base Ng qg sg g cdg X.A X.stack s H Eg).tr pn xe) (.Call (.Name a p1) [] [] p2)
      (fun σZ HZ Q => ∃ Ech : XK, (∀ cls d H', Ech cls d H' → W cls d σZ H') ∧ σZ[i]? = some (some (.ref f)) ∧ HZ c' = some (LamX.CodeO c' (X.env.qual ++ "<lambda>")) ∧ t Ech σ HZ Q) := by
  refine ⟨fun pinsZ sZ σZ HZ Q IZ ⟨Ech, lets, slot, code, reads⟩ => ?_⟩
  have var := (pe_var (i := i) (pos := p1) hN hv hd hcd).run pinsZ sZ σZ HZ (fun v H1 => v = .ref f ∧ H1 = HZ) IZ ⟨.ref f, slot, rfl, rfl⟩
  refine wpAny_Call_Name_kw (thn var fun u s1 told => ?_)
  obtain ⟨v, H1, inv1, rel, sameV, sameH⟩ := told
  subst sameV
  rw [sameH] at inv1
  obtain rfl : u = Value.ref f := rel
  have still : s1.heap.get? f = some (PySem.W.kla_obj "<lambda>" (X.env.qual ++ "<lambda>") params body scope (cloFrom X.env.cells scope.names []) pm c' ctv) :=
    inv1.base.keep f _ getF freeF outF fun z => nomatch (show f ∈ ([] : List Addr) from z)
  have changes : Un (frs X.stack) [] H HZ s.heap s1.heap := inv1.base
  obtain ⟨oc, fs, tok, getC, dataC, nameC⟩ := (inv1.hok c' _ code).1
  refine PySem.W.callWith_F0 ⟨_, _, _, _, still⟩ (wpAny_call (codeAny_mono (R := CR (L2.CX X.prog X.w) (envOfC qg sg s.heap.objs.size g cdg :: X.stack) X.prog X.w HZ s1 Q Ech) ?_ ?_))
  · refine PySem.W.kla_callFunE room.depth still rfl L.co L.gen rfl ⟨c', oc, fs, tok, rfl, getC, dataC, nameC⟩ ?_
    have sameArgs : (⟨([] : List Value) ++ [], []⟩ : Args) = ⟨[], []⟩ := rfl
    rw [sameArgs, noArgs]
    refine wpAny_pure (wpAny_newFunctionEnv (fun y hy => (L.own y hy).2) (fun y hy => absurd hy (by simp)) ?_ L.kind)
    intro h1 names fresh
    refine ⟨inv1.nolimit.fresh _ fresh, ?_⟩
    have keeps : ∀ b o, s1.heap.get? b = some o → h1.get? b = some o := fun b o e => fresh.extBut b o (Nat.ne_of_lt (Heap.lt_size e)) (Heap.get?_push_of_some _ e)
    have inv2 : Inv (LamX.lamCx X (X.A.deeper (envOfC qg sg s.heap.objs.size g cdg)) (envOfC qg sg s.heap.objs.size g cdg :: X.stack) s1 HZ Ech scope f c') [] σ HZ { s1 with heap := h1, toks := s1.toks + ([] : List (Str × Value)).length } :=
      LamX.lam_start2 I L inv1.env0 room.hd changes names keeps
    refine PySem.W.kla_codeExpr (wpAny_mono ((runs _ _ s1 HZ Ech (room.deeper _)).run [] _ _ HZ Q inv2 reads) ?_ fun _ _ z => z)
    intro v s2 ⟨w2, H2, inv3, rel2, q2⟩
    exact ⟨w2, H2, inv3.os, inv3.bare, inv3.base, inv3.hok, rel2, q2⟩
  · intro r s2 told
    rcases r with e | fl
    · exact tk e s2 (XE.of_call inv1 (fun cls d H' z => lets cls d H' z) told)
    · rcases fl with _ | _ | _ | u <;> first | exact inv1.after told | exact False.elim told
/-- as LamX.GivesTo; what is let out may speak of the def's names -/
def Gives (X : Cx) (Ng : List Str) (x : Str) (sg : Scope) (g : Addr) (cdg : Value) (bg : List Stmt) (a : Str) (q : Str) (TT : (XK → Hp → VK → Prop) → Hp → VK → Prop) : Prop :=
  ∀ (f c' : Addr) (s : Shared) (H : Hp) (Q : VK) (tl : XK → Hp → VK → Prop),
    (∀ (W : WX) (pn : List (Addr × Obj)) (xe : Value → Shared → Prop) (p1 p2 : Pos), Takes ((cxOf C8.CX0 X.prog X.w X.K X.mg X.base Ng x sg g cdg X.A X.stack s H C8.E0).tr pn xe) W →
      PE ((cxOf C8.CX0 X.prog X.w X.K X.mg X.base Ng x sg g cdg X.A X.stack s H C8.E0).tr pn xe) (.Call (.Name a p1) [] [] p2) (fun σZ HZ Q => ∃ Ech : XK, (∀ cls d H', Ech cls d H' → W cls d σZ H') ∧ σZ[0]? = some (some (.ref f)) ∧ HZ c' = some (LamX.CodeO c' q) ∧ tl Ech HZ Q)) →
    H c' = some (LamX.CodeO c' q) → TT tl H Q →
    ∃ t, PSs (cxOf C8.CX0 X.prog X.w X.K X.mg X.base Ng x sg g cdg X.A X.stack s H C8.E0).nox bg t ∧ t { nx := fun _ H' => Q .non H', rt := Q } (L2.start Ng [.ref f]) H
/-- what a call with a lambda reads -/
def tLamK (P : Addr) (q : Str) (TT : (XK → Hp → VK → Prop) → Hp → VK → Prop) (t : XK → TE) : TE := fun σ H Q => LamX.TabS H P q ∧ ∀ H1, Gr P q H H1 → TT (fun E H' Q' => t E σ H' Q') H1 Q
theorem pe_lamK {TT : (XK → Hp → VK → Prop) → Hp → VK → Prop} {x a : Str} {g c P : Addr} {k : Nat} {pg : Arguments} {bg : List Stmt} {sg : Scope} {dV kV doc pm cdv ct oc : Value} {an od : Option Addr} {osl : Array (Option Value)} {Ng : List Str}
    {params : Arguments} {body : Expr} {scope : Scope} {t : XK → TE} {p lpos pos : Pos} (hg : Gl X x) (hm : X.mg x = some (.ref g)) (hk : PySem.W.keepIn X.K (.ref g) = true)
    (lk : X.K.lookup g = some ⟨oc, od, .func (PySem.W.fnOf x x pg bg sg dV kV doc pm an cdv ct), osl⟩) (hcg : PySem.W.codeIn X.K cdv x = true) (hb : L2.Binds X.K (PySem.W.fnOf x x pg bg sg dV kV doc pm an cdv ct) [a] []) (Sg : FnScope Ng [a] sg) (hNg : Ng[0]? = some a) (hva : Vis sg a)
    (hG : Gives X Ng x sg g cdv bg a (X.env.qual ++ "<lambda>") TT)
    (TB : LamX.TabB X.base X.mg c P) (hcode : X.env.code = .ref c) (hr : Room (k + 2) X.A) (L : LamX.LamS X.env.scope scope) (hdef : defaultsOf params X.env = ([], []))
    (hbind : ∀ (q : Str) (cl : List (Str × Addr)) (pm cv ctv : Value), bindArgs (PySem.W.kla_fn "<lambda>" q params body scope cl pm cv ctv) ⟨[], []⟩ = pure [])
    (hbody : ∀ (A : Around) (outer : List Env) (s : Shared) (H : Hp) (E : XK) (f c' : Addr), Room k (A.deeper (LamX.lamEnv X scope s.heap.objs.size f c')) → PE (LamX.lamCx X A outer s H E scope f c') body (t E))
    (hdb : (x == ("__debug__" : Str)) = false := by decide) (hd : (a == ("__debug__" : Str)) = false := by decide) (hcd : (a == ("__classdict__" : Str)) = false := by decide) :
    PE X (.Call (.Name x p) [.Lambda params body scope lpos] [] pos) (tLamK P (X.env.qual ++ "<lambda>") TT t) := by
  refine ⟨fun pins s σ H Q I ⟨tab, rest⟩ => wpAny_Call_Name_kw (ld_glob I hg hm ?_ hdb)⟩
  refine PySem.W.callWith_K (h₀ := X.base) I.ok.mod.kin hk ?_ (by rfl) (by rfl)
  show wpAny _ _ (spliced ((false, eval (.Lambda params body scope lpos) X.env) :: backTo pos (starEach [] X.env))) _ _ s
  refine Calls.spliced_cons (lam_mk I TB hcode tab hdef (L.has I.ok) ?_)
  intro f c' pm' ctv H1 s1 inv1 grown getF freeF outF isCode
  refine Calls.spliced_nil ⟨inv1.kIn, wpAny_call (codeAny_mono (R := CR C8.CX0 X.stack X.prog X.w H1 s1 Q C8.E0) ?_ ?_)⟩
  · refine LamX.run_ofS (N := Ng) (us := [.ref f]) (vs := [.ref f]) (ps := [a]) lk hcg Sg hr inv1.env0 (hb s1 [.ref f] inv1.kIn rfl) (.cons rfl .nil) rfl ?_
    intro room
    obtain ⟨tt, run, ends⟩ := hG f c' s1 H1 Q (fun E H' Q' => t E σ H' Q') (fun W pn xe p1 p2 tk => pe_actK (i := 0) (t := t) inv1 L getF freeF outF (hbind _ _ _ _ _) tk room (fun A outer s H E r => hbody A outer s H E f c' r) hNg hva hd hcd) isCode (rest H1 grown)
    exact ⟨tt, run.nox, ends⟩
  · intro r s2 told
    rcases r with e | fl
    · exact (show False from told).elim
    · rcases fl with _ | _ | _ | u <;> first | exact inv1.after told | exact False.elim told
end
end KT
set_option Elab.async false
set_option linter.all false
set_option maxRecDepth 100000
set_option maxHeartbeats 4000000
/-! isinstance(e, c) where the caught exception has fields of its own -/
namespace KT
open PySem PySem.Spec PySem.W PySem.Calls PyProof.Rows
section
variable {prog : Program} {w : World} {A : Around} {E : Value → Shared → Prop} {K : Frag} {x D : Addr} {ox od : Obj} {hp : Heap} {g : Array GenState} {d : Drawn} {t : Nat} {os : OsState}
theorem class_excD {Q : Option Value → Shared → Prop} (C : L2.ExcC K D) (X : K.In hp) (I : InstAt hp x ox D (some od)) (h : Q (some (.ref D)) ⟨hp, g, d, t + 1, os⟩) : wpAny (model prog w) A (getAttr? (.ref x) "__class__") Q E ⟨hp, g, d, t, os⟩ := by
  have L0 := I.type (M := model prog w)
  have L1 := looks_findIn (M := model prog w) X C.hg
  have L2 := looks_findIn (M := model prog w) X C.hk
  have sub : Looks (model prog w) hp (isInstance (.ref x) (.type "BaseException")) true := L0.andThen (looks_subIn X C.hs)
  have hf : findObj K D (some od) "__class__" = some (.bind (.builtin "getset_descriptor.__get__") (.builtin "object.__class__")) := by
    obtain ⟨cd, hc, _⟩ := any_some C.hd
    unfold findObj
    rw [hc, Option.bind_some, C.ha, Option.bind_some]
    simp [C.hn, C.ht]
  have L3 := looks_find (M := model prog w) X I hf
  unfold getAttr? getAttrBy? getAttrBy
  repeat (first | with_reducible refine L0.at ?_ | with_reducible refine L1.at ?_ | with_reducible refine L2.at ?_ | wp_step)
  rw [PySem.F.excAttr_ValueError.ga.bind (.ref x)]
  repeat (first | wp_step | dsimp only)
  refine (codeAny_call_builtin PySem.F.excAttr_ValueError.ga.plain PySem.F.entry_bexc_ga (@check_slot (model prog w) _ _ ⟨hp, g, d, t + 1, os⟩ "BaseException.__getattribute__" "BaseException" "__getattribute__" (.ref x) [.str "__class__" t] [] _ (by decide +kernel) (by decide +kernel) sub (PySem.F.args_bexc_ga (.ref x) (.str "__class__" t)) ?_))
  unfold Builtin.«object.__getattribute__»
  refine wpAny_bind (wpAny_of_eq (a := ((Value.ref x : Value), [Value.str "__class__" t])) (by first | rfl | (simp only [slotArgs]; rfl)) ?_)
  repeat (first | with_reducible refine L0.at ?_ | with_reducible refine L3.at ?_ | wp_step)
  refine class_get (s := ⟨hp, g, d, t + 1, os⟩) (ox := ox) (od := some od) X I C.hm ?_
  refine wpAny_pure ?_
  show wpAny _ _ (handedOut (.ref D)) _ _ _
  rw [handedOut_of (v := .ref D) rfl]
  exact wpAny_pure (wpAny_pure h)
end
theorem kit_excD {K : Frag} {x D : Addr} {ox od : Obj} (C : L2.ExcC K D) : KitX K (.ref x) (.ref D) (fun h => InstAt h x ox D (some od)) where
  ty := fun _ _ _ I => I.type
  it := fun _ _ X _ => by
    obtain ⟨cd, hc, _⟩ := any_some C.hd
    unfold clsIn at hc
    split at hc
    · rename_i ho
      intro A' Q' E' s' k q
      exact wpAny_bind (wpAny_loadPart (k _ _ (X _ _ ho)) (wpAny_pure q))
    · cases hc
  ne := fun h tp dd its n sl X htp => by
    obtain ⟨cd, hc, _⟩ := any_some C.hd
    cases hb : (Value.ref D == Value.ref tp) with
    | false => rfl
    | true =>
      have e : D = tp := Value.ref.inj (beq_iff_eq.mp hb)
      subst e
      unfold clsIn at hc
      split at hc
      · rename_i ho
        have := (X _ _ ho).symm.trans htp
        cases this
      · cases hc
  ca := fun {prog w A E Q s} X I k => by
    obtain ⟨hp, g, d, t, os⟩ := s
    exact class_excD C X I k
end KT
namespace KT
open PySem PySem.Spec PyProof.Rows L2
/-- isinstance(e, c), e the exception that the suite holds, with fields of its own -/
theorem call_isED {X : Cx} {a D dx : Addr} {oe : Obj} {pn : List (Addr × Obj)} (C : ExcC X.K D) (hz : Zc (.ref D) (some dx) oe) (hf : ∃ vs, oe.data = .fields vs) : CallR (X.suite a ((a, oe) :: pn)) (.builtin "isinstance") (fun xs H Q => (∃ fs, H dx = some (.xd fs)) ∧ rIsE X.K D a xs H Q) := by
  intro pins s σ H xs us Q I r h
  obtain ⟨⟨fs, hd⟩, c, cv, b, rfl, hcv, e, q⟩ := h
  obtain ⟨mA, hns, _⟩ : ObjOk X.prog X.w H s.heap dx (.xd fs) := I.hok dx _ hd
  obtain ⟨od, ho, _⟩ := lookIn_ns hns
  cases r with
  | cons rx rr =>
    cases rr with
    | cons rt rr =>
      cases rr
      cases rx
      have ec := hcv _ rt
      subst ec
      obtain ⟨hget, _⟩ := I.pin (a, oe) (List.mem_append.mpr (.inl List.mem_cons_self))
      obtain ⟨vs, hv⟩ := hf
      have J : PySem.W.InstAt s.heap a oe D (some od) := ⟨hget, hz.1, by unfold PySem.W.notCls; rw [hv], by rw [hz.2]; exact ho⟩
      exact PySem.W.kia_one (kit_excD C) I.kIn J e (fun z => nomatch z) fun tk => ⟨.bl b, H, I.kept (t' := tk) fun _ _ z => z, rfl, q⟩
end KT
set_option Elab.async false
set_option linter.all false
set_option maxRecDepth 100000
set_option maxHeartbeats 4000000
/-! an own exception class over own classes over ValueError, whose __init__ says super().__init__(e) ahead -/
namespace KT
open PySem PySem.Spec PyProof.Rows L2
theorem rev_zip_get : ∀ {Ps : List Str} {vs : List Value} {i : Nat} {x : Str} {v : Value}, Ps.Nodup → Ps[i]? = some x → vs[i]? = some v → (Ps.zip vs).reverse.lookup x = some v
  | [], _, _, _, _, _, h, _ => by simp at h
  | _ :: _, [], _, _, _, _, _, h => by simp at h
  | p :: Ps, w :: vs, 0, x, v, nd, h1, h2 => by
    simp at h1 h2; subst h1; subst h2
    rw [List.zip_cons_cons, List.reverse_cons, List.lookup_append]
    have : (Ps.zip vs).reverse.lookup p = none := by
      rw [List.lookup_eq_none_iff]
      intro q hq
      have hm := List.mem_reverse.mp hq
      have : q.1 ∈ Ps := (List.of_mem_zip (a := q.1) (b := q.2) hm).1
      have ne : q.1 ≠ p := fun e => (List.nodup_cons.mp nd).1 (e ▸ this)
      simpa using fun e => ne e.symm
    rw [this]; simp
  | p :: Ps, w :: vs, i + 1, x, v, nd, h1, h2 => by
    rw [List.zip_cons_cons, List.reverse_cons, List.lookup_append, rev_zip_get (List.nodup_cons.mp nd).2 (by simpa using h1) (by simpa using h2)]
    rfl
def cxS (CX : CXT) (P : Program) (w : World) (K : PySem.W.Frag) (mg : Str → Option Value) (base : Heap) (N : List Str) (qual : Str) (scope : Scope) (f : Addr) (cd : Value) (cc : Addr) (A : Around) (outer : List Env) (s : Shared) (H : Hp) (E : XK) : Cx where
  prog := P
  w := w
  K := K
  mg := mg
  base := base
  A := A.deeper (PySem.W.ksEnv qual scope s.heap.objs.size f cd cc)
  N := N
  s_0 := s
  H_0 := H
  env := PySem.W.ksEnv qual scope s.heap.objs.size f cd cc
  outer := outer
  stack := PySem.W.ksEnv qual scope s.heap.objs.size f cd cc :: outer
  ex := []
  calm := true
  fn := fun _ => false
  pn := []
  xe := fun e s' => wpAny (model P w) (A.deeper (PySem.W.ksEnv qual scope s.heap.objs.size f cd cc)) (leaving (PySem.W.ksEnv qual scope s.heap.objs.size f cd cc) e) (fun _ s'' => CX outer H s E e s'') (fun e' s'' => CX outer H s E e' s'') s'
structure SupScope (N ps : List Str) (sc : Scope) : Prop where
  kind : sc.kind = .function
  co : sc.isCoroutine = false
  gen : sc.isGenerator = false
  nd : N.Nodup
  pre : N.take ps.length = ps
  par : ∀ x ∈ ps, sc.names.lookup x = some .local
  nocell : ∀ y ∈ sc.names, y.2 ≠ .cell
  free : ∀ q ∈ sc.names, q.2 = .free → q.1 = "__class__"
section
variable {CX : CXT} {P : Program} {w : World} {K : PySem.W.Frag} {mg : Str → Option Value} {base : Heap} {N ps : List Str} {qual : Str} {scope : Scope} {f cc D : Addr} {cd : Value} {A : Around} {outer : List Env} {s : Shared} {H : Hp} {E : XK} {us : List Value} {vs : List V} {cl : Value} {cld : Option Addr} {csl : Array (Option Value)} {h1 : Heap} {t' : Nat}
theorem inv_startS (S : SupScope N ps scope) (hd : A.handled = none) (e0 : Env0 P w K mg base A outer s H) (hl : vs.length = ps.length) (r : Vals vs us) (hcc : K.lookup cc = some ⟨cl, cld, .cell (some (.ref D)), csl⟩)
    (hns : h1.Ns s.heap.objs.size (fun x => (ps.zip us).reverse.lookup x)) (hk : ∀ b o, s.heap.get? b = some o → h1.get? b = some o) :
    Inv (cxS CX P w K mg base N qual scope f cd cc A outer s H E) [] (start N vs) H { s with heap := h1, toks := t' } := by
  have hpl : ps.length ≤ N.length := by have := congrArg List.length S.pre; rw [List.length_take] at this; omega
  have hb : base.get? cc = some ⟨cl, cld, .cell (some (.ref D)), csl⟩ := e0.mod.kin _ _ hcc
  have cells : ∀ y c, (PySem.W.ksEnv qual scope s.heap.objs.size f cd cc).cells.lookup y = some c → y = "__class__" ∧ c = cc := fun y c h => by
    have h : ([(("__class__" : Str), cc)] : List (Str × Addr)).lookup y = some c := h
    rw [List.lookup_cons] at h
    split at h
    · rename_i e
      exact ⟨by simpa using e, (Option.some.inj h).symm⟩
    · simp at h
  have noA : ∀ b : Addr, b ∉ (cxS CX P w K mg base N qual scope f cd cc A outer s H E).ex := fun b z => absurd (show b ∈ ([] : List Addr) from z) (by simp)
  refine ⟨⟨e0.mod, S.kind, rfl, rfl, Nat.le_refl _, fun y z c h1 h2 => ?_, fun y hy => ?_, (fun y c z _ => absurd (show false = true from z) (by decide)), fun _ => hd, Around.frames_deeper e0.frames, .inr ⟨rfl, rfl⟩, fun b z => absurd z (noA b), e0.bs, e0.bsz, fun b _ _ => noA b, fun b z => absurd z (noA b), e0.funs, e0.frf⟩,
    rfl, e0.bare, Un.kept hk, ⟨_, hns, fun i y v h1 h2 h3 => ?_⟩, fun y c h => ?_, e0.hok.fresh (Nat.le_refl _), fun y c h => ?_, fun p hp => absurd (show p ∈ ([] : List (Addr × Obj)) from hp) (by simp), e0.hok.kept hk, ?_⟩
  · rw [(cells _ _ h1).1, (cells _ _ h2).1]
  · have hy : scope.names.lookup y = some .cell ∨ scope.names.lookup y = some .free := hy
    rcases hy with hy | hy
    · exact absurd rfl (S.nocell _ (PySem.mem_of_lookup hy))
    · have e := S.free _ (PySem.mem_of_lookup hy) rfl
      have e : y = "__class__" := e
      rw [e]
      exact ⟨cc, by show ([(("__class__" : Str), cc)] : List (Str × Addr)).lookup _ = _; simp⟩
  · have hi : i < vs.length := by
      unfold L2.start at h2
      by_cases hi : i < vs.length
      · exact hi
      · rw [List.getElem?_append_right (by simpa using hi)] at h2
        rw [List.getElem?_replicate] at h2
        split at h2 <;> cases h2
    have ha : vs[i]? = some v := by
      unfold L2.start at h2
      rw [List.getElem?_append_left (by simpa using hi), List.getElem?_map] at h2
      cases e : vs[i]? with
      | none => rw [e] at h2; cases h2
      | some a => rw [e] at h2; cases h2; rfl
    obtain ⟨u, hu, rv⟩ := r.get ha
    have hp : ps[i]? = some y := by
      rw [← S.pre, List.getElem?_take_of_lt (by omega)]; exact h1
    have ndP : ps.Nodup := by rw [← S.pre]; exact S.nd.sublist (List.take_sublist _ _)
    exact ⟨u, rv, .inl ⟨S.par y (List.mem_of_getElem? hp), rev_zip_get ndP hp hu⟩⟩
  · obtain ⟨rfl, rfl⟩ := cells _ _ h
    exact ⟨_, _, hk _ _ (e0.bs _ _ hb).1, rfl⟩
  · obtain ⟨rfl, rfl⟩ := cells _ _ h
    exact (e0.bs _ _ hb).2
  · unfold L2.start
    show _ = N.length
    rw [List.length_append, List.length_map, List.length_replicate]
    omega
end
section
variable {CX : CXT} {P : Program} {w : World} {K : PySem.W.Frag} {mg : Str → Option Value} {base : Heap} {k : Nat} {f cc D cda : Addr} {name qual : Str} {params : Arguments} {body rest : List Stmt} {scope : Scope} {dV kV doc pm ct oc cl ccl : Value} {an od cld cdd : Option Addr}
  {osl csl ccs : Array (Option Value)} {N ps : List Str} {sp : Sp} {e : Expr} {p0 p1 p2 p3 p4 : Pos} {ar : Arg} {fvs : Array Value} {file : Str} {tf : Tok} {cdD : ClassData} {pl : Sem Bool}
/-- the bound ValueError.__init__ called -/
theorem oinitW {X : Cx} {pins : List (Addr × Obj)} {σ : L2.St} {H : Hp} {s : Shared} {a u C : Addr} {us : List Value} {A : Around} {Q : Value → Shared → Prop} {E : Value → Shared → Prop} (T : OexC X.K C) (I : Inv X pins σ H s) (ea : H a = some (exo a C none)) (hu : s.heap.get? u = some (PySem.W.kxs_mw "ValueError.__init__" a)) (hl : us.length ≤ sizeLine) (h : ∀ s', Inv X pins σ H s' → Q .none s') :
    wpAny (model X.prog X.w) A (call (.ref u) us) Q E s := by
  obtain ⟨nm, q, N, bs, bm, sn, sub, ab, col, dd, k0, k1, k2, k3, k5, hC, hbm⟩ := T.cls
  obtain ⟨t1, ho⟩ := exo_at I.hok ea
  obtain ⟨hp, g, d, t, os⟩ := s
  refine wpAny_call (codeAny_of_tree ?_)
  show wpAny _ A.in1 (callAny (.ref u) ⟨us, []⟩) _ _ _
  simp only [callAny]
  refine wpAny_bind (wpAny_load hu ?_)
  simp only [PySem.W.kxs_mw, show (Value.type "method-wrapper" == Value.type "method" || Value.type "method-wrapper" == Value.type "builtin_function_or_method" || Value.type "method-wrapper" == Value.type "method-wrapper") = true by decide, if_true]
  refine PySem.W.KFB.if_so (by decide) ?_
  refine wpAny_bind (PySem.W.check_bound_init F.excBase_ValueError.toExcCallFacts (I.kIn _ _ hC) ho rfl ?_)
  refine wpAny_bind (wpAny_pure (wpAny_pure ?_))
  have fin : ∀ (h' : Heap) (t2 : Addr), (∀ b o, b ≠ a → hp.get? b = some o → h'.get? b = some o) → h'.get? a = some ({ cls := .ref C, dict := none, data := .fields #[.ref t2, .none, .none, .none, .bool false, .none] } : Obj) → Q .none ⟨h', g, d, t, os⟩ := fun h' t2 k hx => by
    have J := I.write (t' := t) (x := a) (e := a) (o := exo a C none) (by rw [ea]; exact True.intro) (.inl rfl) k ⟨_, hx⟩ (exo_ok hx)
    have eu : upd H a (exo a C none) = H := by
      funext b
      by_cases hb : b = a
      · rw [hb, upd_same, ea]
      · rw [upd_ne hb]
    rw [eu] at J
    exact h _ J
  refine ⟨plainId_quiet F.excBase_ValueError.init.plain _, codeAny_builtin F.excBase_ValueError.initEntry ?_⟩
  rw [Around.under_plainId F.excBase_ValueError.init.plain _]
  wp_walk
  refine fin _ hp.objs.size (fun b o hb ho => ?_) ?_
  · rw [Heap.get?_update_other _ _ (Ne.symm hb)]
    exact Heap.get?_push_of_some _ ho
  · rw [Heap.get?_update_self _ (Heap.get?_push_of_some _ ho) rfl]
    rfl
/-- THE RULE: such an __init__, by its body: super().__init__(e), then the rest -/
theorem fn_ofS (hbd : body = .Expr (.Call (.Attribute (.Call (.Name "super" p0) [] [] p1) "__init__" p2) [e] [] p3) p4 :: rest)
    (lk : K.lookup f = some ⟨oc, od, .func (PySem.W.fnX name qual params body scope [("__class__", cc)] dV kV doc pm an (.ref cda) ct), osl⟩) (hcd : PySem.W.codeIn K (.ref cda) qual = true) (S : SupScope N ps scope)
    (hcc : K.lookup cc = some ⟨cl, cld, .cell (some (.ref D)), csl⟩) (hcode : K.lookup cda = some ⟨ccl, cdd, .fields fvs, ccs⟩) (hvs : fvs[2]? = some (.str file tf)) (hfile : ((P.main.file : Str) == file) = true)
    (htop : (P.main.scope.names.lookup ("super" : Str)).isSome = false) (hsup : mg "super" = none) (hks : scope.names.lookup ("super" : Str) = some .globalImplicit) (hkc : scope.names.lookup ("__class__" : Str) = some .free)
    (hp : (params.posonlyargs ++ params.args).head? = some ar) (hD : PySem.W.clsIn K D = some cdD) (T : OexC K D) (hka : scope.names.lookup ar.arg = some .local) (hmro : PySem.W.mroIn K D (.ref D) = some true) (hth : PySem.W.nsIn K cStatics "thirdparty.any" = some none)
    (hal : PySem.W.alongIn K "__init__" ((cdD.mro.dropWhile (· != .ref D)).drop 1) = some (some (.builtin "ValueError.__init__"))) (hVE : PySem.W.subIn K (.ref D) (.type "ValueError") = some true)
    (he : ∀ L, starEach [e] (PySem.W.ksEnv qual scope L f (.ref cda) cc) = (false, eval e (PySem.W.ksEnv qual scope L f (.ref cda) cc)) :: starEach [] (PySem.W.ksEnv qual scope L f (.ref cda) cc))
    (hcall : ∀ L, eval (.Call (.Attribute (.Call (.Name "super" p0) [] [] p1) "__init__" p2) [e] [] p3) (PySem.W.ksEnv qual scope L f (.ref cda) cc) = (do
      let ov ← attributeBase (.Call (.Name "super" p0) [] [] p1) "__init__" (PySem.W.ksEnv qual scope L f (.ref cda) cc) (eval (.Call (.Name "super" p0) [] [] p1) (PySem.W.ksEnv qual scope L f (.ref cda) cc))
      standAt p2.atName
      let (g, first) ← holding [ov] (getMethod ov "__init__" pl)
      callWith p3 g first (backTo p3 (starEach [e] (PySem.W.ksEnv qual scope L f (.ref cda) cc))) []))
    (len : ∀ vs H Q E, sp vs H Q E → vs.length = ps.length)
    (hbody : ∀ (A : Around) (outer : List Env) (s : Shared) (H : Hp) (vs : List V) (Q : VK) (E : XK), Room k (A.deeper (PySem.W.ksEnv qual scope s.heap.objs.size f (.ref cda) cc)) → sp vs H Q E →
      ∃ (a : Addr) (ta : TA) (t : TS), PA (cxS CX P w K mg base N qual scope f (.ref cda) cc A outer s H E) [e] ta ∧ PSs (cxS CX P w K mg base N qual scope f (.ref cda) cc A outer s H E) rest t ∧
        (L2.start N vs)[0]? = some (some (.ref a)) ∧ N[0]? = some ar.arg ∧ H a = some (exo a D none) ∧
        ta (L2.start N vs) H fun xs H1 => xs.length ≤ 1000 ∧ H1 a = some (exo a D none) ∧ t { nx := fun _ H' => Q .non H', rt := Q } (L2.start N vs) H1) :
    FnOk P w K mg base CX (k + 1) f (PySem.W.fnX name qual params body scope [("__class__", cc)] dV kV doc pm an (.ref cda) ct) ps sp := by
  refine ⟨len, fun A outer s H args us vs Q E hr e0 hb r hsp => ?_⟩
  have hl := len _ _ _ _ hsp
  have KX : K.In s.heap := e0.mod.kin.keeps fun b o e => (e0.bs b o e).1
  have lim : s.heap.NoLimit := e0.mod.nolimit.keeps fun b o e => (e0.bs b o e).1
  have hloc : ∀ x ∈ ps.zip us, scope.names.lookup x.1 = some .local := fun ⟨n, v⟩ hy => S.par n (List.of_mem_zip hy).1
  subst hbd
  refine PySem.ks_codeAny_call_defAt (fd := PySem.W.fnX name qual params _ scope [("__class__", cc)] dV kV doc pm an (.ref cda) ct) (binds := ps.zip us) hr.depth (KX _ _ lk) rfl lim (PySem.W.codeRec_of KX hcd) rfl hb S.nocell hloc (fun h1 hns hk => ?_) S.co S.gen S.kind
  obtain ⟨a, ta, t, ha, ht, hv0, hn0, hea, hta⟩ := hbody A outer s H vs Q E (hr.deeper _) hsp
  have I : Inv (cxS CX P w K mg base N qual scope f (.ref cda) cc A outer s H E) [] (L2.start N vs) H { s with heap := h1, toks := s.toks + (ps.zip us).length } := inv_startS S hr.hd e0 hl r hcc hns hk
  show PySem.wpAt (model P w) (cxS CX P w K mg base N qual scope f (.ref cda) cc A outer s H E).A (.func _ (cxS CX P w K mg base N qual scope f (.ref cda) cc A outer s H E).env) (execs _ (cxS CX P w K mg base N qual scope f (.ref cda) cc A outer s H E).env) _ (cxS CX P w K mg base N qual scope f (.ref cda) cc A outer s H E).xe _
  have hint : interactive (cxS CX P w K mg base N qual scope f (.ref cda) cc A outer s H E).env = false := by
    first | rfl | (unfold interactive; simp [cxS, S.kind]) | fail "INT"
  refine PySem.ks_wpAt_execs_cons ?_
  refine PySem.ks_wpAt_Expr_any ?_ (hi := hint)
  refine PySem.ks_wpAt_MethodCall (pl := pl) ?_ (he := hcall _)
  obtain ⟨m, hn, hm⟩ := I.loc
  obtain ⟨u, ru, hlook⟩ := hm 0 ar.arg (.ref a) hn0 hv0 (.inl hka)
  have ru : u = .ref a := ru
  subst ru
  have hv : m ar.arg = some (.ref a) := by
    rcases hlook with ⟨_, z⟩ | ⟨z, _⟩
    · exact z
    · have z : scope.names.lookup ar.arg = some .cell ∨ scope.names.lookup ar.arg = some .free := z
      rw [hka] at z
      rcases z with z | z <;> cases z
  obtain ⟨t0, hoe⟩ := exo_at I.hok hea
  obtain ⟨oD, hD1, hD2⟩ : ∃ oD, h1.get? D = some oD ∧ oD.data = .cls cdD := by
    unfold PySem.W.clsIn at hD
    split at hD
    · rename_i c d cd' sl ho
      cases hD
      exact ⟨_, I.kIn _ _ ho, rfl⟩
    · cases hD
  obtain ⟨mb, hmb, hmbe⟩ := I.mod.blt
  refine PySem.ks_wpAt_super_base (env := (cxS CX P w K mg base N qual scope f (.ref cda) cc A outer s H E).env) hks hkc (by decide) rfl (I.kIn _ _ lk) rfl hp rfl (I.kIn _ _ hcode) rfl hvs hfile htop ?_
  refine PySem.W.ks_loadName_global S.kind hks (PySem.Calls.loadGlobal_builtin (mg := mg) (mb := mb) (I.mod.glob.keeps I.bk) hsup (hmb.keeps I.bk) ((hmbe _ (by decide +kernel)).trans (by first | exact PyProof.Rows.Boot.«super» | kernel_rfl | decide +kernel)) ⟨rfl, ?_⟩)
  refine wpAny_loadName_free S.kind hkc rfl ⟨_, I.kIn _ _ hcc, rfl⟩ ?_
  refine wpAny_loadName_local S.kind hka hn hv ?_
  refine PySem.ks_wpAny_isType_cls hD1 hD2 ⟨rfl, ?_⟩
  refine PySem.ks_wpAny_call_super hD1 hD2 hoe rfl (fun c z => by cases z) (PySem.W.looks_mroIn I.kIn hmro) (fun h2 hso k2 => ?_)
  have J1 := I.kept (t' := s.toks + (ps.zip us).length) k2
  have hna : a ≠ D := fun z => by
    subst z
    rw [hoe] at hD1
    have := Option.some.inj hD1
    rw [← this] at hD2
    cases hD2
  have IA : PySem.W.InstAt h2 a ({ cls := .ref D, dict := none, data := .fields #[.ref t0, .none, .none, .none, .bool false, .none] } : Obj) D none := ⟨k2 _ _ hoe, rfl, rfl, trivial⟩
  have hI : PySem.W.Looks (model P w) h2 (isInstance (.ref a) (.type "ValueError")) true := IA.type.andThen (PySem.W.looks_subIn J1.kIn hVE)
  refine PySem.W.kxs_getMethod PySem.W.kxs_ValueError hso (PySem.W.looks_opaque J1.kIn hth) (l₀ := cdD.mro) (fun A Q E s k q => wpAny_bind ((PySem.W.looks_clsIn J1.kIn hD) A _ E s k (wpAny_pure q))) rfl J1.kIn hal hI hna (by decide) ?_
  have hu : (h2.push (PySem.W.kxs_mw "ValueError.__init__" a)).get? h2.objs.size = some (PySem.W.kxs_mw "ValueError.__init__" a) := Heap.get?_push_at rfl rfl
  have J2 := J1.kept (t' := s.toks + (ps.zip us).length + 1) (h' := h2.push (PySem.W.kxs_mw "ValueError.__init__" a)) (fun b o z => Heap.get?_push_of_some _ z)
  have J3 : Inv (cxS CX P w K mg base N qual scope f (.ref cda) cc A outer s H E) [(h2.objs.size, PySem.W.kxs_mw "ValueError.__init__" a)] (L2.start N vs) H ⟨h2.push (PySem.W.kxs_mw "ValueError.__init__" a), s.gens, s.drawn, s.toks + (ps.zip us).length + 1, s.os⟩ := { J2 with
    pin := fun p hp => by
      have hp : p ∈ [(h2.objs.size, PySem.W.kxs_mw "ValueError.__init__" a)] := hp
      rw [List.mem_singleton.mp hp]
      exact ⟨hu, J1.hok.fresh (Nat.le_refl _), (Nat.ne_of_lt J1.lt).symm, J1.nofs (Nat.le_refl _), fun v z => by cases z⟩ }
  refine PySem.W.kxs_callWith (i := "ValueError.__init__") (x := a) ?_ ?_
  · have e1 := he s.heap.objs.size
    show (backTo p3 (starEach [e] (PySem.W.ksEnv qual scope s.heap.objs.size f (.ref cda) cc))).any (·.1) = false
    rw [e1]; rfl
  have e1 := he s.heap.objs.size
  show wpAny _ _ (evalArgs (Value.ref h2.objs.size) true (backTo p3 (starEach [e] (PySem.W.ksEnv qual scope s.heap.objs.size f (.ref cda) cc))) []) _ _ _
  rw [e1]
  refine PySem.Calls.evalArgs_plain (x := eval e (PySem.W.ksEnv qual scope s.heap.objs.size f (.ref cda) cc)) (rest := backTo p3 (starEach [] (PySem.W.ksEnv qual scope s.heap.objs.size f (.ref cda) cc))) ?_
  show wpAny _ _ (spliced (backTo p3 ((false, eval e (PySem.W.ksEnv qual scope s.heap.objs.size f (.ref cda) cc)) :: starEach [] (PySem.W.ksEnv qual scope s.heap.objs.size f (.ref cda) cc)))) _ _ _
  rw [← e1]
  refine thn (ha.run p3 _ _ _ H _ J3 hta) fun ws s4 ⟨xs, H4, J4, r4, hz, hea4, hq4⟩ => ?_
  have hu4 : s4.heap.get? h2.objs.size = some (PySem.W.kxs_mw "ValueError.__init__" a) := (J4.pin (h2.objs.size, PySem.W.kxs_mw "ValueError.__init__" a) (by show _ ∈ [] ++ [_]; simp)).1
  refine ⟨hu4, ?_⟩
  refine oinitW T J4 hea4 hu4 (by show ws.length ≤ _; rw [← Paired.length r4, sizeLine_eq]; omega) fun s5 J5 => ?_
  have J6 : Inv (cxS CX P w K mg base N qual scope f (.ref cda) cc A outer s H E) [] (L2.start N vs) H4 s5 := { J5 with pin := fun p hp => absurd (show p ∈ ([] : List (Addr × Obj)) from hp) (by simp) }
  refine wpAt_of_wpAny (wpAny_mono (ht.run [] s5 (L2.start N vs) H4 _ J6 hq4) (fun fl s' hs => ?_) fun e s' hs => hs)
  have fin : ∀ {σ' : L2.St} {H' : Hp} {v : V} {u : Value}, Inv (cxS CX P w K mg base N qual scope f (.ref cda) cc A outer s H E) [] σ' H' s' → RelV v u → Q v H' → CE outer P w H s Q u s' :=
    fun {σ' H' v u} J rv q => ⟨v, H', J.os, J.bare, J.base, J.hok, rv, q⟩
  cases fl with
  | ret u =>
    obtain ⟨v, σ', H', J, rv, q⟩ := hs
    exact fin J rv q
  | next =>
    obtain ⟨σ', H', J, q⟩ := hs
    exact fin (v := V.non) (u := Value.none) J rfl q
  | brk =>
    obtain ⟨_, _, _, q⟩ := hs
    exact False.elim q
  | cont =>
    obtain ⟨_, _, _, q⟩ := hs
    exact False.elim q
end
end KT
set_option Elab.async false
set_option linter.all false
set_option maxRecDepth 100000
set_option maxHeartbeats 4000000
namespace KT
open PySem PySem.Spec PyProof.Rows L2
/-- what such an __init__ promises: the field stands -/
def sp_sup (C : Addr) (fld : Str) (z : Str) : Sp := fun vs H Q _ => ∃ (a : Addr) (i : Int), vs = [.ref a, .int i] ∧ i.natAbs.log2 < 1920 ∧ (z ++ toString i).length ≤ sizeLine ∧ H a = some (exo a C none) ∧
  ∀ d, H d = none → d ≠ a → Q .non (upd (upd H d (exd d [(fld, .int i)])) a (exo a C (some d)))
section
variable {P : Program} {w : World} {K : PySem.W.Frag} {mg : Str → Option Value} {base : Heap} {C : Addr} {qual : Str} {params : Arguments} {body : List Stmt} {scope : Scope} {file fld : Str}
theorem supC_ok (h : supC K C fld = true) : OexC K C ∧ PySem.W.mroIn K C (.ref C) = some true ∧ PySem.W.subIn K (.ref C) (.type "ValueError") = some true ∧ PySem.W.findIn K (.ref C) fld = some none ∧
    ∃ cd, PySem.W.clsIn K C = some cd ∧ PySem.W.alongIn K "__init__" ((cd.mro.dropWhile (· != .ref C)).drop 1) = some (some (.builtin "ValueError.__init__")) := by
  unfold supC at h
  simp only [Bool.and_eq_true, decide_eq_true_eq] at h
  obtain ⟨h1, h2, h3, h4, h5, h6, h7, h8⟩ := h
  split at h1
  · rename_i dd cd sl ho
    split at h1
    · rename_i C' bm k0 k1 k2 k3 n k5 hm hs
      simp only [Bool.and_eq_true, decide_eq_true_eq, Bool.not_eq_true'] at h1
      obtain ⟨⟨⟨⟨⟨rfl, rfl⟩, hdel⟩, hdict⟩, hbm⟩, hal⟩ := h1
      have hcl : PySem.W.clsIn K C' = some cd := by unfold PySem.W.clsIn; rw [ho]
      refine ⟨⟨?_, He.eqO_ok h2, h3, h4, h5⟩, h6, h7, He.eqO_ok h8, cd, hcl, He.eqO_ok hal⟩
      obtain ⟨nm, bs, mro, ns, qn, hd, sn, sub, ab, col, del⟩ := cd
      dsimp only at hm hdel hdict
      subst hm hdel hdict
      have hsl : sl = #[k0, k1, k2, k3, some (.builtin "ValueError.__new__"), k5] := by
        have := congrArg List.toArray hs
        simpa using this
      subst hsl
      exact ⟨nm, qn, ns, bs, bm, sn, sub, ab, col, dd, k0, k1, k2, k3, k5, ho, hbm⟩
    · cases h1
  · cases h1
theorem fnAt_ok {f : Addr} {fd : FuncData} (h : fnAt K f = some fd) : ∃ oc od sl, K.lookup f = some ⟨oc, od, .func fd, sl⟩ := by
  unfold fnAt at h
  split at h
  · rename_i oc od fd' sl ho
    cases h
    exact ⟨_, _, _, ho⟩
  · cases h
theorem cellAt_ok {f : Addr} {v : Value} (h : cellAt K f = some v) : ∃ oc od sl, K.lookup f = some ⟨oc, od, .cell (some v), sl⟩ := by
  unfold cellAt at h
  split at h
  · rename_i oc od fd' sl ho
    cases h
    exact ⟨_, _, _, ho⟩
  · cases h
theorem fldsAt_ok {f : Addr} {v : Array Value} (h : fldsAt K f = some v) : ∃ oc od sl, K.lookup f = some ⟨oc, od, .fields v, sl⟩ := by
  unfold fldsAt at h
  split at h
  · rename_i oc od fd' sl ho
    cases h
    exact ⟨_, _, _, ho⟩
  · cases h
theorem supI_ok (h : supI K C qual params body scope file = true) : PySem.W.findIn K (.ref C) "__init__" = some (some (.ref (He.ma K C "__init__"))) ∧ PySem.W.typeIn K (.ref (He.ma K C "__init__")) = some (.type "function") ∧
    ∃ (cc cda : Addr) (oc : Value) (od : Option Addr) (osl : Array (Option Value)) (kV doc pm ct : Value) (an : Option Addr) (cl : Value) (cld : Option Addr) (csl : Array (Option Value)) (ccl : Value) (cdd : Option Addr) (ccs : Array (Option Value)) (fvs : Array Value) (tf : Tok),
      K.lookup (He.ma K C "__init__") = some ⟨oc, od, .func (PySem.W.fnX "__init__" qual params body scope [("__class__", cc)] .none kV doc pm an (.ref cda) ct), osl⟩ ∧ PySem.W.codeIn K (.ref cda) qual = true ∧
      K.lookup cc = some ⟨cl, cld, .cell (some (.ref C)), csl⟩ ∧ K.lookup cda = some ⟨ccl, cdd, .fields fvs, ccs⟩ ∧ fvs[2]? = some (.str file tf) := by
  unfold supI at h
  simp only [Bool.and_eq_true, decide_eq_true_eq] at h
  obtain ⟨h1, h2, h3⟩ := h
  refine ⟨He.eqO_ok h1, h2, ?_⟩
  cases hf : fnAt K (He.ma K C "__init__") with
  | none => rw [hf] at h3; cases h3
  | some fd =>
    rw [hf] at h3
    dsimp only at h3
    obtain ⟨oc, od, osl, ho⟩ := fnAt_ok hf
    split at h3
    · rename_i n c cda hclo hcode
      simp only [Bool.and_eq_true, decide_eq_true_eq] at h3
      obtain ⟨e1, e2, e3, e4, e5, e6, e7, e8, e9, e12, e10, e11⟩ := h3
      obtain ⟨cl, cld, csl, hcell⟩ := cellAt_ok e2
      cases hv : fldsAt K cda with
      | none => rw [hv] at e11; cases e11
      | some v =>
        rw [hv] at e11
        dsimp only at e11
        obtain ⟨ccl, cdd, ccs, hcd⟩ := fldsAt_ok hv
        split at e11
        · rename_i z t hz
          have e11 := of_decide_eq_true e11
          subst e11
          have f5 := eqArgs_ok e5
          have f6 := eqBody_ok e6
          clear e5 e6 hf
          obtain ⟨n1, n2, n3, n4, n5, n6, n7, n8, n9, n10, n11, n12, n13, n14, n15⟩ := fd
          dsimp only at hclo hcode e3 e4 f5 f6 e7 e8 e9 e10 e12
          subst hclo hcode e3 e4 f5 f6 e7 e8 e9 e1 e12
          exact ⟨c, cda, oc, od, osl, n9, n10, n11, n14, n12, cl, cld, csl, ccl, cdd, ccs, v, t, ho, e10, hcell, hcd, hz⟩
        · cases e11
    · cases h3
/-- what the program must be for super to be the built-in one -/
def SupP (P : Program) (file : Str) : Prop := ((P.main.file : Str) == file) = true ∧ (P.main.scope.names.lookup ("super" : Str)).isSome = false
variable {N : List Str} {p0 p1 p2 p3 p4 p5 p6 p7 p8 p9 p10 p11 p12 : Pos} {x z : Str} {k0 : Nat} {rest : List Stmt} {pl : Sem Bool}
theorem fn_sup (hB : supB K C qual params body scope file fld = true) (hP : SupP P file) (hsup : mg "super" = none)
    (hbd : body = .Expr (.Call (.Attribute (.Call (.Name "super" p0) [] [] p1) "__init__" p2) [.JoinedStr [.Constant (.str z) k0 p5, .FormattedValue (.Name x p6) (-1) none p7] p8] [] p3) p4 :: [.Assign [.Attribute (.Name "self" p9) fld p10] (.Name x p11) p12])
    (S : SupScope ["self", x] ["self", x] scope) (hks : scope.names.lookup ("super" : Str) = some .globalImplicit) (hkc : scope.names.lookup ("__class__" : Str) = some .free)
    (hp : ∃ ar : Arg, (params.posonlyargs ++ params.args).head? = some ar ∧ ar.arg = "self") (hsw : ∀ env, swapsWith (.Name x p11) (some (.Attribute (.Name "self" p9) fld p10)) p12.line env = pure false) (hxd : (x == ("__debug__" : Str)) = false) (hxc : (x == ("__classdict__" : Str)) = false)
    (hcall : ∀ (L f cda cc : Addr), eval (.Call (.Attribute (.Call (.Name "super" p0) [] [] p1) "__init__" p2) [.JoinedStr [.Constant (.str z) k0 p5, .FormattedValue (.Name x p6) (-1) none p7] p8] [] p3) (PySem.W.ksEnv qual scope L f (.ref cda) cc) = (do
      let ov ← attributeBase (.Call (.Name "super" p0) [] [] p1) "__init__" (PySem.W.ksEnv qual scope L f (.ref cda) cc) (eval (.Call (.Name "super" p0) [] [] p1) (PySem.W.ksEnv qual scope L f (.ref cda) cc))
      standAt p2.atName
      let (g, first) ← holding [ov] (getMethod ov "__init__" pl)
      callWith p3 g first (backTo p3 (starEach [.JoinedStr [.Constant (.str z) k0 p5, .FormattedValue (.Name x p6) (-1) none p7] p8] (PySem.W.ksEnv qual scope L f (.ref cda) cc))) []))
    (hb : ∀ (kV doc pm ct : Value) (an : Option Addr) (cc cda : Addr) (us : List Value), us.length = 2 → bindArgs (PySem.W.fnX "__init__" qual params body scope [("__class__", cc)] .none kV doc pm an (.ref cda) ct) ⟨us, []⟩ = pure ((["self", x] : List Str).zip us)) :
    ∃ fd, FnOk P w K mg base (fun _ _ _ _ _ _ => False) 1 (He.ma K C "__init__") fd ["self", x] (sp_sup C fld z) ∧ Binds K fd ["self", x] [] := by
  unfold supB at hB
  simp only [Bool.and_eq_true] at hB
  obtain ⟨hC, hI, hth⟩ := hB
  obtain ⟨T, hmro, hVE, hno, cd, hcd, hal⟩ := supC_ok hC
  obtain ⟨iC, tI, cc, cda, oc, od, osl, kV, doc, pm, ct, an, cl, cld, csl, ccl, cdd, ccs, fvs, tf, lk, hcode, hcell, hcda, hfv⟩ := supI_ok hI
  obtain ⟨ar, har, hself⟩ := hp
  refine ⟨_, fn_ofS hbd lk hcode S hcell hcda hfv hP.1 hP.2 hsup hks hkc har hcd T (by rw [hself]; exact S.par _ (by simp)) hmro (He.eqO_ok hth) hal hVE (fun L => by rfl) (fun L => hcall L _ _ _) (fun vs H Q E h => by obtain ⟨_, _, rfl, _⟩ := h; rfl) (fun A outer s H vs Q E hr h => ?_), Binds.all fun us hl => hb _ _ _ _ _ _ _ us hl⟩
  obtain ⟨a, i, rfl, hlog, hlen, hea, kQ⟩ := h
  refine ⟨a, _, _, pa_cons (pe_joined (.cons pe_str (.cons (pe_fmt (pe_var (i := 1) rfl (.inl (S.par _ (by simp))) hxd hxc)) .nil))) pa_nil, pss_one (ps_ost (pe_var (i := 0) rfl (.inl (S.par _ (by simp)))) (pe_var (i := 1) rfl (.inl (S.par _ (by simp))) hxd hxc) (hs := hsw _)), rfl, by rw [hself]; rfl, hea, ?_⟩
  have hz : (Str.empty ++ z) = z := by
    have : (Str.empty ++ z).cps = z.cps := by show (#[] : Array Nat) ++ z.cps = z.cps; simp
    exact congrArg Str.mk this
  have hl2 : z.length ≤ sizeLine := Nat.le_trans (by show z.cps.size ≤ (z.cps ++ (toString i : Str).cps).size; rw [Array.size_append]; omega) hlen
  refine ⟨z, rfl, by rw [hz]; exact hl2, _, rfl, .inr ⟨i, rfl, hlog, _, rfl, by rw [hz]; exact hlen, ?_⟩⟩
  refine ⟨by show 1 ≤ 1000; decide, hea, _, rfl, _, rfl, a, C, rfl, T, hno, .inl ⟨hea, fun dx nd ne => kQ dx nd ne⟩⟩
end
theorem del_upd {H1 : Hp} {a d : Addr} {o o' : HO} {u u' : HO} (na : H1 a = none) (ne : d ≠ a) : upd (del (upd (upd (upd H1 a o) d u) a o') a) d u' = upd H1 d u' := by
  funext b
  by_cases hd : b = d
  · subst hd; rw [upd_same, upd_same]
  · rw [upd_ne hd, upd_ne hd]
    by_cases ha : b = a
    · subst ha; rw [del_same, na]
    · rw [del_ne ha, upd_ne ha, upd_ne hd, upd_ne ha]
/-- C(i), read -/
theorem mk_sup {C : Addr} {fld z : Str} {vs : List V} {H1 : Hp} {i : Int} {Q : XK} (e : vs = [.int i]) (hlog : i.natAbs.log2 < 1920) (hlen : (z ++ toString i).length ≤ sizeLine) (q : ∀ d, H1 d = none → Q (.ref C) (some d) (upd H1 d (.xd [(fld, .int i)]))) :
    vs.length ≤ 1000 ∧ ∀ a, H1 a = none → sp_sup C fld z (.ref a :: (vs ++ [])) (upd H1 a (exo a C none))
      (fun v H2 => v = .non ∧ ∃ (d : Addr) (fs : List (Str × V)), H2 a = some (exo a C (some d)) ∧ H2 d = some (exd d fs) ∧ H1 d = none ∧ Q (.ref C) (some d) (upd (del H2 a) d (.xd fs))) (fun _ _ _ => False) := by
  subst e
  refine ⟨by show 1 ≤ 1000; decide, fun a na => ⟨a, i, rfl, hlog, hlen, upd_same, fun d nd ne => ⟨rfl, d, [(fld, .int i)], upd_same, (upd_ne ne).trans upd_same, ?_, ?_⟩⟩⟩
  · rw [upd_ne ne] at nd; exact nd
  · rw [del_upd na ne]
    refine q d ?_
    rw [upd_ne ne] at nd; exact nd
end KT
set_option Elab.async false
set_option linter.all false
set_option maxRecDepth 100000
set_option maxHeartbeats 4000000
namespace KT
open PySem PySem.Spec PyProof.Rows L2 GxR
variable [GT]
abbrev Nk : List Str := ["_law_work", "e", "_law_kinds", "_law_words", "_law_k"]
theorem sc__law_kind : FnScope Nk ["_law_work"] (defScope s__law_kind) := ⟨rfl, rfl, rfl, by decide +kernel, rfl, by decide +kernel, by decide +kernel⟩
theorem Tx.excB {w : World} {K : PySem.W.Frag} {mg : Str → Option Value} (T : Tx w K mg) {x : Str} (h : x ∈ excs) : excB K x = true := by
  have := T.more1
  unfold ex1 at this
  simp only [Bool.and_eq_true, List.all_eq_true] at this
  first | exact this.1 x h | exact this.1.1 x h
structure ExcT (K : PySem.W.Frag) (x : Str) : Prop where
  c : ExcC K (He.ga K x)
  k : ∀ y ∈ kinds10, PySem.W.kitOne K (.ref (He.ga K x)) (.ref (He.ga K y)) = some (decide (x = y))
  v : PySem.W.kitOne K (.ref (He.ga K x)) (.type "ValueError") = some true
  t : PySem.W.exmOne K (.ref (He.ga K x)) (.ref (He.ga K "TapeError")) = some true
theorem excT {K : PySem.W.Frag} {x : Str} (h : excB K x = true) : ExcT K x := by
  unfold KT.excB at h
  simp only [Bool.and_eq_true, decide_eq_true_eq, List.all_eq_true] at h
  obtain ⟨h1, h2, h3, h4, h5, h6, h7, h8, h9, h10, h11⟩ := h
  exact ⟨⟨He.eqO_ok h1, He.eqO_ok h2, h3, h4, He.eqO_ok h5, He.eqO_ok h6, h7, h8⟩, h9, h10, h11⟩
theorem xfC {K : PySem.W.Frag} {D : Addr} (C : ExcC K D) : XfC K D := ⟨C.hg, C.hk, C.hs, C.hd⟩
abbrev ZK (P : Program) (w : World) (K : PySem.W.Frag) (mg : Str → Option Value) (base : Heap) (A : Around) (stk : List Env) (g : Addr) (cdg : Value) (s : Shared) (H : Hp) : Cx := (cxOf C8.CX0 P w K mg base Nk "_law_kind" d__law_kind.scope g cdg A stk s H C8.E0).nox
/-- the suite behind: which of the ten -/
def kB (x : Str) : List V := kinds10.map fun y => V.bl (decide (x = y))
theorem kB_one : ∀ x ∈ kinds10, ((kB x).countP fun z => eqV z (.bl true)) = 1 := by decide +kernel
theorem kB_at : ∀ x ∈ kinds10, ∃ j : Fin 10, kinds10[j.1]? = some x ∧ (kinds10.take j.1).all (fun y => !decide (x = y)) = true ∧ (x = "BadKeys" ∨ x = "BadTape" ∨ 2 ≤ j.1) := by decide +kernel
def handler : List Stmt := match d__law_kind.body with
  | [.Try _ [.ExceptHandler _ _ b _] _ _ _, _] => b
  | _ => []
theorem kind_suite {P : Program} {w : World} {K : PySem.W.Frag} {mg : Str → Option Value} {base : Heap} {A : Around} {stk : List Env} (T : Tx w K mg) (g : Addr) (cdg : Value) (s : Shared) (H0 : Hp) : ∃ t : Str → Addr → TS,
    (∀ (x : Str) (a : Addr) (oe : Obj) (pn : List (Addr × Obj)), ExcC K (He.ga K x) → Zc (.ref (He.ga K x)) none oe → (∃ vs, oe.data = .fields vs) → PSs ((ZK P w K mg base A stk g cdg s H0).suite a ((a, oe) :: pn)) handler (t x a)) ∧
    ∀ (x : Str) (a : Addr) (D : Ends) (H : Hp) (f : V), x ∈ kinds10 → x ≠ "BadKeys" → x ≠ "BadTape" → ExcT K x → (∀ H2, Kq [] H H2 → D.rt (.str x) H2) → t x a D [some f, some (.ref a), none, none, none] H := by
  refine ⟨fun x a => _, fun x a oe pn hC hz hf => (pss_cons (ps_asg (pe_lst (pa_cons (pe_callB (call_isE (X := ZK P w K mg base A stk g cdg s H0) (a := a) (pn := pn) hC hz hf) (by rfl) T.n_isinstance (by decide +kernel) (pa_cons (pv 1) (pa_cons (pe_glob (v := .ref (He.ga K "BadKeys")) rfl T.g_BadKeys rfl) pa_nil))) (pa_cons (pe_callB (call_isE (X := ZK P w K mg base A stk g cdg s H0) (a := a) (pn := pn) hC hz hf) (by rfl) T.n_isinstance (by decide +kernel) (pa_cons (pv 1) (pa_cons (pe_glob (v := .ref (He.ga K "BadTape")) rfl T.g_BadTape rfl) pa_nil))) (pa_cons (pe_callB (call_isE (X := ZK P w K mg base A stk g cdg s H0) (a := a) (pn := pn) hC hz hf) (by rfl) T.n_isinstance (by decide +kernel) (pa_cons (pv 1) (pa_cons (pe_glob (v := .ref (He.ga K "BadText")) rfl T.g_BadText rfl) pa_nil))) (pa_cons (pe_callB (call_isE (X := ZK P w K mg base A stk g cdg s H0) (a := a) (pn := pn) hC hz hf) (by rfl) T.n_isinstance (by decide +kernel) (pa_cons (pv 1) (pa_cons (pe_glob (v := .ref (He.ga K "BadKey")) rfl T.g_BadKey rfl) pa_nil))) pa_nil))))) (pg_name (i := 2) sc__law_kind.nd rfl (.inl rfl)))
      (pss_cons (ps_asg (pe_op op_cat (pv 2) (pe_lst (pa_cons (pe_callB (call_isE (X := ZK P w K mg base A stk g cdg s H0) (a := a) (pn := pn) hC hz hf) (by rfl) T.n_isinstance (by decide +kernel) (pa_cons (pv 1) (pa_cons (pe_glob (v := .ref (He.ga K "BadName")) rfl T.g_BadName rfl) pa_nil))) (pa_cons (pe_callB (call_isE (X := ZK P w K mg base A stk g cdg s H0) (a := a) (pn := pn) hC hz hf) (by rfl) T.n_isinstance (by decide +kernel) (pa_cons (pv 1) (pa_cons (pe_glob (v := .ref (He.ga K "BadNames")) rfl T.g_BadNames rfl) pa_nil))) (pa_cons (pe_callB (call_isE (X := ZK P w K mg base A stk g cdg s H0) (a := a) (pn := pn) hC hz hf) (by rfl) T.n_isinstance (by decide +kernel) (pa_cons (pv 1) (pa_cons (pe_glob (v := .ref (He.ga K "BadNumbers")) rfl T.g_BadNumbers rfl) pa_nil))) pa_nil))))) (pg_name (i := 2) sc__law_kind.nd rfl (.inl rfl)))
      (pss_cons (ps_asg (pe_op op_cat (pv 2) (pe_lst (pa_cons (pe_callB (call_isE (X := ZK P w K mg base A stk g cdg s H0) (a := a) (pn := pn) hC hz hf) (by rfl) T.n_isinstance (by decide +kernel) (pa_cons (pv 1) (pa_cons (pe_glob (v := .ref (He.ga K "Taping")) rfl T.g_Taping rfl) pa_nil))) (pa_cons (pe_callB (call_isE (X := ZK P w K mg base A stk g cdg s H0) (a := a) (pn := pn) hC hz hf) (by rfl) T.n_isinstance (by decide +kernel) (pa_cons (pv 1) (pa_cons (pe_glob (v := .ref (He.ga K "NotTaping")) rfl T.g_NotTaping rfl) pa_nil))) (pa_cons (pe_callB (call_isE (X := ZK P w K mg base A stk g cdg s H0) (a := a) (pn := pn) hC hz hf) (by rfl) T.n_isinstance (by decide +kernel) (pa_cons (pv 1) (pa_cons (pe_glob (v := .ref (He.ga K "TooLong")) rfl T.g_TooLong rfl) pa_nil))) pa_nil))))) (pg_name (i := 2) sc__law_kind.nd rfl (.inl rfl)))
      (pss_cons (ps_if (PW.pt (pw_or (pt_cmpR op_ne (pe_bmB (K := K) rfl PySem.F.plainAttrs_list PySem.F.slot_list_count PySem.F.type_list_count (mt_countB (K := K) rfl) (pv 2) (pa_cons pe_bl pa_nil)) pe_int (nomark _)) (pw_or1 (pt_not (pt_val (pe_callB (call_isE (X := ZK P w K mg base A stk g cdg s H0) (a := a) (pn := pn) hC hz hf) (by rfl) T.n_isinstance (by decide +kernel) (pa_cons (pv 1) (pa_cons (pe_bltn (v := .ty "ValueError") (by rfl) T.n_ValueError (by decide +kernel) rfl) pa_nil)))))))) (pss_one (ps_ret pe_str)) pss_nil)
      (pss_cons (ps_asg (pe_lst (pa_cons pe_str (pa_cons pe_str (pa_cons pe_str (pa_cons pe_str (pa_cons pe_str (pa_cons pe_str (pa_cons pe_str (pa_cons pe_str (pa_cons pe_str pa_nil)))))))))) (pg_name (i := 3) sc__law_kind.nd rfl (.inl rfl)))
      (pss_cons (ps_expr (pe_bmB (K := K) rfl PySem.F.plainAttrs_list PySem.F.slot_list_append PySem.F.type_list_append mt_append (pv 3) (pa_cons pe_str pa_nil)))
      (pss_cons (ps_asg (pe_bmB (K := K) rfl PySem.F.plainAttrs_list PySem.F.slot_list_index PySem.F.type_list_index (mt_indexB (K := K) rfl) (pv 2) (pa_cons pe_bl pa_nil)) (pg_name (i := 4) sc__law_kind.nd rfl (.inl rfl)))
      (pss_one (ps_ret (pe_ifExp (pt_cmpR op_gt (pv 4) pe_int (nomark _)) (pe_ix (ix_listB (K := K) rfl) (pv 3) (pv 4) (fun _ _ => rfl)) (pe_tup (pa_cons (pe_ix (ix_listB (K := K) rfl) (pv 3) (pv 4) (fun _ _ => rfl)) (pa_cons pe_never pa_nil))))))))))))), fun x a D H f hx n1 n2 hE kQ => ?_⟩
  have mem : ∀ y, y ∈ kinds10 → PySem.W.kitOne K (.ref (He.ga K x)) (.ref (He.ga K y)) = some (decide (x = y)) := hE.k
  refine ⟨_, rfl, _, _, _, rfl, (fun u r => r), mem "BadKeys" (by decide +kernel), _, rfl, _, _, _, rfl, (fun u r => r), mem "BadTape" (by decide +kernel), _, rfl, _, _, _, rfl, (fun u r => r), mem "BadText" (by decide +kernel), _, rfl, _, _, _, rfl, (fun u r => r), mem "BadKey" (by decide +kernel), line16 (by show 4 ≤ 1000000; decide), fun p1 np1 => ?_⟩
  have e1 : upd H p1 (.lst ((kB x).take 4)) = upd H p1 (.lst [V.bl (decide (x = "BadKeys")), V.bl (decide (x = "BadTape")), V.bl (decide (x = "BadText")), V.bl (decide (x = "BadKey"))]) := rfl
  rw [← e1]
  have k1 : Kq [] H (upd H p1 (.lst ((kB x).take 4))) := Kq.alloc np1
  have g1 : (upd H p1 (.lst ((kB x).take 4))) p1 = some (.lst ((kB x).take 4)) := upd_same
  generalize (upd H p1 (.lst ((kB x).take 4))) = H1 at k1 g1  ⊢
  refine ⟨_, rfl, _, rfl, _, _, _, rfl, (fun u r => r), mem "BadName" (by decide +kernel), _, rfl, _, _, _, rfl, (fun u r => r), mem "BadNames" (by decide +kernel), _, rfl, _, _, _, rfl, (fun u r => r), mem "BadNumbers" (by decide +kernel), line16 (by show 3 ≤ 1000000; decide), fun p2 np2 => ?_⟩
  have k2 : Kq [] H1 (upd H1 p2 (.lst ([V.bl (decide (x = "BadName")), V.bl (decide (x = "BadNames")), V.bl (decide (x = "BadNumbers"))]))) := Kq.alloc np2
  have g2 : (upd H1 p2 (.lst ([V.bl (decide (x = "BadName")), V.bl (decide (x = "BadNames")), V.bl (decide (x = "BadNumbers"))]))) p2 = some (.lst (((kB x).drop 4).take 3)) := upd_same
  have g1 := k2.get g1
  generalize (upd H1 p2 (.lst ([V.bl (decide (x = "BadName")), V.bl (decide (x = "BadNames")), V.bl (decide (x = "BadNumbers"))]))) = H2 at k2 g2 g1 ⊢
  refine ⟨p1, p2, _, _, rfl, rfl, g1, g2, line16 (by show 7 ≤ 1000000; decide), fun p3 np3 => ?_⟩
  have k3 : Kq [] H2 (upd H2 p3 (.lst ((kB x).take 4 ++ ((kB x).drop 4).take 3))) := Kq.alloc np3
  have g3 : (upd H2 p3 (.lst ((kB x).take 4 ++ ((kB x).drop 4).take 3))) p3 = some (.lst ((kB x).take 7)) := upd_same
  generalize (upd H2 p3 (.lst ((kB x).take 4 ++ ((kB x).drop 4).take 3))) = H3 at k3 g3  ⊢
  refine ⟨_, rfl, _, rfl, _, _, _, rfl, (fun u r => r), mem "Taping" (by decide +kernel), _, rfl, _, _, _, rfl, (fun u r => r), mem "NotTaping" (by decide +kernel), _, rfl, _, _, _, rfl, (fun u r => r), mem "TooLong" (by decide +kernel), line16 (by show 3 ≤ 1000000; decide), fun p4 np4 => ?_⟩
  have k4 : Kq [] H3 (upd H3 p4 (.lst ([V.bl (decide (x = "Taping")), V.bl (decide (x = "NotTaping")), V.bl (decide (x = "TooLong"))]))) := Kq.alloc np4
  have g4 : (upd H3 p4 (.lst ([V.bl (decide (x = "Taping")), V.bl (decide (x = "NotTaping")), V.bl (decide (x = "TooLong"))]))) p4 = some (.lst ((kB x).drop 7)) := upd_same
  have g3 := k4.get g3
  generalize (upd H3 p4 (.lst ([V.bl (decide (x = "Taping")), V.bl (decide (x = "NotTaping")), V.bl (decide (x = "TooLong"))]))) = H4 at k4 g4 g3 ⊢
  refine ⟨p3, p4, _, _, rfl, rfl, g3, g4, line16 (by show 10 ≤ 1000000; decide), fun p5 np5 => ?_⟩
  have k5 : Kq [] H4 (upd H4 p5 (.lst ((kB x).take 7 ++ (kB x).drop 7))) := Kq.alloc np5
  have g5 : (upd H4 p5 (.lst ((kB x).take 7 ++ (kB x).drop 7))) p5 = some (.lst (kB x)) := upd_same
  generalize (upd H4 p5 (.lst ((kB x).take 7 ++ (kB x).drop 7))) = H5 at k5 g5  ⊢
  have kk5 : Kq [] H H5 := (((k1.trans k2).trans k3).trans k4).trans k5
  have fl : (kB x).all flatV = true := rfl
  refine ⟨_, rfl, .inl ⟨rfl, _, SqL.of g5⟩, p5, kB x, .bl true, rfl, rfl, SqL.of g5, rfl, fl, rfl, _, rfl, iteN (fun z => absurd (by rw [kB_one x hx]; rfl) z) (fun _ => ?_)⟩
  refine ⟨_, rfl, .ty "ValueError", .type "ValueError", true, rfl, (fun u r => r), hE.v, _, rfl, iteF ?_⟩
  refine ⟨line16 (by show 9 ≤ 1000000; decide), fun p6 np6 => ?_⟩
  have nd6 := kk5.fr p6 np6
  have n56 := ne_of_none g5 np6
  have k6 : Kq [] H5 (upd H5 p6 (.lst ([V.str "BadKeys", V.str "BadTape", V.str "BadText", V.str "BadKey", V.str "BadName", V.str "BadNames", V.str "BadNumbers", V.str "Taping", V.str "NotTaping"]))) := Kq.alloc np6
  have g6 : (upd H5 p6 (.lst ([V.str "BadKeys", V.str "BadTape", V.str "BadText", V.str "BadKey", V.str "BadName", V.str "BadNames", V.str "BadNumbers", V.str "Taping", V.str "NotTaping"]))) p6 = some (.lst ([V.str "BadKeys", V.str "BadTape", V.str "BadText", V.str "BadKey", V.str "BadName", V.str "BadNames", V.str "BadNumbers", V.str "Taping", V.str "NotTaping"])) := upd_same
  have g5 := k6.get g5
  generalize (upd H5 p6 (.lst ([V.str "BadKeys", V.str "BadTape", V.str "BadText", V.str "BadKey", V.str "BadName", V.str "BadNames", V.str "BadNumbers", V.str "Taping", V.str "NotTaping"]))) = H6 at k6 g6 g5 ⊢
  have kk6 := kk5.trans k6
  refine ⟨_, rfl, .inl ⟨rfl, _, SqL.of g6⟩, p6, _, _, rfl, rfl, g6, small1000 (by show 9 ≤ 1000; decide), ?_⟩
  have k7 : Kq [] H (upd H6 p6 (.lst ([V.str "BadKeys", V.str "BadTape", V.str "BadText", V.str "BadKey", V.str "BadName", V.str "BadNames", V.str "BadNumbers", V.str "Taping", V.str "NotTaping"] ++ [V.str "TooLong"]))) := kk6.writeF nd6 g6
  have g7 : (upd H6 p6 (.lst ([V.str "BadKeys", V.str "BadTape", V.str "BadText", V.str "BadKey", V.str "BadName", V.str "BadNames", V.str "BadNumbers", V.str "Taping", V.str "NotTaping"] ++ [V.str "TooLong"]))) p6 = some (.lst (kinds10.map V.str)) := upd_same
  have g5b : (upd H6 p6 (.lst ([V.str "BadKeys", V.str "BadTape", V.str "BadText", V.str "BadKey", V.str "BadName", V.str "BadNames", V.str "BadNumbers", V.str "Taping", V.str "NotTaping"] ++ [V.str "TooLong"]))) p5 = some (.lst (kB x)) := (upd_ne n56).trans g5
  generalize (upd H6 p6 (.lst ([V.str "BadKeys", V.str "BadTape", V.str "BadText", V.str "BadKey", V.str "BadName", V.str "BadNames", V.str "BadNumbers", V.str "Taping", V.str "NotTaping"] ++ [V.str "TooLong"]))) = H7 at k7 g7 g5b ⊢
  obtain ⟨j, ej, ea, e2⟩ := kB_at x hx
  have hj2 : 2 ≤ j.1 := (e2.resolve_left n1).resolve_left n2
  have hz : (kB x)[j.1]? = some (.bl true) := by
    unfold kB
    rw [List.getElem?_map, ej]
    show some (V.bl (decide (x = x))) = _
    rw [decide_eq_true rfl]
  have hno' : ∀ (m : Nat) (z : V), m < j.1 → (kB x)[m]? = some z → eqV z (.bl true) = false := fun m z hm e => by
    unfold kB at e
    rw [List.getElem?_map] at e
    obtain ⟨y, ey, rfl⟩ := Option.map_eq_some_iff.mp e
    have hy : y ∈ kinds10.take j.1 := List.mem_iff_getElem?.mpr ⟨m, by rw [List.getElem?_take_of_lt hm]; exact ey⟩
    have := List.all_eq_true.mp ea y hy
    simp only [Bool.not_eq_true', decide_eq_false_iff_not] at this
    rw [decide_eq_false this]; rfl
  refine ⟨_, rfl, .inl ⟨rfl, _, SqL.of g5b⟩, p5, kB x, .bl true, j.1, .bl true, rfl, rfl, SqL.of g5b, rfl, fl, hz, rfl, hno', ?_⟩
  refine ⟨_, rfl, _, _, rfl, rfl, _, rfl, iteD (fun _ => ?_) (fun h => absurd (show (1 : Int) < (j.1 : Int) by omega) h)⟩
  refine ⟨_, rfl, _, rfl, p6, _, _, .str x, rfl, rfl, SqL.of g7, at_of (j := j.1) rfl (by rw [List.getElem?_map, ej]; rfl), kQ _ k7⟩
theorem kind_suiteK {P : Program} {w : World} {K : PySem.W.Frag} {mg : Str → Option Value} {base : Heap} {A : Around} {stk : List Env} (T : Tx w K mg) (hno : PySem.W.findIn K (.ref (He.ga K "BadKeys")) "at" = some none) (g : Addr) (cdg : Value) (s : Shared) (H0 : Hp) : ∃ t : Addr → Addr → TS,
    (∀ (a dx : Addr) (oe : Obj) (pn : List (Addr × Obj)), ExcC K (He.ga K "BadKeys") → Zc (.ref (He.ga K "BadKeys")) (some dx) oe → (∃ vs, oe.data = .fields vs) → PSs ((ZK P w K mg base A stk g cdg s H0).suite a ((a, oe) :: pn)) handler (t a dx)) ∧
    ∀ (a dx : Addr) (D : Ends) (H : Hp) (f : V) (i : Int), ExcT K "BadKeys" → H dx = some (.xd [("at", .int i)]) → (∀ p H2, Kq [] H H2 → H2 p = some (.tup [.str "BadKeys", .int i]) → D.rt (.ref p) H2) → t a dx D [some f, some (.ref a), none, none, none] H := by
  have key : ∀ x : Str, x = "BadKeys" → x ∈ kinds10 ∧ ∀ j : Fin 10, kinds10[j.1]? = some x → j.1 = 0 := fun x e => by subst e; exact ⟨by decide +kernel, by decide +kernel⟩
  have hall : ∀ x : Str, x = "BadKeys" → ∃ t : Addr → Addr → TS, (∀ (a dx : Addr) (oe : Obj) (pn : List (Addr × Obj)), ExcC K (He.ga K x) → PySem.W.findIn K (.ref (He.ga K x)) "at" = some none → Zc (.ref (He.ga K x)) (some dx) oe → (∃ vs, oe.data = .fields vs) → PSs ((ZK P w K mg base A stk g cdg s H0).suite a ((a, oe) :: pn)) handler (t a dx)) ∧
    ∀ (a dx : Addr) (D : Ends) (H : Hp) (f : V) (i : Int), ExcT K x → H dx = some (.xd [("at", .int i)]) → (∀ p H2, Kq [] H H2 → H2 p = some (.tup [.str x, .int i]) → D.rt (.ref p) H2) → t a dx D [some f, some (.ref a), none, none, none] H := by
   intro x ex
   obtain ⟨hx, hjx⟩ := key x ex
   clear key ex
   refine ⟨fun a dx => _, fun a dx oe pn hC hno hz hf => (pss_cons (ps_asg (pe_lst (pa_cons (pe_callB (call_isED (X := ZK P w K mg base A stk g cdg s H0) (a := a) (pn := pn) hC hz hf) (by rfl) T.n_isinstance (by decide +kernel) (pa_cons (pv 1) (pa_cons (pe_glob (v := .ref (He.ga K "BadKeys")) rfl T.g_BadKeys rfl) pa_nil))) (pa_cons (pe_callB (call_isED (X := ZK P w K mg base A stk g cdg s H0) (a := a) (pn := pn) hC hz hf) (by rfl) T.n_isinstance (by decide +kernel) (pa_cons (pv 1) (pa_cons (pe_glob (v := .ref (He.ga K "BadTape")) rfl T.g_BadTape rfl) pa_nil))) (pa_cons (pe_callB (call_isED (X := ZK P w K mg base A stk g cdg s H0) (a := a) (pn := pn) hC hz hf) (by rfl) T.n_isinstance (by decide +kernel) (pa_cons (pv 1) (pa_cons (pe_glob (v := .ref (He.ga K "BadText")) rfl T.g_BadText rfl) pa_nil))) (pa_cons (pe_callB (call_isED (X := ZK P w K mg base A stk g cdg s H0) (a := a) (pn := pn) hC hz hf) (by rfl) T.n_isinstance (by decide +kernel) (pa_cons (pv 1) (pa_cons (pe_glob (v := .ref (He.ga K "BadKey")) rfl T.g_BadKey rfl) pa_nil))) pa_nil))))) (pg_name (i := 2) sc__law_kind.nd rfl (.inl rfl)))
      (pss_cons (ps_asg (pe_op op_cat (pv 2) (pe_lst (pa_cons (pe_callB (call_isED (X := ZK P w K mg base A stk g cdg s H0) (a := a) (pn := pn) hC hz hf) (by rfl) T.n_isinstance (by decide +kernel) (pa_cons (pv 1) (pa_cons (pe_glob (v := .ref (He.ga K "BadName")) rfl T.g_BadName rfl) pa_nil))) (pa_cons (pe_callB (call_isED (X := ZK P w K mg base A stk g cdg s H0) (a := a) (pn := pn) hC hz hf) (by rfl) T.n_isinstance (by decide +kernel) (pa_cons (pv 1) (pa_cons (pe_glob (v := .ref (He.ga K "BadNames")) rfl T.g_BadNames rfl) pa_nil))) (pa_cons (pe_callB (call_isED (X := ZK P w K mg base A stk g cdg s H0) (a := a) (pn := pn) hC hz hf) (by rfl) T.n_isinstance (by decide +kernel) (pa_cons (pv 1) (pa_cons (pe_glob (v := .ref (He.ga K "BadNumbers")) rfl T.g_BadNumbers rfl) pa_nil))) pa_nil))))) (pg_name (i := 2) sc__law_kind.nd rfl (.inl rfl)))
      (pss_cons (ps_asg (pe_op op_cat (pv 2) (pe_lst (pa_cons (pe_callB (call_isED (X := ZK P w K mg base A stk g cdg s H0) (a := a) (pn := pn) hC hz hf) (by rfl) T.n_isinstance (by decide +kernel) (pa_cons (pv 1) (pa_cons (pe_glob (v := .ref (He.ga K "Taping")) rfl T.g_Taping rfl) pa_nil))) (pa_cons (pe_callB (call_isED (X := ZK P w K mg base A stk g cdg s H0) (a := a) (pn := pn) hC hz hf) (by rfl) T.n_isinstance (by decide +kernel) (pa_cons (pv 1) (pa_cons (pe_glob (v := .ref (He.ga K "NotTaping")) rfl T.g_NotTaping rfl) pa_nil))) (pa_cons (pe_callB (call_isED (X := ZK P w K mg base A stk g cdg s H0) (a := a) (pn := pn) hC hz hf) (by rfl) T.n_isinstance (by decide +kernel) (pa_cons (pv 1) (pa_cons (pe_glob (v := .ref (He.ga K "TooLong")) rfl T.g_TooLong rfl) pa_nil))) pa_nil))))) (pg_name (i := 2) sc__law_kind.nd rfl (.inl rfl)))
      (pss_cons (ps_if (PW.pt (pw_or (pt_cmpR op_ne (pe_bmB (K := K) rfl PySem.F.plainAttrs_list PySem.F.slot_list_count PySem.F.type_list_count (mt_countB (K := K) rfl) (pv 2) (pa_cons pe_bl pa_nil)) pe_int (nomark _)) (pw_or1 (pt_not (pt_val (pe_callB (call_isED (X := ZK P w K mg base A stk g cdg s H0) (a := a) (pn := pn) hC hz hf) (by rfl) T.n_isinstance (by decide +kernel) (pa_cons (pv 1) (pa_cons (pe_bltn (v := .ty "ValueError") (by rfl) T.n_ValueError (by decide +kernel) rfl) pa_nil)))))))) (pss_one (ps_ret pe_str)) pss_nil)
      (pss_cons (ps_asg (pe_lst (pa_cons pe_str (pa_cons pe_str (pa_cons pe_str (pa_cons pe_str (pa_cons pe_str (pa_cons pe_str (pa_cons pe_str (pa_cons pe_str (pa_cons pe_str pa_nil)))))))))) (pg_name (i := 3) sc__law_kind.nd rfl (.inl rfl)))
      (pss_cons (ps_expr (pe_bmB (K := K) rfl PySem.F.plainAttrs_list PySem.F.slot_list_append PySem.F.type_list_append mt_append (pv 3) (pa_cons pe_str pa_nil)))
      (pss_cons (ps_asg (pe_bmB (K := K) rfl PySem.F.plainAttrs_list PySem.F.slot_list_index PySem.F.type_list_index (mt_indexB (K := K) rfl) (pv 2) (pa_cons pe_bl pa_nil)) (pg_name (i := 4) sc__law_kind.nd rfl (.inl rfl)))
      (pss_one (ps_ret (pe_ifExp (pt_cmpR op_gt (pv 4) pe_int (nomark _)) (pe_ix (ix_listB (K := K) rfl) (pv 3) (pv 4) (fun _ _ => rfl)) (pe_tup (pa_cons (pe_ix (ix_listB (K := K) rfl) (pv 3) (pv 4) (fun _ _ => rfl)) (pa_cons (pe_ifExp (pt_cmpR op_eq (pv 4) pe_int (nomark _)) (pe_xf (X := ZK P w K mg base A stk g cdg s H0) (a := a) (pn := pn) (xfC hC) hno hz hf (pv 1)) pe_never) pa_nil))))))))))))), fun a dx D H f i hE hd0 kQ => ?_⟩
   have mem : ∀ y, y ∈ kinds10 → PySem.W.kitOne K (.ref (He.ga K x)) (.ref (He.ga K y)) = some (decide (x = y)) := hE.k
   refine ⟨_, rfl, ⟨_, hd0⟩, _, _, _, rfl, (fun u r => r), mem "BadKeys" (by decide +kernel), _, rfl, ⟨_, hd0⟩, _, _, _, rfl, (fun u r => r), mem "BadTape" (by decide +kernel), _, rfl, ⟨_, hd0⟩, _, _, _, rfl, (fun u r => r), mem "BadText" (by decide +kernel), _, rfl, ⟨_, hd0⟩, _, _, _, rfl, (fun u r => r), mem "BadKey" (by decide +kernel), line16 (by show 4 ≤ 1000000; decide), fun p1 np1 => ?_⟩
   have e1 : upd H p1 (.lst ((kB x).take 4)) = upd H p1 (.lst [V.bl (decide (x = "BadKeys")), V.bl (decide (x = "BadTape")), V.bl (decide (x = "BadText")), V.bl (decide (x = "BadKey"))]) := rfl
   rw [← e1]
   have k1 : Kq [] H (upd H p1 (.lst ((kB x).take 4))) := Kq.alloc np1
   have g1 : (upd H p1 (.lst ((kB x).take 4))) p1 = some (.lst ((kB x).take 4)) := upd_same
   have hd1 := k1.get hd0
   generalize (upd H p1 (.lst ((kB x).take 4))) = H1 at k1 g1  hd1 ⊢
   refine ⟨_, rfl, _, rfl, ⟨_, hd1⟩, _, _, _, rfl, (fun u r => r), mem "BadName" (by decide +kernel), _, rfl, ⟨_, hd1⟩, _, _, _, rfl, (fun u r => r), mem "BadNames" (by decide +kernel), _, rfl, ⟨_, hd1⟩, _, _, _, rfl, (fun u r => r), mem "BadNumbers" (by decide +kernel), line16 (by show 3 ≤ 1000000; decide), fun p2 np2 => ?_⟩
   have k2 : Kq [] H1 (upd H1 p2 (.lst ([V.bl (decide (x = "BadName")), V.bl (decide (x = "BadNames")), V.bl (decide (x = "BadNumbers"))]))) := Kq.alloc np2
   have g2 : (upd H1 p2 (.lst ([V.bl (decide (x = "BadName")), V.bl (decide (x = "BadNames")), V.bl (decide (x = "BadNumbers"))]))) p2 = some (.lst (((kB x).drop 4).take 3)) := upd_same
   have g1 := k2.get g1
   have hd2 := k2.get hd1
   generalize (upd H1 p2 (.lst ([V.bl (decide (x = "BadName")), V.bl (decide (x = "BadNames")), V.bl (decide (x = "BadNumbers"))]))) = H2 at k2 g2 g1 hd2 ⊢
   refine ⟨p1, p2, _, _, rfl, rfl, g1, g2, line16 (by show 7 ≤ 1000000; decide), fun p3 np3 => ?_⟩
   have k3 : Kq [] H2 (upd H2 p3 (.lst ((kB x).take 4 ++ ((kB x).drop 4).take 3))) := Kq.alloc np3
   have g3 : (upd H2 p3 (.lst ((kB x).take 4 ++ ((kB x).drop 4).take 3))) p3 = some (.lst ((kB x).take 7)) := upd_same
   have hd3 := k3.get hd2
   generalize (upd H2 p3 (.lst ((kB x).take 4 ++ ((kB x).drop 4).take 3))) = H3 at k3 g3  hd3 ⊢
   refine ⟨_, rfl, _, rfl, ⟨_, hd3⟩, _, _, _, rfl, (fun u r => r), mem "Taping" (by decide +kernel), _, rfl, ⟨_, hd3⟩, _, _, _, rfl, (fun u r => r), mem "NotTaping" (by decide +kernel), _, rfl, ⟨_, hd3⟩, _, _, _, rfl, (fun u r => r), mem "TooLong" (by decide +kernel), line16 (by show 3 ≤ 1000000; decide), fun p4 np4 => ?_⟩
   have k4 : Kq [] H3 (upd H3 p4 (.lst ([V.bl (decide (x = "Taping")), V.bl (decide (x = "NotTaping")), V.bl (decide (x = "TooLong"))]))) := Kq.alloc np4
   have g4 : (upd H3 p4 (.lst ([V.bl (decide (x = "Taping")), V.bl (decide (x = "NotTaping")), V.bl (decide (x = "TooLong"))]))) p4 = some (.lst ((kB x).drop 7)) := upd_same
   have g3 := k4.get g3
   have hd4 := k4.get hd3
   generalize (upd H3 p4 (.lst ([V.bl (decide (x = "Taping")), V.bl (decide (x = "NotTaping")), V.bl (decide (x = "TooLong"))]))) = H4 at k4 g4 g3 hd4 ⊢
   refine ⟨p3, p4, _, _, rfl, rfl, g3, g4, line16 (by show 10 ≤ 1000000; decide), fun p5 np5 => ?_⟩
   have k5 : Kq [] H4 (upd H4 p5 (.lst ((kB x).take 7 ++ (kB x).drop 7))) := Kq.alloc np5
   have g5 : (upd H4 p5 (.lst ((kB x).take 7 ++ (kB x).drop 7))) p5 = some (.lst (kB x)) := upd_same
   have hd5 := k5.get hd4
   generalize (upd H4 p5 (.lst ((kB x).take 7 ++ (kB x).drop 7))) = H5 at k5 g5  hd5 ⊢
   have kk5 : Kq [] H H5 := (((k1.trans k2).trans k3).trans k4).trans k5
   have fl : (kB x).all flatV = true := rfl
   refine ⟨_, rfl, .inl ⟨rfl, _, SqL.of g5⟩, p5, kB x, .bl true, rfl, rfl, SqL.of g5, rfl, fl, rfl, _, rfl, iteN (fun z => absurd (by rw [kB_one x hx]; rfl) z) (fun _ => ?_)⟩
   refine ⟨_, rfl, ⟨_, hd5⟩, .ty "ValueError", .type "ValueError", true, rfl, (fun u r => r), hE.v, _, rfl, iteF ?_⟩
   refine ⟨line16 (by show 9 ≤ 1000000; decide), fun p6 np6 => ?_⟩
   have nd6 := kk5.fr p6 np6
   have n56 := ne_of_none g5 np6
   have k6 : Kq [] H5 (upd H5 p6 (.lst ([V.str "BadKeys", V.str "BadTape", V.str "BadText", V.str "BadKey", V.str "BadName", V.str "BadNames", V.str "BadNumbers", V.str "Taping", V.str "NotTaping"]))) := Kq.alloc np6
   have g6 : (upd H5 p6 (.lst ([V.str "BadKeys", V.str "BadTape", V.str "BadText", V.str "BadKey", V.str "BadName", V.str "BadNames", V.str "BadNumbers", V.str "Taping", V.str "NotTaping"]))) p6 = some (.lst ([V.str "BadKeys", V.str "BadTape", V.str "BadText", V.str "BadKey", V.str "BadName", V.str "BadNames", V.str "BadNumbers", V.str "Taping", V.str "NotTaping"])) := upd_same
   have g5 := k6.get g5
   have hd6 := k6.get hd5
   generalize (upd H5 p6 (.lst ([V.str "BadKeys", V.str "BadTape", V.str "BadText", V.str "BadKey", V.str "BadName", V.str "BadNames", V.str "BadNumbers", V.str "Taping", V.str "NotTaping"]))) = H6 at k6 g6 g5 hd6 ⊢
   have kk6 := kk5.trans k6
   refine ⟨_, rfl, .inl ⟨rfl, _, SqL.of g6⟩, p6, _, _, rfl, rfl, g6, small1000 (by show 9 ≤ 1000; decide), ?_⟩
   have k7 : Kq [] H (upd H6 p6 (.lst ([V.str "BadKeys", V.str "BadTape", V.str "BadText", V.str "BadKey", V.str "BadName", V.str "BadNames", V.str "BadNumbers", V.str "Taping", V.str "NotTaping"] ++ [V.str "TooLong"]))) := kk6.writeF nd6 g6
   have g7 : (upd H6 p6 (.lst ([V.str "BadKeys", V.str "BadTape", V.str "BadText", V.str "BadKey", V.str "BadName", V.str "BadNames", V.str "BadNumbers", V.str "Taping", V.str "NotTaping"] ++ [V.str "TooLong"]))) p6 = some (.lst (kinds10.map V.str)) := upd_same
   have g5b : (upd H6 p6 (.lst ([V.str "BadKeys", V.str "BadTape", V.str "BadText", V.str "BadKey", V.str "BadName", V.str "BadNames", V.str "BadNumbers", V.str "Taping", V.str "NotTaping"] ++ [V.str "TooLong"]))) p5 = some (.lst (kB x)) := (upd_ne n56).trans g5
   generalize (upd H6 p6 (.lst ([V.str "BadKeys", V.str "BadTape", V.str "BadText", V.str "BadKey", V.str "BadName", V.str "BadNames", V.str "BadNumbers", V.str "Taping", V.str "NotTaping"] ++ [V.str "TooLong"]))) = H7 at k7 g7 g5b ⊢
   have hd7 := k7.get hd0
   obtain ⟨j, ej, ea, e2⟩ := kB_at x hx
   have hz : (kB x)[j.1]? = some (.bl true) := by
     unfold kB
     rw [List.getElem?_map, ej]
     show some (V.bl (decide (x = x))) = _
     rw [decide_eq_true rfl]
   have hno' : ∀ (m : Nat) (z : V), m < j.1 → (kB x)[m]? = some z → eqV z (.bl true) = false := fun m z hm e => by
     unfold kB at e
     rw [List.getElem?_map] at e
     obtain ⟨y, ey, rfl⟩ := Option.map_eq_some_iff.mp e
     have hy : y ∈ kinds10.take j.1 := List.mem_iff_getElem?.mpr ⟨m, by rw [List.getElem?_take_of_lt hm]; exact ey⟩
     have := List.all_eq_true.mp ea y hy
     simp only [Bool.not_eq_true', decide_eq_false_iff_not] at this
     rw [decide_eq_false this]; rfl
   have hj : j.1 = 0 := hjx j ej
   refine ⟨_, rfl, .inl ⟨rfl, _, SqL.of g5b⟩, p5, kB x, .bl true, j.1, .bl true, rfl, rfl, SqL.of g5b, rfl, fl, hz, rfl, hno', ?_⟩
   refine ⟨_, rfl, _, _, rfl, rfl, _, rfl, iteD (fun h => absurd h (by omega)) (fun _ => ?_)⟩
   refine ⟨_, rfl, _, rfl, p6, _, _, .str x, rfl, rfl, SqL.of g7, at_of (j := j.1) rfl (by rw [List.getElem?_map, ej]; rfl), _, rfl, rfl, _, rfl, ?_⟩
   refine iteD (fun _ => ?_) (fun h => absurd (by rw [hj]; rfl) h)
   refine ⟨_, rfl, rfl, rfl, dx, _, .int i, rfl, hd7, by simp only [List.lookup_cons, beq_self_eq_true], line16 (by show 2 ≤ 1000000; decide), fun q nq => ?_⟩
   exact kQ q _ (k7.trans (Kq.alloc nq)) upd_same
  obtain ⟨t, h1, h2⟩ := hall "BadKeys" rfl
  exact ⟨t, fun a dx oe pn hC hz hf => h1 a dx oe pn hC hno hz hf, h2⟩
theorem kind_suiteT {P : Program} {w : World} {K : PySem.W.Frag} {mg : Str → Option Value} {base : Heap} {A : Around} {stk : List Env} (T : Tx w K mg) (hno : PySem.W.findIn K (.ref (He.ga K "BadTape")) "line" = some none) (g : Addr) (cdg : Value) (s : Shared) (H0 : Hp) : ∃ t : Addr → Addr → TS,
    (∀ (a dx : Addr) (oe : Obj) (pn : List (Addr × Obj)), ExcC K (He.ga K "BadTape") → Zc (.ref (He.ga K "BadTape")) (some dx) oe → (∃ vs, oe.data = .fields vs) → PSs ((ZK P w K mg base A stk g cdg s H0).suite a ((a, oe) :: pn)) handler (t a dx)) ∧
    ∀ (a dx : Addr) (D : Ends) (H : Hp) (f : V) (i : Int), ExcT K "BadTape" → H dx = some (.xd [("line", .int i)]) → (∀ p H2, Kq [] H H2 → H2 p = some (.tup [.str "BadTape", .int i]) → D.rt (.ref p) H2) → t a dx D [some f, some (.ref a), none, none, none] H := by
  have key : ∀ x : Str, x = "BadTape" → x ∈ kinds10 ∧ ∀ j : Fin 10, kinds10[j.1]? = some x → j.1 = 1 := fun x e => by subst e; exact ⟨by decide +kernel, by decide +kernel⟩
  have hall : ∀ x : Str, x = "BadTape" → ∃ t : Addr → Addr → TS, (∀ (a dx : Addr) (oe : Obj) (pn : List (Addr × Obj)), ExcC K (He.ga K x) → PySem.W.findIn K (.ref (He.ga K x)) "line" = some none → Zc (.ref (He.ga K x)) (some dx) oe → (∃ vs, oe.data = .fields vs) → PSs ((ZK P w K mg base A stk g cdg s H0).suite a ((a, oe) :: pn)) handler (t a dx)) ∧
    ∀ (a dx : Addr) (D : Ends) (H : Hp) (f : V) (i : Int), ExcT K x → H dx = some (.xd [("line", .int i)]) → (∀ p H2, Kq [] H H2 → H2 p = some (.tup [.str x, .int i]) → D.rt (.ref p) H2) → t a dx D [some f, some (.ref a), none, none, none] H := by
   intro x ex
   obtain ⟨hx, hjx⟩ := key x ex
   clear key ex
   refine ⟨fun a dx => _, fun a dx oe pn hC hno hz hf => (pss_cons (ps_asg (pe_lst (pa_cons (pe_callB (call_isED (X := ZK P w K mg base A stk g cdg s H0) (a := a) (pn := pn) hC hz hf) (by rfl) T.n_isinstance (by decide +kernel) (pa_cons (pv 1) (pa_cons (pe_glob (v := .ref (He.ga K "BadKeys")) rfl T.g_BadKeys rfl) pa_nil))) (pa_cons (pe_callB (call_isED (X := ZK P w K mg base A stk g cdg s H0) (a := a) (pn := pn) hC hz hf) (by rfl) T.n_isinstance (by decide +kernel) (pa_cons (pv 1) (pa_cons (pe_glob (v := .ref (He.ga K "BadTape")) rfl T.g_BadTape rfl) pa_nil))) (pa_cons (pe_callB (call_isED (X := ZK P w K mg base A stk g cdg s H0) (a := a) (pn := pn) hC hz hf) (by rfl) T.n_isinstance (by decide +kernel) (pa_cons (pv 1) (pa_cons (pe_glob (v := .ref (He.ga K "BadText")) rfl T.g_BadText rfl) pa_nil))) (pa_cons (pe_callB (call_isED (X := ZK P w K mg base A stk g cdg s H0) (a := a) (pn := pn) hC hz hf) (by rfl) T.n_isinstance (by decide +kernel) (pa_cons (pv 1) (pa_cons (pe_glob (v := .ref (He.ga K "BadKey")) rfl T.g_BadKey rfl) pa_nil))) pa_nil))))) (pg_name (i := 2) sc__law_kind.nd rfl (.inl rfl)))
      (pss_cons (ps_asg (pe_op op_cat (pv 2) (pe_lst (pa_cons (pe_callB (call_isED (X := ZK P w K mg base A stk g cdg s H0) (a := a) (pn := pn) hC hz hf) (by rfl) T.n_isinstance (by decide +kernel) (pa_cons (pv 1) (pa_cons (pe_glob (v := .ref (He.ga K "BadName")) rfl T.g_BadName rfl) pa_nil))) (pa_cons (pe_callB (call_isED (X := ZK P w K mg base A stk g cdg s H0) (a := a) (pn := pn) hC hz hf) (by rfl) T.n_isinstance (by decide +kernel) (pa_cons (pv 1) (pa_cons (pe_glob (v := .ref (He.ga K "BadNames")) rfl T.g_BadNames rfl) pa_nil))) (pa_cons (pe_callB (call_isED (X := ZK P w K mg base A stk g cdg s H0) (a := a) (pn := pn) hC hz hf) (by rfl) T.n_isinstance (by decide +kernel) (pa_cons (pv 1) (pa_cons (pe_glob (v := .ref (He.ga K "BadNumbers")) rfl T.g_BadNumbers rfl) pa_nil))) pa_nil))))) (pg_name (i := 2) sc__law_kind.nd rfl (.inl rfl)))
      (pss_cons (ps_asg (pe_op op_cat (pv 2) (pe_lst (pa_cons (pe_callB (call_isED (X := ZK P w K mg base A stk g cdg s H0) (a := a) (pn := pn) hC hz hf) (by rfl) T.n_isinstance (by decide +kernel) (pa_cons (pv 1) (pa_cons (pe_glob (v := .ref (He.ga K "Taping")) rfl T.g_Taping rfl) pa_nil))) (pa_cons (pe_callB (call_isED (X := ZK P w K mg base A stk g cdg s H0) (a := a) (pn := pn) hC hz hf) (by rfl) T.n_isinstance (by decide +kernel) (pa_cons (pv 1) (pa_cons (pe_glob (v := .ref (He.ga K "NotTaping")) rfl T.g_NotTaping rfl) pa_nil))) (pa_cons (pe_callB (call_isED (X := ZK P w K mg base A stk g cdg s H0) (a := a) (pn := pn) hC hz hf) (by rfl) T.n_isinstance (by decide +kernel) (pa_cons (pv 1) (pa_cons (pe_glob (v := .ref (He.ga K "TooLong")) rfl T.g_TooLong rfl) pa_nil))) pa_nil))))) (pg_name (i := 2) sc__law_kind.nd rfl (.inl rfl)))
      (pss_cons (ps_if (PW.pt (pw_or (pt_cmpR op_ne (pe_bmB (K := K) rfl PySem.F.plainAttrs_list PySem.F.slot_list_count PySem.F.type_list_count (mt_countB (K := K) rfl) (pv 2) (pa_cons pe_bl pa_nil)) pe_int (nomark _)) (pw_or1 (pt_not (pt_val (pe_callB (call_isED (X := ZK P w K mg base A stk g cdg s H0) (a := a) (pn := pn) hC hz hf) (by rfl) T.n_isinstance (by decide +kernel) (pa_cons (pv 1) (pa_cons (pe_bltn (v := .ty "ValueError") (by rfl) T.n_ValueError (by decide +kernel) rfl) pa_nil)))))))) (pss_one (ps_ret pe_str)) pss_nil)
      (pss_cons (ps_asg (pe_lst (pa_cons pe_str (pa_cons pe_str (pa_cons pe_str (pa_cons pe_str (pa_cons pe_str (pa_cons pe_str (pa_cons pe_str (pa_cons pe_str (pa_cons pe_str pa_nil)))))))))) (pg_name (i := 3) sc__law_kind.nd rfl (.inl rfl)))
      (pss_cons (ps_expr (pe_bmB (K := K) rfl PySem.F.plainAttrs_list PySem.F.slot_list_append PySem.F.type_list_append mt_append (pv 3) (pa_cons pe_str pa_nil)))
      (pss_cons (ps_asg (pe_bmB (K := K) rfl PySem.F.plainAttrs_list PySem.F.slot_list_index PySem.F.type_list_index (mt_indexB (K := K) rfl) (pv 2) (pa_cons pe_bl pa_nil)) (pg_name (i := 4) sc__law_kind.nd rfl (.inl rfl)))
      (pss_one (ps_ret (pe_ifExp (pt_cmpR op_gt (pv 4) pe_int (nomark _)) (pe_ix (ix_listB (K := K) rfl) (pv 3) (pv 4) (fun _ _ => rfl)) (pe_tup (pa_cons (pe_ix (ix_listB (K := K) rfl) (pv 3) (pv 4) (fun _ _ => rfl)) (pa_cons (pe_ifExp (pt_cmpR op_eq (pv 4) pe_int (nomark _)) pe_never (pe_xf (X := ZK P w K mg base A stk g cdg s H0) (a := a) (pn := pn) (xfC hC) hno hz hf (pv 1))) pa_nil))))))))))))), fun a dx D H f i hE hd0 kQ => ?_⟩
   have mem : ∀ y, y ∈ kinds10 → PySem.W.kitOne K (.ref (He.ga K x)) (.ref (He.ga K y)) = some (decide (x = y)) := hE.k
   refine ⟨_, rfl, ⟨_, hd0⟩, _, _, _, rfl, (fun u r => r), mem "BadKeys" (by decide +kernel), _, rfl, ⟨_, hd0⟩, _, _, _, rfl, (fun u r => r), mem "BadTape" (by decide +kernel), _, rfl, ⟨_, hd0⟩, _, _, _, rfl, (fun u r => r), mem "BadText" (by decide +kernel), _, rfl, ⟨_, hd0⟩, _, _, _, rfl, (fun u r => r), mem "BadKey" (by decide +kernel), line16 (by show 4 ≤ 1000000; decide), fun p1 np1 => ?_⟩
   have e1 : upd H p1 (.lst ((kB x).take 4)) = upd H p1 (.lst [V.bl (decide (x = "BadKeys")), V.bl (decide (x = "BadTape")), V.bl (decide (x = "BadText")), V.bl (decide (x = "BadKey"))]) := rfl
   rw [← e1]
   have k1 : Kq [] H (upd H p1 (.lst ((kB x).take 4))) := Kq.alloc np1
   have g1 : (upd H p1 (.lst ((kB x).take 4))) p1 = some (.lst ((kB x).take 4)) := upd_same
   have hd1 := k1.get hd0
   generalize (upd H p1 (.lst ((kB x).take 4))) = H1 at k1 g1  hd1 ⊢
   refine ⟨_, rfl, _, rfl, ⟨_, hd1⟩, _, _, _, rfl, (fun u r => r), mem "BadName" (by decide +kernel), _, rfl, ⟨_, hd1⟩, _, _, _, rfl, (fun u r => r), mem "BadNames" (by decide +kernel), _, rfl, ⟨_, hd1⟩, _, _, _, rfl, (fun u r => r), mem "BadNumbers" (by decide +kernel), line16 (by show 3 ≤ 1000000; decide), fun p2 np2 => ?_⟩
   have k2 : Kq [] H1 (upd H1 p2 (.lst ([V.bl (decide (x = "BadName")), V.bl (decide (x = "BadNames")), V.bl (decide (x = "BadNumbers"))]))) := Kq.alloc np2
   have g2 : (upd H1 p2 (.lst ([V.bl (decide (x = "BadName")), V.bl (decide (x = "BadNames")), V.bl (decide (x = "BadNumbers"))]))) p2 = some (.lst (((kB x).drop 4).take 3)) := upd_same
   have g1 := k2.get g1
   have hd2 := k2.get hd1
   generalize (upd H1 p2 (.lst ([V.bl (decide (x = "BadName")), V.bl (decide (x = "BadNames")), V.bl (decide (x = "BadNumbers"))]))) = H2 at k2 g2 g1 hd2 ⊢
   refine ⟨p1, p2, _, _, rfl, rfl, g1, g2, line16 (by show 7 ≤ 1000000; decide), fun p3 np3 => ?_⟩
   have k3 : Kq [] H2 (upd H2 p3 (.lst ((kB x).take 4 ++ ((kB x).drop 4).take 3))) := Kq.alloc np3
   have g3 : (upd H2 p3 (.lst ((kB x).take 4 ++ ((kB x).drop 4).take 3))) p3 = some (.lst ((kB x).take 7)) := upd_same
   have hd3 := k3.get hd2
   generalize (upd H2 p3 (.lst ((kB x).take 4 ++ ((kB x).drop 4).take 3))) = H3 at k3 g3  hd3 ⊢
   refine ⟨_, rfl, _, rfl, ⟨_, hd3⟩, _, _, _, rfl, (fun u r => r), mem "Taping" (by decide +kernel), _, rfl, ⟨_, hd3⟩, _, _, _, rfl, (fun u r => r), mem "NotTaping" (by decide +kernel), _, rfl, ⟨_, hd3⟩, _, _, _, rfl, (fun u r => r), mem "TooLong" (by decide +kernel), line16 (by show 3 ≤ 1000000; decide), fun p4 np4 => ?_⟩
   have k4 : Kq [] H3 (upd H3 p4 (.lst ([V.bl (decide (x = "Taping")), V.bl (decide (x = "NotTaping")), V.bl (decide (x = "TooLong"))]))) := Kq.alloc np4
   have g4 : (upd H3 p4 (.lst ([V.bl (decide (x = "Taping")), V.bl (decide (x = "NotTaping")), V.bl (decide (x = "TooLong"))]))) p4 = some (.lst ((kB x).drop 7)) := upd_same
   have g3 := k4.get g3
   have hd4 := k4.get hd3
   generalize (upd H3 p4 (.lst ([V.bl (decide (x = "Taping")), V.bl (decide (x = "NotTaping")), V.bl (decide (x = "TooLong"))]))) = H4 at k4 g4 g3 hd4 ⊢
   refine ⟨p3, p4, _, _, rfl, rfl, g3, g4, line16 (by show 10 ≤ 1000000; decide), fun p5 np5 => ?_⟩
   have k5 : Kq [] H4 (upd H4 p5 (.lst ((kB x).take 7 ++ (kB x).drop 7))) := Kq.alloc np5
   have g5 : (upd H4 p5 (.lst ((kB x).take 7 ++ (kB x).drop 7))) p5 = some (.lst (kB x)) := upd_same
   have hd5 := k5.get hd4
   generalize (upd H4 p5 (.lst ((kB x).take 7 ++ (kB x).drop 7))) = H5 at k5 g5  hd5 ⊢
   have kk5 : Kq [] H H5 := (((k1.trans k2).trans k3).trans k4).trans k5
   have fl : (kB x).all flatV = true := rfl
   refine ⟨_, rfl, .inl ⟨rfl, _, SqL.of g5⟩, p5, kB x, .bl true, rfl, rfl, SqL.of g5, rfl, fl, rfl, _, rfl, iteN (fun z => absurd (by rw [kB_one x hx]; rfl) z) (fun _ => ?_)⟩
   refine ⟨_, rfl, ⟨_, hd5⟩, .ty "ValueError", .type "ValueError", true, rfl, (fun u r => r), hE.v, _, rfl, iteF ?_⟩
   refine ⟨line16 (by show 9 ≤ 1000000; decide), fun p6 np6 => ?_⟩
   have nd6 := kk5.fr p6 np6
   have n56 := ne_of_none g5 np6
   have k6 : Kq [] H5 (upd H5 p6 (.lst ([V.str "BadKeys", V.str "BadTape", V.str "BadText", V.str "BadKey", V.str "BadName", V.str "BadNames", V.str "BadNumbers", V.str "Taping", V.str "NotTaping"]))) := Kq.alloc np6
   have g6 : (upd H5 p6 (.lst ([V.str "BadKeys", V.str "BadTape", V.str "BadText", V.str "BadKey", V.str "BadName", V.str "BadNames", V.str "BadNumbers", V.str "Taping", V.str "NotTaping"]))) p6 = some (.lst ([V.str "BadKeys", V.str "BadTape", V.str "BadText", V.str "BadKey", V.str "BadName", V.str "BadNames", V.str "BadNumbers", V.str "Taping", V.str "NotTaping"])) := upd_same
   have g5 := k6.get g5
   have hd6 := k6.get hd5
   generalize (upd H5 p6 (.lst ([V.str "BadKeys", V.str "BadTape", V.str "BadText", V.str "BadKey", V.str "BadName", V.str "BadNames", V.str "BadNumbers", V.str "Taping", V.str "NotTaping"]))) = H6 at k6 g6 g5 hd6 ⊢
   have kk6 := kk5.trans k6
   refine ⟨_, rfl, .inl ⟨rfl, _, SqL.of g6⟩, p6, _, _, rfl, rfl, g6, small1000 (by show 9 ≤ 1000; decide), ?_⟩
   have k7 : Kq [] H (upd H6 p6 (.lst ([V.str "BadKeys", V.str "BadTape", V.str "BadText", V.str "BadKey", V.str "BadName", V.str "BadNames", V.str "BadNumbers", V.str "Taping", V.str "NotTaping"] ++ [V.str "TooLong"]))) := kk6.writeF nd6 g6
   have g7 : (upd H6 p6 (.lst ([V.str "BadKeys", V.str "BadTape", V.str "BadText", V.str "BadKey", V.str "BadName", V.str "BadNames", V.str "BadNumbers", V.str "Taping", V.str "NotTaping"] ++ [V.str "TooLong"]))) p6 = some (.lst (kinds10.map V.str)) := upd_same
   have g5b : (upd H6 p6 (.lst ([V.str "BadKeys", V.str "BadTape", V.str "BadText", V.str "BadKey", V.str "BadName", V.str "BadNames", V.str "BadNumbers", V.str "Taping", V.str "NotTaping"] ++ [V.str "TooLong"]))) p5 = some (.lst (kB x)) := (upd_ne n56).trans g5
   generalize (upd H6 p6 (.lst ([V.str "BadKeys", V.str "BadTape", V.str "BadText", V.str "BadKey", V.str "BadName", V.str "BadNames", V.str "BadNumbers", V.str "Taping", V.str "NotTaping"] ++ [V.str "TooLong"]))) = H7 at k7 g7 g5b ⊢
   have hd7 := k7.get hd0
   obtain ⟨j, ej, ea, e2⟩ := kB_at x hx
   have hz : (kB x)[j.1]? = some (.bl true) := by
     unfold kB
     rw [List.getElem?_map, ej]
     show some (V.bl (decide (x = x))) = _
     rw [decide_eq_true rfl]
   have hno' : ∀ (m : Nat) (z : V), m < j.1 → (kB x)[m]? = some z → eqV z (.bl true) = false := fun m z hm e => by
     unfold kB at e
     rw [List.getElem?_map] at e
     obtain ⟨y, ey, rfl⟩ := Option.map_eq_some_iff.mp e
     have hy : y ∈ kinds10.take j.1 := List.mem_iff_getElem?.mpr ⟨m, by rw [List.getElem?_take_of_lt hm]; exact ey⟩
     have := List.all_eq_true.mp ea y hy
     simp only [Bool.not_eq_true', decide_eq_false_iff_not] at this
     rw [decide_eq_false this]; rfl
   have hj : j.1 = 1 := hjx j ej
   refine ⟨_, rfl, .inl ⟨rfl, _, SqL.of g5b⟩, p5, kB x, .bl true, j.1, .bl true, rfl, rfl, SqL.of g5b, rfl, fl, hz, rfl, hno', ?_⟩
   refine ⟨_, rfl, _, _, rfl, rfl, _, rfl, iteD (fun h => absurd h (by omega)) (fun _ => ?_)⟩
   refine ⟨_, rfl, _, rfl, p6, _, _, .str x, rfl, rfl, SqL.of g7, at_of (j := j.1) rfl (by rw [List.getElem?_map, ej]; rfl), _, rfl, rfl, _, rfl, ?_⟩
   refine iteD (fun h => absurd h (by rw [hj]; decide +kernel)) (fun _ => ?_)
   refine ⟨_, rfl, rfl, rfl, dx, _, .int i, rfl, hd7, by simp only [List.lookup_cons, beq_self_eq_true], line16 (by show 2 ≤ 1000000; decide), fun q nq => ?_⟩
   exact kQ q _ (k7.trans (Kq.alloc nq)) upd_same
  obtain ⟨t, h1, h2⟩ := hall "BadTape" rfl
  exact ⟨t, fun a dx oe pn hC hz hf => h1 a dx oe pn hC hno hz hf, h2⟩
/-- what is made of what a call lets out: the word of its class, or a pair of the word and the number -/
def TKind (K : PySem.W.Frag) : (XK → Hp → VK → Prop) → Hp → VK → Prop := fun tl H Q =>
  tl (fun cls d H' => (∃ x ∈ kinds10, x ≠ "BadKeys" ∧ x ≠ "BadTape" ∧ cls = .ref (He.ga K x) ∧ d = none ∧ ∀ H2, Kq [] H' H2 → Q (.str x) H2) ∨
    (∃ dx i, cls = .ref (He.ga K "BadKeys") ∧ d = some dx ∧ H' dx = some (.xd [("at", .int i)]) ∧ ∀ p H2, Kq [] H' H2 → H2 p = some (.tup [.str "BadKeys", .int i]) → Q (.ref p) H2) ∨
    (∃ dx i, cls = .ref (He.ga K "BadTape") ∧ d = some dx ∧ H' dx = some (.xd [("line", .int i)]) ∧ ∀ p H2, Kq [] H' H2 → H2 p = some (.tup [.str "BadTape", .int i]) → Q (.ref p) H2)) H (fun _ H' => Q (.str "") H')
theorem kind_gives {X : Cx} (T : Tx X.w X.K X.mg) (hk : excs = kinds10) (hK : PySem.W.findIn X.K (.ref (He.ga X.K "BadKeys")) "at" = some none) (hT : PySem.W.findIn X.K (.ref (He.ga X.K "BadTape")) "line" = some none) (g : Addr) (cdg : Value) (qn : Str) : Gives X Nk "_law_kind" d__law_kind.scope g cdg d__law_kind.body "_law_work" qn (TKind X.K) := by
  intro f c' s H Q tl act hc h
  obtain ⟨t, ht, hr⟩ := kind_suite (P := X.prog) (base := X.base) (A := X.A) (stk := X.stack) T g cdg s H
  obtain ⟨tK, htK, hrK⟩ := kind_suiteK (P := X.prog) (base := X.base) (A := X.A) (stk := X.stack) T hK g cdg s H
  obtain ⟨tT, htT, hrT⟩ := kind_suiteT (P := X.prog) (base := X.base) (A := X.A) (stk := X.stack) T hT g cdg s H
  have hE : ∀ x ∈ kinds10, ExcT X.K x := fun x hx => excT (T.excB (by rw [hk]; exact hx))
  have mK : ("BadKeys" : Str) ∈ kinds10 := by decide +kernel
  have mT : ("BadTape" : Str) ∈ kinds10 := by decide +kernel
  refine ⟨_, pss_cons (ps_try_as (X := ZK X.prog X.w X.K X.mg X.base X.A X.stack g cdg s H) (i := 1) (n := "e") (c := .ref (He.ga X.K "TapeError")) (Wout := fun _ _ _ _ => False)
    (tb := fun W D σ H => ∃ Ech : XK, (∀ cls d H', Ech cls d H' → W cls d σ H') ∧ σ[0]? = some (some (.ref f)) ∧ H c' = some (LamX.CodeO c' qn) ∧ tl Ech H fun _ H' => D.nx σ H')
    (ts := fun a cls d D σ H => (∃ x, x ∈ kinds10 ∧ cls = .ref (He.ga X.K x) ∧ d = none ∧ t x a D σ H) ∨ (∃ dx, cls = .ref (He.ga X.K "BadKeys") ∧ d = some dx ∧ tK a dx D σ H) ∨ ∃ dx, cls = .ref (He.ga X.K "BadTape") ∧ d = some dx ∧ tT a dx D σ H)
    rfl rfl sc__law_kind.nd rfl rfl ⟨rfl, by decide, .inl T.g_TapeError⟩ LamX.takes0 ?_ ?_) (pss_one (ps_ret pe_str)), ?_⟩
  · intro W pn xe tk po
    refine ⟨fun pins s' σ H' D I h' => ?_⟩
    exact (pss_one (ps_expr (act W pn xe _ _ tk))).run pins s' σ H' D I h'
  · intro a oe cls d pn hz hf
    refine ⟨fun pins s' σ H' D I h' => ?_⟩
    rcases h' with ⟨x, hx, rfl, rfl, h3⟩ | ⟨dx, rfl, rfl, h3⟩ | ⟨dx, rfl, rfl, h3⟩
    · exact (ht x a oe pn (hE x hx).c hz hf).run pins s' σ H' D I h3
    · exact (htK a dx oe pn (hE _ mK).c hz hf).run pins s' σ H' D I h3
    · exact (htT a dx oe pn (hE _ mT).c hz hf).run pins s' σ H' D I h3
  · refine ⟨_, ?_, rfl, hc, h⟩
    rintro cls d H' (⟨x, hx, n1, n2, rfl, rfl, kQ⟩ | ⟨dx, i, rfl, rfl, hd, kQ⟩ | ⟨dx, i, rfl, rfl, hd, kQ⟩)
    · exact ⟨true, (hE x hx).t, fun _ a na => .inl ⟨x, hx, rfl, rfl, hr x a _ H' _ hx n1 n2 (hE x hx) kQ⟩, fun z => by cases z⟩
    · exact ⟨true, (hE _ mK).t, fun _ a na => .inr (.inl ⟨dx, rfl, rfl, hrK a dx _ H' _ i (hE _ mK) hd kQ⟩), fun z => by cases z⟩
    · exact ⟨true, (hE _ mT).t, fun _ a na => .inr (.inr ⟨dx, rfl, rfl, hrT a dx _ H' _ i (hE _ mT) hd kQ⟩), fun z => by cases z⟩
end KT
set_option Elab.async false
set_option linter.all false
set_option maxRecDepth 100000
set_option maxHeartbeats 4000000
namespace KT
open PySem PySem.Spec PyProof.Rows L2
variable [GT]
/-! ### a lambda with one parameter that has a default, handed to a def that calls it without arguments -/
structure LamD (N : List Str) (sc scope : Scope) (pn : Str) : Prop where
  kind : scope.kind = .function
  co : scope.isCoroutine = false
  gen : scope.isGenerator = false
  par : scope.names.lookup pn = some .local
  own : ∀ y ∈ scope.names, (y.2 = .local → y.1 ∉ N) ∧ y.2 ≠ .cell
  free : ∀ y ∈ scope.names, y.2 = .free → sc.names.lookup y.1 = some .cell ∨ sc.names.lookup y.1 = some .free
def lamDB (N : List Str) (sc scope : Scope) (pn : Str) : Bool :=
  decide (scope.kind = .function) && (!scope.isCoroutine && (!scope.isGenerator && (decide (scope.names.lookup pn = some .local) && scope.names.all fun y =>
    (decide (y.2 ≠ .local) || decide (y.1 ∉ N)) && (decide (y.2 ≠ .cell) && (decide (y.2 ≠ .free) || (decide (sc.names.lookup y.1 = some .cell) || decide (sc.names.lookup y.1 = some .free)))))))
theorem lamD_by {N : List Str} {sc scope : Scope} {pn : Str} (h : lamDB N sc scope pn = true) : LamD N sc scope pn := by
  unfold lamDB at h
  simp only [Bool.and_eq_true, Bool.or_eq_true, Bool.not_eq_true', decide_eq_true_eq, List.all_eq_true] at h
  obtain ⟨a1, a2, a3, a4, a5⟩ := h
  refine ⟨a1, a2, a3, a4, fun y hy => ⟨fun e => ?_, (a5 y hy).2.1⟩, fun y hy e => ?_⟩
  · rcases (a5 y hy).1 with z | z
    · exact absurd e z
    · exact z
  · rcases (a5 y hy).2.2 with z | z
    · exact absurd e z
    · exact z
theorem LamD.has {X : Cx} {N : List Str} {scope : Scope} {pn : Str} (L : LamD N X.env.scope scope pn) (ok : X.Ok) : ∀ y ∈ scope.names, y.2 = .free → ∃ c, X.env.cells.lookup y.1 = some c := fun y hy e => by
  rcases L.free y hy e with k | k <;> exact ok.has _ (by first | exact .inl k | exact .inr k)
abbrev ldFn (q : Str) (params : Arguments) (body : Expr) (scope : Scope) (cl : List (Str × Addr)) (T : Addr) (doc pm cdv ct : Value) : FuncData :=
  PySem.W.kdv_fn "<lambda>" q params (.expr body) scope cl (.ref T) doc pm cdv ct
abbrev ldObj (q : Str) (params : Arguments) (body : Expr) (scope : Scope) (cl : List (Str × Addr)) (T : Addr) (doc pm cdv ct : Value) : Obj := { cls := .type "function", data := .func (ldFn q params body scope cl T doc pm cdv ct) }
abbrev oneTup (v : Value) : Obj := { cls := .type "tuple", data := .seq [v].toArray }
section
variable {X : Cx} {pins : List (Addr × Obj)} {σ : L2.St} {H : Hp} {s : Shared}
theorem lam_mkD {c P : Addr} {params : Arguments} {body : Expr} {scope : Scope} {pos : Pos} {Er Qr : Value → Shared → Prop} {de : Expr} (I : Inv X pins σ H s) (TB : LamX.TabB X.base X.mg c P) (hcode : X.env.code = .ref c)
    (hT : LamX.TabS H P (X.env.qual ++ "<lambda>")) (hde : params.defaults = [de]) (hkd : params.kw_defaults = []) (hko : params.kwonlyargs = []) (hc : de.isPlainConst = true) (hfree : ∀ y ∈ scope.names, y.2 = .free → ∃ c, X.env.cells.lookup y.1 = some c)
    (fin : ∀ (f c' T : Addr) (v doc pm ctv : Value) (H1 : Hp) (s1 : Shared), Inv X pins σ H1 s1 → Gr P (X.env.qual ++ "<lambda>") H H1 →
      s1.heap.get? f = some (ldObj (X.env.qual ++ "<lambda>") params body scope (cloFrom X.env.cells scope.names []) T doc pm (.ref c') ctv) → s1.heap.get? T = some (oneTup v) → H1 f = none → f ∉ frs X.stack → H1 T = none → T ∉ frs X.stack → H1 c' = some (LamX.CodeO c' (X.env.qual ++ "<lambda>")) → Qr (.ref f) s1) :
    wpAny (model X.prog X.w) X.A (eval (.Lambda params body scope pos) X.env) Qr Er s := by
  rw [arm_eval_Lambda, defaultsOf_eq, hkd, hde]
  refine wpAny_bind (wpAny_evalAll_consts _ _ _ (fun e he => by rw [List.mem_singleton.mp he]; exact hc) fun vs tk0 hvs => ?_)
  obtain ⟨v, rfl⟩ : ∃ v, vs = [v] := by
    match vs, hvs with
    | [v], _ => exact ⟨v, rfl⟩
  refine wpAny_bind (wpAny_holding (wpAny_pure ?_))
  rw [makeFunction_eq, hko]
  refine wpAny_bind (wpAny_newTextTuple (wpAny_bind (wpAny_pure (wpAny_bind (wpAny_pure ?_)))))
  have I2 : Inv X pins σ H { s with heap := s.heap.push (oneTup v), toks := tk0 } := I.kept (t' := tk0) (h' := s.heap.push (oneTup v)) fun b o e => Heap.get?_push_of_some _ e
  have gT : (s.heap.push (oneTup v)).get? s.heap.objs.size = some (oneTup v) := Heap.get?_push_size _ rfl
  have lower0 : s.heap.objs.size < (s.heap.push (oneTup v)).objs.size := Heap.lt_size gT
  have fT : H s.heap.objs.size = none := I.hok.fresh (Nat.le_refl _)
  have out0 : ∀ f, s.heap.objs.size ≤ f → f ∉ frs X.stack := fun f big mem => by
    rcases List.mem_cons.mp (I.stkSub _ mem) with same | rest
    · have low := I.lt
      rw [← same] at low
      exact absurd big (Nat.not_le.mpr low)
    · exact I.nofs big rest
  generalize s.heap.objs.size = T at gT lower0 fT out0 ⊢
  generalize (s.heap.push (oneTup v)) = h2 at I2 gT lower0 ⊢
  obtain ⟨ps, tP, tOk, tAll⟩ := hT
  have builtP : h2.BuiltinsAt X.mg P := TB.bm.keeps I2.bk
  have heapP : h2.get? P = some { cls := .none, data := .fields ps } := I2.hok P _ tP
  have TneP : T ≠ P := fun e => by rw [e, heapP] at gT; cases gT
  by_cases known : ∃ cv, codeAmong pos ps.toList = some cv
  · obtain ⟨cv, found⟩ := known
    obtain ⟨c', rfl, isCode⟩ := tAll pos cv found
    refine PySem.W.kdv_makeTailHit (c := c) (P := P) (mg := X.mg) (ps := ps) (closure_ok hfree) I2.ok.glob (I2.mod.glob.keeps I2.bk) hcode (TB.code.keeps I2.bk) heapP tOk found builtP ?_
    intro ctv doc h' tk grows big
    have inv1 := I2.kept (t' := tk) (h' := h'.push (ldObj (X.env.qual ++ "<lambda>") params body scope (cloFrom X.env.cells scope.names []) T doc ((X.mg "__name__").getD .none) (.ref c') ctv)) fun b o e => Heap.get?_push_of_some _ (grows b o e)
    have big' : T ≤ h'.objs.size := Nat.le_trans (Nat.le_of_lt lower0) big
    exact fin h'.objs.size c' T v doc _ ctv H _ inv1 ⟨fun _ _ e _ => e, ⟨ps, tP, tOk, tAll⟩, fun _ e => e⟩ (Heap.get?_push_size _ rfl) (Heap.get?_push_of_some _ (grows _ _ gT)) (I2.hok.fresh big) (out0 _ big') fT (out0 _ (Nat.le_refl _)) isCode
  · have none_ : codeAmong pos ps.toList = none := by
      cases e : codeAmong pos ps.toList with
      | none => rfl
      | some cv => exact absurd ⟨cv, e⟩ known
    refine PySem.W.kdv_makeTail (c := c) (P := P) (mg := X.mg) (ps := ps) (closure_ok hfree) I2.ok.glob (I2.mod.glob.keeps I2.bk) hcode (TB.code.keeps I2.bk) heapP tOk none_ TB.gP builtP ?_
    intro c' ctv doc h' tk others big lower isRec table
    obtain ⟨c2, oc, fs, t, sameC, getC, dataC, nameC⟩ := isRec
    cases sameC
    have freeC : H c' = none := I2.hok.fresh big
    have size : h2.objs.size ≤ h'.objs.size := Nat.le_trans big (Nat.le_of_lt lower)
    have size' : T ≤ h'.objs.size := Nat.le_trans (Nat.le_of_lt lower0) size
    have inv1 := LamX.inv_table (t' := tk) (q := X.env.qual ++ "<lambda>") (more := #[rawInt pos.line, rawInt pos.col, .ref c']) (h' := h'.push (ldObj (X.env.qual ++ "<lambda>") params body scope (cloFrom X.env.cells scope.names []) T doc ((X.mg "__name__").getD .none) (.ref c') ctv)) I2 tP
      (fun b o ne e => Heap.get?_push_of_some _ (others b o ne e)) (Heap.get?_push_of_some _ table) big ⟨oc, fs, t, Heap.get?_push_of_some _ getC, dataC, nameC⟩
    have pc : P ≠ c' := ne_of_none tP freeC
    have kept : ∀ b o, H b = some o → b ≠ P → upd (upd H P (.tbl (ps ++ #[rawInt pos.line, rawInt pos.col, .ref c']))) c' (LamX.CodeO c' (X.env.qual ++ "<lambda>")) b = some o := fun b o e ne => by
      rw [upd_ne (ne_of_none e freeC), upd_ne ne]
      exact e
    have asList : (ps ++ #[rawInt pos.line, rawInt pos.col, .ref c']).toList = ps.toList ++ [rawInt pos.line, rawInt pos.col, .ref c'] := by simp
    have tc : T ≠ c' := Nat.ne_of_lt (Nat.lt_of_lt_of_le lower0 big)
    refine fin h'.objs.size c' T v doc _ ctv _ _ inv1 ⟨kept, ⟨ps ++ #[rawInt pos.line, rawInt pos.col, .ref c'], (upd_ne pc).trans upd_same, by rw [asList]; exact PySem.TriplesOk_snoc _ _ _ _ tOk, ?_⟩, ?_⟩ (Heap.get?_push_size _ rfl) (Heap.get?_push_of_some _ (others _ _ TneP gT)) ?_ (out0 _ size') ?_ (out0 _ (Nat.le_refl _)) upd_same
    · intro pos' cv among
      rw [asList] at among
      rcases LamX.among_app _ tOk among with old | new
      · obtain ⟨c0, e0, code0⟩ := tAll pos' cv old
        exact ⟨c0, e0, kept _ _ code0 fun z => by subst z; rw [tP] at code0; unfold LamX.CodeO at code0; cases code0⟩
      · exact ⟨c', new, upd_same⟩
    · intro b e
      by_cases e1 : b = c'
      · rw [e1]; exact freeC
      · rw [upd_ne e1] at e
        by_cases e2 : b = P
        · rw [e2, upd_same] at e; cases e
        · rw [upd_ne e2] at e; exact e
    · have n1 : h'.objs.size ≠ c' := Nat.ne_of_gt lower
      have n2 : h'.objs.size ≠ P := Nat.ne_of_gt (Nat.lt_of_lt_of_le (Heap.lt_size heapP) size)
      rw [upd_ne n1, upd_ne n2]
      exact I2.hok.fresh size
    · rw [upd_ne tc, upd_ne TneP]; exact fT
/-- the body's start: the parameter stands in the frame, and no name of the caller's bears its name -/
theorem lam_startD {HZ : Hp} {s1 : Shared} {A : Around} {outer : List Env} {E : XK} {scope : Scope} {f c' : Addr} {h1 : Heap} {tk : Nat} {pn : Str} {mm : Str → Option Value} (I : Inv X pins σ H s) (L : LamD X.N X.env.scope scope pn) (e0 : Env0 X.prog X.w X.K X.mg X.base A outer s1 HZ) (hd : A.handled = none)
    (un : Un (frs X.stack) [] H HZ s.heap s1.heap) (hns : h1.Ns s1.heap.objs.size mm) (kp : ∀ b o, s1.heap.get? b = some o → h1.get? b = some o) :
    Inv (LamX.lamCx X A outer s1 HZ E scope f c') [] σ HZ { s1 with heap := h1, toks := tk } := by
  have up : ∀ {y : Str} {c : Addr}, (cloFrom X.env.cells scope.names []).lookup y = some c → X.env.cells.lookup y = some c := by
    intro y c e
    rcases cloFrom_mem (PySem.mem_of_lookup e) with inNil | ⟨isFree, same⟩
    · exact nomatch inNil
    · obtain ⟨c0, e0⟩ := L.has I.ok _ isFree rfl
      have e1 : X.env.cells.lookup y = some c0 := e0
      have : c = c0 := by rw [same, e1] <;> rfl
      rw [this]; exact e1
  have down : ∀ {y : Str}, scope.names.lookup y = some .free → ∃ c, (cloFrom X.env.cells scope.names []).lookup y = some c := by
    intro y e
    exact mem_lookup (cloFrom_has (cells := X.env.cells) (acc := []) (PySem.mem_of_lookup e))
  have cells : ∀ {c : Addr} {v : Option Value}, H c = none → s.heap.IsCell c v → h1.IsCell c v := by
    rintro c v n ⟨o, ho, hdata⟩
    obtain ⟨sl, q⟩ := un.any ho n (by simp)
    exact ⟨_, kp _ _ q, hdata⟩
  have noEx : ∀ b : Addr, b ∉ (LamX.lamCx X A outer s1 HZ E scope f c').ex := fun b z => nomatch (show b ∈ ([] : List Addr) from z)
  have okX : (LamX.lamCx X A outer s1 HZ E scope f c').Ok := by
    refine ⟨e0.mod, L.kind, rfl, rfl, Nat.le_refl _, ?_, ?_, ?_, fun _ => hd, Around.frames_deeper e0.frames, .inr ⟨rfl, rfl⟩, fun b z => absurd z (noEx b), e0.bs, e0.bsz, fun b _ _ => noEx b, fun b z => absurd z (noEx b), e0.funs, e0.frf⟩
    · exact fun y z c a b => I.ok.inj y z c (up a) (up b)
    · intro y hy
      rcases (show scope.names.lookup y = some .cell ∨ scope.names.lookup y = some .free from hy) with a | a
      · exact absurd rfl (L.own _ (PySem.mem_of_lookup a)).2
      · exact down a
    · intro y c z
      exact nomatch (show false = true from z)
  refine ⟨okX, rfl, e0.bare, Un.kept kp, ⟨_, hns, ?_⟩, ?_, e0.hok.fresh (Nat.le_refl _), ?_, ?_, e0.hok.kept kp, I.len⟩
  · intro i y v e1 e2 e3
    rcases (show Vis scope y from e3) with a | a | a
    · exact absurd (List.mem_of_getElem? e1) ((L.own _ (PySem.mem_of_lookup a)).1 rfl)
    · exact absurd rfl (L.own _ (PySem.mem_of_lookup a)).2
    · obtain ⟨m, _, all⟩ := I.loc
      have vis : Vis X.env.scope y := by
        rcases L.free _ (PySem.mem_of_lookup a) rfl with b | b
        · exact .inr (.inl b)
        · exact .inr (.inr b)
      obtain ⟨u, rel, how⟩ := all i y v e1 e2 vis
      obtain ⟨c2, e4⟩ := down a
      refine ⟨u, rel, .inr ⟨.inr a, c2, e4, ?_⟩⟩
      rcases how with ⟨b, _⟩ | ⟨_, c3, e5, isC⟩
      · have b2 : X.env.scope.names.lookup y = some .local := b
        rcases L.free _ (PySem.mem_of_lookup a) rfl with d | d
        · rw [show X.env.scope.names.lookup y = _ from d] at b2; cases b2
        · rw [show X.env.scope.names.lookup y = _ from d] at b2; cases b2
      · rw [up e4] at e5
        cases e5
        exact cells (I.freeC y _ (up e4)) isC
  · intro y c e
    obtain ⟨u, z⟩ := I.cell y c (up e)
    exact ⟨u, cells (I.freeC y c (up e)) z⟩
  · intro y c e
    obtain ⟨v, o, ho, _⟩ := I.cell y c (up e)
    exact un.free c o ho (I.freeC y c (up e)) (by simp)
  · intro q hq
    exact nomatch (show q ∈ ([] : List (Addr × Obj)) from hq)
theorem pe_actD {CXg : CXT} {Eg : XK} {Ng : List Str} {qg : Str} {sg : Scope} {g f c' T : Addr} {cdg dv doc pm ctv : Value} {params : Arguments} {body : Expr} {scope : Scope} {k i : Nat} {a pn0 : Str} {pn : List (Addr × Obj)} {xe : Value → Shared → Prop} {W : WX} {t : XK → TE} {p1 p2 : Pos}
    (I : Inv X pins σ H s) (L : LamD X.N X.env.scope scope pn0) (getF : s.heap.get? f = some (ldObj (X.env.qual ++ "<lambda>") params body scope (cloFrom X.env.cells scope.names []) T doc pm (.ref c') ctv)) (getT : s.heap.get? T = some (oneTup dv)) (freeF : H f = none) (outF : f ∉ frs X.stack) (freeT : H T = none) (outT : T ∉ frs X.stack)
    (binds : ∃ kk, bindArgs (ldFn (X.env.qual ++ "<lambda>") params body scope (cloFrom X.env.cells scope.names []) T doc pm (.ref c') ctv) ⟨[], []⟩ = seqItems? (.ref T) >>= kk ∧ ∀ v : Value, kk (some [v].toArray) = pure [(pn0, v)])
    (tk : Takes ((cxOf CXg X.prog X.w X.K X.mg X.base Ng qg sg g cdg X.A X.stack s H Eg).tr pn xe) W) (room : Room (k + 1) (X.A.deeper (envOfC qg sg s.heap.objs.size g cdg)))
    (runs : ∀ (A : Around) (outer : List Env) (s : Shared) (H : Hp) (E : XK), Room k (A.deeper (LamX.lamEnv X scope s.heap.objs.size f c')) → PE (LamX.lamCx X A outer s H E scope f c') body (t E))
    (hN : Ng[i]? = some a) (hv : Vis sg a) (hd : (a == ("__debug__" : Str)) = false := by decide) (hcd : (a == ("__classdict__" : Str)) = false := by decide) :
    PE ((cxOf CXg X.prog X.w X.K X.mg X.base Ng qg sg g cdg X.A X.stack s H Eg).tr pn xe) (.Call (.Name a p1) [] [] p2)
      (fun σZ HZ Q => ∃ Ech : XK, (∀ cls d H', Ech cls d H' → W cls d σZ H') ∧ σZ[i]? = some (some (.ref f)) ∧ HZ c' = some (LamX.CodeO c' (X.env.qual ++ "<lambda>")) ∧ t Ech σ HZ Q) := by
  refine ⟨fun pinsZ sZ σZ HZ Q IZ ⟨Ech, lets, slot, code, reads⟩ => ?_⟩
  have var := (pe_var (i := i) (pos := p1) hN hv hd hcd).run pinsZ sZ σZ HZ (fun v H1 => v = .ref f ∧ H1 = HZ) IZ ⟨.ref f, slot, rfl, rfl⟩
  refine wpAny_Call_Name_kw (thn var fun u s1 told => ?_)
  obtain ⟨v, H1, inv1, rel, sameV, sameH⟩ := told
  subst sameV
  rw [sameH] at inv1
  obtain rfl : u = Value.ref f := rel
  have nin : ∀ b : Addr, b ∉ ([] : List Addr) := fun b z => nomatch z
  have still := inv1.base.keep f _ getF freeF outF (nin f)
  have stillT := inv1.base.keep T _ getT freeT outT (nin T)
  have changes : Un (frs X.stack) [] H HZ s.heap s1.heap := inv1.base
  obtain ⟨oc, fs, tok, getC, dataC, nameC⟩ := (inv1.hok c' _ code).1
  refine PySem.W.callWith_F0 ⟨_, _, _, _, still⟩ (wpAny_call (codeAny_mono (R := CR (L2.CX X.prog X.w) (envOfC qg sg s.heap.objs.size g cdg :: X.stack) X.prog X.w HZ s1 Q Ech) ?_ ?_))
  · refine PySem.W.kla_callFunE room.depth still rfl L.co L.gen rfl ⟨c', oc, fs, tok, rfl, getC, dataC, nameC⟩ ?_
    obtain ⟨kk, e1, e2⟩ := binds
    have sameArgs : (⟨([] : List Value) ++ [], []⟩ : Args) = ⟨[], []⟩ := rfl
    rw [sameArgs, e1]
    refine wpAny_bind (wpAny_seqItems stillT rfl ?_)
    rw [e2]
    refine wpAny_pure (wpAny_newFunctionEnv (fun y hy => (L.own y hy).2) (fun y hy => by rw [List.mem_singleton.mp hy]; exact L.par) ?_ L.kind)
    intro h1 names fresh
    refine ⟨inv1.nolimit.fresh _ fresh, ?_⟩
    have keeps : ∀ b o, s1.heap.get? b = some o → h1.get? b = some o := fun b o e => fresh.extBut b o (Nat.ne_of_lt (Heap.lt_size e)) (Heap.get?_push_of_some _ e)
    have inv2 := lam_startD (f := f) (c' := c') (E := Ech) (tk := s1.toks + [(pn0, dv)].length) I L inv1.env0 room.hd changes names keeps
    refine PySem.W.kla_codeExpr (wpAny_mono ((runs _ _ s1 HZ Ech (room.deeper _)).run [] _ _ HZ Q inv2 reads) ?_ fun _ _ z => z)
    intro v s2 ⟨w2, H2, inv3, rel2, q2⟩
    exact ⟨w2, H2, inv3.os, inv3.bare, inv3.base, inv3.hok, rel2, q2⟩
  · intro r s2 told
    rcases r with e | fl
    · exact tk e s2 (XE.of_call inv1 (fun cls d H' z => lets cls d H' z) told)
    · rcases fl with _ | _ | _ | u <;> first | exact inv1.after told | exact False.elim told
theorem pe_lamKD {TT : (XK → Hp → VK → Prop) → Hp → VK → Prop} {x a pn0 : Str} {g c P : Addr} {k : Nat} {pg : Arguments} {bg : List Stmt} {sg : Scope} {dV kV doc pm cdv ct oc : Value} {an od : Option Addr} {osl : Array (Option Value)} {Ng : List Str}
    {params : Arguments} {body de : Expr} {scope : Scope} {t : XK → TE} {p lpos pos : Pos} (hg : Gl X x) (hm : X.mg x = some (.ref g)) (hk : PySem.W.keepIn X.K (.ref g) = true)
    (lk : X.K.lookup g = some ⟨oc, od, .func (PySem.W.fnOf x x pg bg sg dV kV doc pm an cdv ct), osl⟩) (hcg : PySem.W.codeIn X.K cdv x = true) (hb : L2.Binds X.K (PySem.W.fnOf x x pg bg sg dV kV doc pm an cdv ct) [a] []) (Sg : FnScope Ng [a] sg) (hNg : Ng[0]? = some a) (hva : Vis sg a)
    (hG : Gives X Ng x sg g cdv bg a (X.env.qual ++ "<lambda>") TT)
    (TB : LamX.TabB X.base X.mg c P) (hcode : X.env.code = .ref c) (hr : Room (k + 2) X.A) (L : LamD X.N X.env.scope scope pn0) (hde : params.defaults = [de]) (hkd : params.kw_defaults = []) (hko : params.kwonlyargs = []) (hc : de.isPlainConst = true)
    (hbind : ∀ (q : Str) (cl : List (Str × Addr)) (T : Addr) (doc pm cv ctv : Value), ∃ kk, bindArgs (ldFn q params body scope cl T doc pm cv ctv) ⟨[], []⟩ = seqItems? (.ref T) >>= kk ∧ ∀ v : Value, kk (some [v].toArray) = pure [(pn0, v)])
    (hbody : ∀ (A : Around) (outer : List Env) (s : Shared) (H : Hp) (E : XK) (f c' : Addr), Room k (A.deeper (LamX.lamEnv X scope s.heap.objs.size f c')) → PE (LamX.lamCx X A outer s H E scope f c') body (t E))
    (hdb : (x == ("__debug__" : Str)) = false := by decide) (hd : (a == ("__debug__" : Str)) = false := by decide) (hcd : (a == ("__classdict__" : Str)) = false := by decide) :
    PE X (.Call (.Name x p) [.Lambda params body scope lpos] [] pos) (tLamK P (X.env.qual ++ "<lambda>") TT t) := by
  refine ⟨fun pins s σ H Q I ⟨tab, rest⟩ => wpAny_Call_Name_kw (ld_glob I hg hm ?_ hdb)⟩
  refine PySem.W.callWith_K (h₀ := X.base) I.ok.mod.kin hk ?_ (by rfl) (by rfl)
  show wpAny _ _ (spliced ((false, eval (.Lambda params body scope lpos) X.env) :: backTo pos (starEach [] X.env))) _ _ s
  refine Calls.spliced_cons (lam_mkD I TB hcode tab hde hkd hko hc (L.has I.ok) ?_)
  intro f c' T dv doc' pm' ctv H1 s1 inv1 grown getF getT freeF outF freeT outT isCode
  refine Calls.spliced_nil ⟨inv1.kIn, wpAny_call (codeAny_mono (R := CR C8.CX0 X.stack X.prog X.w H1 s1 Q C8.E0) ?_ ?_)⟩
  · refine LamX.run_ofS (N := Ng) (us := [.ref f]) (vs := [.ref f]) (ps := [a]) lk hcg Sg hr inv1.env0 (hb s1 [.ref f] inv1.kIn rfl) (.cons rfl .nil) rfl ?_
    intro room
    obtain ⟨tt, run, ends⟩ := hG f c' s1 H1 Q (fun E H' Q' => t E σ H' Q') (fun W pn xe p1 p2 tk => pe_actD (i := 0) (t := t) inv1 L getF getT freeF outF freeT outT (hbind _ _ _ _ _ _ _) tk room (fun A outer s H E r => hbody A outer s H E f c' r) hNg hva hd hcd) isCode (rest H1 grown)
    exact ⟨tt, run.nox, ends⟩
  · intro r s2 told
    rcases r with e | fl
    · exact (show False from told).elim
    · rcases fl with _ | _ | _ | u <;> first | exact inv1.after told | exact False.elim told
end
end KT
set_option Elab.async false
set_option linter.all false
set_option maxRecDepth 100000
set_option maxHeartbeats 4000000
namespace KT
open PySem PySem.Spec PyProof.Rows L2 GxR
variable [GT]
section
variable {P : Program} {w : World} {K : PySem.W.Frag} {mg : Str → Option Value} {base : Heap}
abbrev fileS : Str := R.prog.main.file
theorem Tx.sup_BadKeys (T : Tx w K mg) : supB K (He.ga K "BadKeys") "BadKeys.__init__" (defArgs s_BadKeys___init__) (defBody s_BadKeys___init__) (defScope s_BadKeys___init__) fileS "at" = true := T.supB_BadKeys
theorem sup_scope : SupScope ["self", "at"] ["self", "at"] (defScope s_BadKeys___init__) := ⟨rfl, rfl, rfl, by decide +kernel, rfl, by decide +kernel, by decide +kernel, by decide +kernel⟩
theorem fn_BadKeys (T : Tx w K mg) (hP : SupP P fileS) : ∃ fd, FnOk P w K mg base (fun _ _ _ _ _ _ => False) 1 (He.ma K (He.ga K "BadKeys") "__init__") fd ["self", "at"] (sp_sup (He.ga K "BadKeys") "at" "no key for a tape at ") ∧ Binds K fd ["self", "at"] [] :=
  fn_sup T.sup_BadKeys hP T.n_super rfl sup_scope rfl rfl ⟨_, rfl, rfl⟩ (fun _ => rfl) (by decide) (by decide) (fun _ _ _ _ => rfl) (fun _ _ _ _ _ _ _ us hl => match us, hl with | [_, _], _ => rfl)
/-- BadKeys(e) -/
theorem pmk_BadKeys {N : List Str} {d : He.DefD} {cdv : Value} {A : Around} {outer : List Env} {s : Shared} {H : Hp} {E : XK} {p pos : Pos} {e : Expr} {es : List Expr} {ta : TA} (T : Tx w K mg) (hP : SupP P fileS)
    (hg : Gl (CxD P w K mg base N d cdv A outer s H E) "BadKeys") (hr : Room 2 (CxD P w K mg base N d cdv A outer s H E).A) (ha : PA (CxD P w K mg base N d cdv A outer s H E) (e :: es) ta)
    (he : starEach (e :: es) (CxD P w K mg base N d cdv A outer s H E).env = (false, eval e (CxD P w K mg base N d cdv A outer s H E).env) :: starEach es (CxD P w K mg base N d cdv A outer s H E).env := by rfl)
    (hpl : (backTo pos (starEach es (CxD P w K mg base N d cdv A outer s H E).env)).any (·.1) = false := by rfl) :
    PMk (CxD P w K mg base N d cdv A outer s H E) (.Call (.Name "BadKeys" p) (e :: es) [] pos) (tMkO (He.ga K "BadKeys") (sp_sup (He.ga K "BadKeys") "at" "no key for a tape at ") [] ta) := by
  obtain ⟨fd, F, hb⟩ := fn_BadKeys (base := base) T hP
  have hB := T.sup_BadKeys
  unfold supB at hB
  simp only [Bool.and_eq_true] at hB
  obtain ⟨hC, hI, _⟩ := hB
  obtain ⟨O, _⟩ := supC_ok hC
  obtain ⟨iC, tI, _⟩ := supI_ok hI
  exact pmk_oex (X := CxD P w K mg base N d cdv A outer s H E) O iC tI F hr hb .nil (fun _ _ _ _ _ _ _ h => h.elim) hg T.g_BadKeys ha (by decide) he hpl
end
end KT
set_option Elab.async false
set_option linter.all false
set_option maxRecDepth 100000
set_option maxHeartbeats 4000000
namespace KT
open PySem PySem.Spec PyProof.Rows L2 GxR
variable [GT]
section
variable {P : Program} {w : World} {K : PySem.W.Frag} {mg : Str → Option Value} {base : Heap}
theorem Tx.sup_BadTape (T : Tx w K mg) : supB K (He.ga K "BadTape") "BadTape.__init__" (defArgs s_BadTape___init__) (defBody s_BadTape___init__) (defScope s_BadTape___init__) fileS "line" = true := T.supB_BadTape
theorem sup_scopeT : SupScope ["self", "line"] ["self", "line"] (defScope s_BadTape___init__) := ⟨rfl, rfl, rfl, by decide +kernel, rfl, by decide +kernel, by decide +kernel, by decide +kernel⟩
theorem fn_BadTape (T : Tx w K mg) (hP : SupP P fileS) : ∃ fd, FnOk P w K mg base (fun _ _ _ _ _ _ => False) 1 (He.ma K (He.ga K "BadTape") "__init__") fd ["self", "line"] (sp_sup (He.ga K "BadTape") "line" "no tape in row ") ∧ Binds K fd ["self", "line"] [] :=
  fn_sup T.sup_BadTape hP T.n_super rfl sup_scopeT rfl rfl ⟨_, rfl, rfl⟩ (fun _ => rfl) (by decide) (by decide) (fun _ _ _ _ => rfl) (fun _ _ _ _ _ _ _ us hl => match us, hl with | [_, _], _ => rfl)
/-- BadTape(e) -/
theorem pmk_BadTape {N : List Str} {d : He.DefD} {cdv : Value} {A : Around} {outer : List Env} {s : Shared} {H : Hp} {E : XK} {p pos : Pos} {e : Expr} {es : List Expr} {ta : TA} (T : Tx w K mg) (hP : SupP P fileS)
    (hg : Gl (CxD P w K mg base N d cdv A outer s H E) "BadTape") (hr : Room 2 (CxD P w K mg base N d cdv A outer s H E).A) (ha : PA (CxD P w K mg base N d cdv A outer s H E) (e :: es) ta)
    (he : starEach (e :: es) (CxD P w K mg base N d cdv A outer s H E).env = (false, eval e (CxD P w K mg base N d cdv A outer s H E).env) :: starEach es (CxD P w K mg base N d cdv A outer s H E).env := by rfl)
    (hpl : (backTo pos (starEach es (CxD P w K mg base N d cdv A outer s H E).env)).any (·.1) = false := by rfl) :
    PMk (CxD P w K mg base N d cdv A outer s H E) (.Call (.Name "BadTape" p) (e :: es) [] pos) (tMkO (He.ga K "BadTape") (sp_sup (He.ga K "BadTape") "line" "no tape in row ") [] ta) := by
  obtain ⟨fd, F, hb⟩ := fn_BadTape (base := base) T hP
  have hB := T.sup_BadTape
  unfold supB at hB
  simp only [Bool.and_eq_true] at hB
  obtain ⟨hC, hI, _⟩ := hB
  obtain ⟨O, _⟩ := supC_ok hC
  obtain ⟨iC, tI, _⟩ := supI_ok hI
  exact pmk_oex (X := CxD P w K mg base N d cdv A outer s H E) O iC tI F hr hb .nil (fun _ _ _ _ _ _ _ h => h.elim) hg T.g_BadTape ha (by decide) he hpl
end
end KT
set_option Elab.async false
set_option linter.all false
set_option maxRecDepth 100000
set_option maxHeartbeats 4000000
namespace KT
open PySem PySem.Spec PyProof.Rows L2 GxR
variable [GT]
abbrev lamQ (q : Str) : Str := q ++ ".<locals>." ++ "<lambda>"
abbrev tLn (K : PySem.W.Frag) (p : He.Defn) : Addr := He.tabOf K (He.codeOf K p)
theorem Tx.noat_BadKeys {w : World} {K : PySem.W.Frag} {mg : Str → Option Value} (T : Tx w K mg) : PySem.W.findIn K (.ref (He.ga K "BadKeys")) "at" = some none := by
  have h := T.supB_BadKeys
  unfold supB at h
  simp only [Bool.and_eq_true] at h
  exact (supC_ok h.1).2.2.2.1
theorem Tx.noat_BadTape {w : World} {K : PySem.W.Frag} {mg : Str → Option Value} (T : Tx w K mg) : PySem.W.findIn K (.ref (He.ga K "BadTape")) "line" = some none := by
  have h := T.supB_BadTape
  unfold supB at h
  simp only [Bool.and_eq_true] at h
  exact (supC_ok h.1).2.2.2.1
theorem sl_listB {X : Cx} {K : PySem.W.Frag} (e : X.K = K) : SlR X (rSlL K) := e ▸ sl_list
/-- _law_kind(lambda: ..) -/
theorem pe_kind {X : Cx} (T : Tx X.w X.K X.mg) (hkx : excs = kinds10) {k : Nat} {c P : Addr} {params : Arguments} {body : Expr} {scope : Scope} {t : XK → TE} {p lpos pos : Pos} (hg : Gl X "_law_kind") (TB : LamX.TabB X.base X.mg c P) (hcode : X.env.code = .ref c) (hr : Room (k + 2) X.A)
    (L : LamX.LamS X.env.scope scope) (hdef : defaultsOf params X.env = ([], [])) (hbind : ∀ (q : Str) (cl : List (Str × Addr)) (pm cv ctv : Value), bindArgs (PySem.W.kla_fn "<lambda>" q params body scope cl pm cv ctv) ⟨[], []⟩ = pure [])
    (hbody : ∀ (A : Around) (outer : List Env) (s : Shared) (H : Hp) (E : XK) (f c' : Addr), Room k (A.deeper (LamX.lamEnv X scope s.heap.objs.size f c')) → PE (LamX.lamCx X A outer s H E scope f c') body (t E)) :
    PE X (.Call (.Name "_law_kind" p) [.Lambda params body scope lpos] [] pos) (tLamK P (X.env.qual ++ "<lambda>") (TKind X.K) t) := by
  have F : FunD X.K d__law_kind.name d__law_kind.qual d__law_kind.params d__law_kind.body d__law_kind.scope [] (d__law_kind.kws X.K) (Ad X.K d__law_kind.at_) (fdOf X.K (Ad X.K d__law_kind.at_)) := T.f__law_kind
  have b := F.bindsN (ps := ["_law_work"]) (fun _ _ _ _ _ _ us hl => match us, hl with | [_], _ => rfl)
  have kp := F.kp
  obtain ⟨oc, od, dV, kV, doc, pm, an, cdv, ct, osl, e, lk, hcd, _, _⟩ := F.ex
  rw [e] at lk b
  exact pe_lamK hg T.g__law_kind kp lk hcd b sc__law_kind rfl (.inl rfl) (kind_gives T hkx T.noat_BadKeys T.noat_BadTape _ _ _) TB hcode hr L hdef hbind hbody
/-- what a lambda's body lets out, the lambda lets out -/
theorem lam_px {X : Cx} {A : Around} {outer : List Env} {s : Shared} {H : Hp} {E : XK} {scope : Scope} {f c' : Addr} : Passes (L2.CX X.prog X.w) (LamX.lamCx X A outer s H E scope f c') E :=
  passes_call (takes_of (X := LamX.lamCx X A outer s H E scope f c') (E := E) rfl rfl rfl rfl) fun _ _ _ _ z => z
/-- _law_kind(lambda _law_a=0: ..) -/
theorem pe_kindD {X : Cx} (T : Tx X.w X.K X.mg) (hkx : excs = kinds10) {k : Nat} {c P : Addr} {params : Arguments} {body de : Expr} {scope : Scope} {pn0 : Str} {t : XK → TE} {p lpos pos : Pos} (hg : Gl X "_law_kind") (TB : LamX.TabB X.base X.mg c P) (hcode : X.env.code = .ref c) (hr : Room (k + 2) X.A)
    (L : LamD X.N X.env.scope scope pn0) (hde : params.defaults = [de]) (hkd : params.kw_defaults = []) (hko : params.kwonlyargs = []) (hc : de.isPlainConst = true)
    (hbind : ∀ (q : Str) (cl : List (Str × Addr)) (T : Addr) (doc pm cv ctv : Value), ∃ kk, bindArgs (ldFn q params body scope cl T doc pm cv ctv) ⟨[], []⟩ = seqItems? (.ref T) >>= kk ∧ ∀ v : Value, kk (some [v].toArray) = pure [(pn0, v)])
    (hbody : ∀ (A : Around) (outer : List Env) (s : Shared) (H : Hp) (E : XK) (f c' : Addr), Room k (A.deeper (LamX.lamEnv X scope s.heap.objs.size f c')) → PE (LamX.lamCx X A outer s H E scope f c') body (t E)) :
    PE X (.Call (.Name "_law_kind" p) [.Lambda params body scope lpos] [] pos) (tLamK P (X.env.qual ++ "<lambda>") (TKind X.K) t) := by
  have F : FunD X.K d__law_kind.name d__law_kind.qual d__law_kind.params d__law_kind.body d__law_kind.scope [] (d__law_kind.kws X.K) (Ad X.K d__law_kind.at_) (fdOf X.K (Ad X.K d__law_kind.at_)) := T.f__law_kind
  have b := F.bindsN (ps := ["_law_work"]) (fun _ _ _ _ _ _ us hl => match us, hl with | [_], _ => rfl)
  have kp := F.kp
  obtain ⟨oc, od, dV, kV, doc, pm, an, cdv, ct, osl, e, lk, hcd, _, _⟩ := F.ex
  rw [e] at lk b
  exact pe_lamKD hg T.g__law_kind kp lk hcd b sc__law_kind rfl (.inl rfl) (kind_gives T hkx T.noat_BadKeys T.noat_BadTape _ _ _) TB hcode hr L hde hkd hko hc hbind hbody
end KT
set_option Elab.async false
set_option linter.all false
set_option maxRecDepth 100000
set_option maxHeartbeats 4000000
/-! enumerate over a tuple -/
namespace PySem
open AutoSeq1 (wpAny_loadPart')
abbrev tupItO (t : Addr) : Obj := { cls := .type "tuple_iterator", data := .fields #[.ref t, .int 0 0] }
abbrev enumO (i : Addr) : Obj := { cls := .type "enumerate", data := .fields #[.none, .bool false, .ref i, rawInt 0, .none, .none] }
theorem ktEnumNew (t : Addr) (xs : Array Value) (n : Nat) (dct : Option Addr) (sl : Array (Option Value)) :
    Meets (Builtin.«enumerate.__new__» ⟨[.type "enumerate", .ref t], []⟩) (fun _ R s => s.heap.get? t = some { cls := .type "tuple", dict := dct, data := .seq xs n, slots := sl } ∧
      R (.ok (.ret (.ref (s.heap.push (tupItO t)).objs.size))) { s with heap := (s.heap.push (tupItO t)).push (enumO s.heap.objs.size) }) :=
  .of_wp fun prog w A R s hh => by
    obtain ⟨hp, g, d, tk, os⟩ := s
    obtain ⟨ht, hh⟩ := hh
    have hsub := sub_enumerate
    have hT : Heap.IsTuple (Shared.heap ⟨hp, g, d, tk, os⟩) t xs := ⟨_, ht, rfl, n, rfl⟩
    wp_walk using wpAny_loadPart' ht
    refine wpAny_stack_any fun st => wpAny_pure ?_
    split
    · rename_i c _ _ _ _ _
      cases (c == Value.type "enumerate")
      · wp_walk using wpAny_loadPart' ht, wpAny_pyIter_tuple hT
        exact ⟨_, rfl, hh⟩
      · wp_walk using wpAny_loadPart' ht, wpAny_pyIter_tuple hT
        exact ⟨_, rfl, hh⟩
    · wp_walk using wpAny_loadPart' ht, wpAny_pyIter_tuple hT
      exact ⟨_, rfl, hh⟩
theorem ktEnumCall {prog : Program} {w : World} {A : Around} {E : Value → Shared → Prop} {s : Shared} {t : Addr} {xs : Array Value} {Q : Value → Shared → Prop} (hT : s.heap.IsTuple t xs)
    (k : ∀ u, IsEnum u (s.heap.objs.size + 1) s.heap.objs.size 0 .none → u.IsTupleIter s.heap.objs.size t 0 → (∀ b o, s.heap.get? b = some o → u.get? b = some o) → Q (.ref (s.heap.objs.size + 1)) { s with heap := u }) :
    wpAny (model prog w) A (call (.type "enumerate") [.ref t]) Q E s := by
  obtain ⟨⟨c, dct, dt, sl⟩, ht, hc, n, hd⟩ := hT
  replace hc : c = .type "tuple" := hc
  replace hd : dt = .seq xs n := hd
  subst hc hd
  refine callType_new F.called_enumerate (by decide) (F.typeCall_enumerate_1 _) (F.newCall_enumerate_1 _) (fun obj => F.args_object_init_2 obj _) F.entry_enumerate_new (ktEnumNew t xs n dct sl) ⟨ht, ?_⟩
  have hz : (s.heap.push (tupItO t)).objs.size = s.heap.objs.size + 1 := Heap.size_push ..
  show _ ∧ _
  rw [hz]
  have he : IsEnum ((s.heap.push (tupItO t)).push (enumO s.heap.objs.size)) (s.heap.objs.size + 1) s.heap.objs.size 0 .none := by
    have := Heap.get?_push_size (s.heap.push (tupItO t)) (o := enumO s.heap.objs.size) rfl
    rw [hz] at this
    exact this
  exact ⟨⟨_, he, rfl⟩, k _ he ⟨_, Heap.get?_push_of_some _ (Heap.get?_push_size _ rfl), rfl, rfl⟩ fun b o x => Heap.get?_push_of_some _ (Heap.get?_push_of_some _ x)⟩
end PySem
namespace KT
open PySem PySem.Spec PyProof.Rows L2 GxR
variable [GT]
/-- the tuple at a as it stands, each item in a new pair -/
def IteT (K : PySem.W.Frag) (a : Addr) : It where
  go := fun i H => ∃ (xs : List V) (x : V), SqT K H a xs ∧ xs[i]? = some x
  yld := fun i H v H' => ∃ T x, v = .ref T ∧ H T = none ∧ H' = upd H T (.tup [.int (i : Nat), x]) ∧ ∀ xs, SqT K H a xs → xs[i]? = some x
  stop := fun i H => ∃ xs : List V, SqT K H a xs ∧ xs.length ≤ i
theorem turn_enumT {P : Program} {w : World} {K : PySem.W.Frag} {elts : List Expr} {kk : Nat} {tpos : Pos} (a e it : Addr) :
    Turn P w K (.Tuple elts kk tpos) (IteT K a) [e, it] e (fun i h => (∃ old, IsEnum h e it ((i : Nat) : Int) old) ∧ h.IsTupleIter it a i ∧ e ≠ it ∧ a ≠ it ∧ a ≠ e) where
  mem := by simp
  obj := fun i h st b hb => by
    obtain ⟨⟨old, he⟩, ⟨o, ho, hc, hd⟩, _⟩ := st
    rcases (by simpa using hb : b = e ∨ b = it) with rfl | rfl
    · exact ⟨_, he, fun v q => nomatch q⟩
    · exact ⟨o, ho, fun v q => by rw [hd] at q; cases q⟩
  keep := fun i h h' st k => let ⟨⟨old, he⟩, hi, hne⟩ := st; ⟨⟨old, k e (by simp) _ he⟩, hi.at fun o q => k it (by simp) o q, hne⟩
  item := by
    intro X hP hw hK hc i pins s σ H E I hf st hg
    subst hP hw hK
    obtain ⟨⟨old, he⟩, hit, hne, hai, hae⟩ := st
    obtain ⟨xs, x, hq, hx⟩ := hg
    obtain ⟨its, rv, p, hz⟩ := I.tuple hq
    obtain ⟨u, hu, ru⟩ := rv.get hx
    have hel : e < s.heap.objs.size := Heap.lt_size he
    have hil : it < s.heap.objs.size := by obtain ⟨_, q, _⟩ := hit; exact Heap.lt_size q
    have hui : its.toArray[i]? = some u := by simpa using hu
    have hlt : i < its.toArray.size := (Array.getElem?_eq_some_iff.mp hui).1
    refine wpAny_pyNext_enum_itemD (Draws.tuple (A := X.A.in1) (show X.A.in1.handled = none from I.ok.hd hc) it a hai its.toArray) he ⟨hit, p⟩ hlt hne (by simp [hne, Ne.symm hae]) fun x' h' tk hx' ho hst' hT hsz hk => ?_
    have hxu : x' = u := by rw [hui] at hx'; exact (Option.some.inj hx').symm
    subst hxu
    refine ⟨_, rfl, wpAny_letOwnedTupleGo_enum (s := { s with heap := h', toks := tk + 1 }) ho fun h'' he' sb => ?_⟩
    have hT2 : h''.get? s.heap.objs.size = some { cls := .type "tuple", data := .seq #[.int i tk, x'] } := (sb.2 _ (Nat.ne_of_gt hel)).trans hT
    have new : ObjOk X.prog X.w (upd H s.heap.objs.size (.tup [.int (i : Nat), x])) h'' s.heap.objs.size (.tup [.int (i : Nat), x]) :=
      ⟨by show 2 ≤ sizeLine; decide, [.int i tk, x'], .cons ⟨_, rfl⟩ (.cons ru .nil), ⟨_, hT2, rfl, _, rfl⟩⟩
    have I1 : Inv X pins σ (upd H s.heap.objs.size (.tup [.int (i : Nat), x])) { s with heap := h'', toks := tk + 1 } :=
      I.turnedNew (ch := [e, it]) (fun b ob hb q => (sb.2 b (fun z => hb (by simp [z]))).trans (hk b ob (fun z => hb (by simp [z])) (fun z => hb (by simp [z])) q)) hf (Nat.le_refl _) new
    refine ⟨.ref s.heap.objs.size, _, I1, rfl, ⟨_, x, rfl, I.hok.fresh (Nat.le_refl _), rfl, fun ys hy => by rw [I.tuple_inj hy hq]; exact hx⟩, ⟨⟨x', ?_⟩, hst'.1.at fun o q => (sb.2 it (Ne.symm hne)).trans q, hne, hai, hae⟩, fun b hb => ?_⟩
    · rw [show ((i + 1 : Nat) : Int) = (i : Int) + 1 by omega]
      exact he'
    · have hb' : b < s.heap.objs.size := by
        rcases (by simpa using hb : b = e ∨ b = it) with rfl | rfl
        · exact hel
        · exact hil
      rw [upd_ne (Nat.ne_of_lt hb')]
      exact (hf b hb).1
  done := by
    intro X hP hw hK hc i pins s σ H E I hf st hg
    subst hP hw hK
    obtain ⟨⟨old, he⟩, hit, hne, hai, hae⟩ := st
    obtain ⟨xs, hq, hx⟩ := hg
    obtain ⟨its, rv, p, hz⟩ := I.tuple hq
    obtain ⟨f0, f1, f2, f3, f4, f5⟩ := hf it (by simp)
    have hl := rv.length
    have hn : its.toArray[i]? = none := by simp; omega
    have hT : s.TypeIs (.ref e) "enumerate" := ⟨_, he, rfl⟩
    unfold pyNext
    refine wpAny_bind (wpAny_attempt (wpAny_callSpecial?_slot (name := Str.ofString "__next__") hT F.slot_enumerate_next (wpAny_call_entry F.slot_enumerate_next hT F.entry_enumerate_next ?_ (F.args_enumerate_next_1 _))))
    show wpAny _ _ (field (.ref e) 2 >>= _) _ _ _
    refine wpAny_bind (wpAny_field he rfl (x := .ref it) rfl ?_)
    refine wpAny_bind (wpAny_nextOf_tuple_end (A := X.A.in1) (show X.A.in1.handled = none from I.ok.hd hc) hit p hn fun h' x eb hx' => ?_)
    obtain ⟨o, ho, hcl⟩ := hx'
    refine wpAny_bind (wpAny_isInstance (T := "StopIteration") (b := true) ⟨o, ho, hcl⟩ isSubtype_stop ?_)
    exact wpAny_pure ⟨rfl, I.turned (t' := s.toks) (fun b o hb q => eb b o hb q) f0 f1 f3 f4 f5⟩
  self := fun A i s Q E st h => let ⟨⟨_, he⟩, _⟩ := st; wpAny_pyIter_enum he h
def iEnumT (K : PySem.W.Frag) (ta : TA) : TI := fun σ H R => ta σ H fun vs H1 => ∃ a xs, vs = [.ref a] ∧ SqT K H1 a xs ∧ R (IteT K a) H1
theorem pi_enumT {X : Cx} {e : Expr} {ta : TA} {p pos tpos : Pos} {elts : List Expr} {kk : Nat} (hg : Gl X "enumerate") (hm : X.mg "enumerate" = none) (ha : PA X [e] ta) (hs : starEach [e] X.env = [(false, eval e X.env)] := by rfl) :
    PI X (.Tuple elts kk tpos) (.Call (.Name "enumerate" p) [e] [] pos) (iEnumT X.K ta) := by
  refine ⟨fun pins s σ H R I h => ?_⟩
  refine Call_ (ld_blt I hg hm boot_enumerate (PyProof.Rows.callWith_type1 (thn (ha.run pos pins s σ H _ I h) fun us s1 ⟨vs, H1, I1, r1, q1⟩ => ?_) hs rfl))
  obtain ⟨a, xs, ex, hq, q⟩ := q1
  subst ex
  cases r1 with
  | cons r rr =>
    cases rr
    cases r
    obtain ⟨its, rv, p', hz⟩ := I1.tuple hq
    have hal : a < s1.heap.objs.size := by obtain ⟨o, ho, _⟩ := p'; exact Heap.lt_size ho
    refine ktEnumCall (show s1.heap.IsTuple a its.toArray from p') fun u he hit hk => wpAny_pyIter_enum he ?_
    have I2 : Inv X pins σ H1 { s1 with heap := u } := I1.kept (t' := s1.toks) hk
    refine ⟨s1.heap.objs.size + 1, [s1.heap.objs.size + 1, s1.heap.objs.size], _, _, H1, rfl, I2, turn_enumT a (s1.heap.objs.size + 1) s1.heap.objs.size, ⟨⟨.none, he⟩, hit, Nat.succ_ne_self _, Nat.ne_of_lt hal, Nat.ne_of_lt (Nat.lt_succ_of_lt hal)⟩, fun b hb => ?_, q⟩
    have hle : s1.heap.objs.size ≤ b := by
      rcases (by simpa using hb : b = s1.heap.objs.size + 1 ∨ b = s1.heap.objs.size) with rfl | rfl <;> omega
    exact I1.fpOk hle (I1.hok.fresh hle)
/-- a loop over enumerate of a tuple -/
theorem for_enumT {K : PySem.W.Frag} {a : Addr} {xs : List V} {g : TG} {tb : TS} {D : Ends} {σ : L2.St} {H : Hp} (Pv : Nat → L2.St → Hp → Prop) (h0 : Pv 0 σ H) (hq : ∀ i σ H, Pv i σ H → SqT K H a xs)
    (hs : ∀ (i : Nat) (x : V) (T : Addr) (σ : L2.St) (H : Hp), xs[i]? = some x → Pv i σ H → H T = none → g (.ref T) σ (upd H T (.tup [.int (i : Nat), x])) fun σ2 H2 => tb { D with nx := Pv (i + 1), ct := Pv (i + 1), bk := D.nx } σ2 H2) (hd : ∀ σ H, Pv xs.length σ H → D.nx σ H) :
    ∃ W : Nat → Nat → L2.St → Hp → Prop, (∃ m, W 0 m σ H) ∧ ∀ i m σ H, W i m σ H →
      ((IteT K a).stop i H ∧ D.nx σ H) ∨ ((IteT K a).go i H ∧ ∃ N : L2.St → Hp → Prop, (∀ σ' H', N σ' H' → ∃ m', m' < m ∧ W (i + 1) m' σ' H') ∧ ∀ v H', (IteT K a).yld i H v H' → g v σ H' fun σ2 H2 => tb { D with nx := N, ct := N, bk := D.nx } σ2 H2) := by
  refine ⟨fun i m σ H => m = xs.length - i ∧ i ≤ xs.length ∧ Pv i σ H, ⟨_, rfl, Nat.zero_le _, h0⟩, ?_⟩
  rintro i m σ H ⟨rfl, hi, p⟩
  have q := hq i σ H p
  by_cases hlt : i < xs.length
  · refine .inr ⟨⟨xs, _, q, List.getElem?_eq_getElem hlt⟩, Pv (i + 1), fun σ' H' p' => ⟨_, by omega, rfl, hlt, p'⟩, ?_⟩
    rintro v H' ⟨T, x, rfl, hT, rfl, f⟩
    exact hs i x T σ H (f xs q) p hT
  · have e : i = xs.length := by omega
    subst e
    exact .inl ⟨⟨xs, q, Nat.le_refl _⟩, hd σ H p⟩
end KT
set_option Elab.async false
set_option linter.all false
set_option maxRecDepth 100000
set_option maxHeartbeats 4000000
namespace KT
open PySem PySem.Spec PyProof.Rows L2 GxR
variable [GT]
/-! ### tuples that may be keys or not -/
def actWords : List Str := ["break", "rub", "left", "right", "up", "down", "home", "end", "take", "lay"]
def actB : V → Bool
  | .str z => actWords.contains z
  | _ => false
inductive TupsAt (K : PySem.W.Frag) (H : Hp) : List Addr → List (List V) → Prop where
  | nil : TupsAt K H [] []
  | cons {a : Addr} {as : List Addr} {xs : List V} {xss : List (List V)} : SqT K H a xs → TupsAt K H as xss → TupsAt K H (a :: as) (xs :: xss)
/-- small values; one that stands alone is a number, or a word that is told of -/
def OddOk (K : PySem.W.Frag) (xs : List V) : Prop := (∀ x ∈ xs, smallV x) ∧ ∀ k, xs = [k] → ActIs K k (actB k)
def sp_bel (K : PySem.W.Frag) (okB : List V → Bool) : Sp := fun vs H Q _ => ∃ a xs, vs = [.ref a] ∧ SqT K H a xs ∧ OddOk K xs ∧ TabG H (tS K) ∧ ∀ H', Kq [] H H' → Q (.bl (okB xs)) H'
theorem num_len : ∀ i : Fin 101, (("no key for a tape at " : Str) ++ toString ((i.1 : Nat) : Int)).length ≤ 1000 := by decide +kernel
theorem num_small {i : Nat} (h : i ≤ 100) : ((i : Nat) : Int).natAbs.log2 < 1920 ∧ (("no key for a tape at " : Str) ++ toString ((i : Nat) : Int)).length ≤ sizeLine := by
  refine ⟨?_, Nat.le_trans (num_len ⟨i, by omega⟩) (by rw [sizeLine_eq]; decide)⟩
  rw [Int.natAbs_natCast]
  exact Nat.lt_of_le_of_lt (Nat.log2_le_self i) (by omega)
section
variable {P : Program} {w : World} {K : PySem.W.Frag} {mg : Str → Option Value} {base : Heap}
theorem TupsAt.kq {H H1 : Hp} {as : List Addr} {xss : List (List V)} (h : TupsAt K H as xss) (k : Kq [] H H1) : TupsAt K H1 as xss := by
  induction h with
  | nil => exact .nil
  | cons h _ ih => exact .cons (k.tup h) ih
theorem TupsAt.len {H : Hp} {as : List Addr} {xss : List (List V)} (h : TupsAt K H as xss) : as.length = xss.length := by
  induction h with
  | nil => rfl
  | cons _ _ ih => simp [ih]
theorem TupsAt.at_ {H : Hp} : ∀ {as : List Addr} {xss : List (List V)}, TupsAt K H as xss → ∀ {i : Nat} (h1 : i < as.length) (h2 : i < xss.length), SqT K H as[i] xss[i]
  | _, _, .cons h _, 0, _, _ => h
  | _, _, .cons _ t, i + 1, h1, h2 => TupsAt.at_ t (by simpa using h1) (by simpa using h2)
def sp_check_eachX (K : PySem.W.Frag) (fB : Addr) (okB : List V → Bool) : Sp := fun vs H Q E => ∃ a as xss m, vs = [.ref a, .int (m : Nat), .ref fB] ∧ SqT K H a (as.map V.ref) ∧ TupsAt K H as xss ∧ (∀ xs ∈ xss, OddOk K xs) ∧ xss.length ≤ 100 ∧ TabG H (tS K) ∧
  ((∀ i (h : i < xss.length), i < m ∧ okB xss[i] = true) → ∀ H', Kq [] H H' → Q .non H') ∧
  ∀ i (h : i < xss.length), (∀ j (hj : j < i), j < m ∧ okB (xss[j]'(by omega)) = true) → ¬ (i < m ∧ okB xss[i] = true) → ∀ d H1, Kq [] H H1 → H1 d = none → E (.ref (He.ga K "BadKeys")) (some d) (upd H1 d (.xd [("at", .int (i : Nat))]))
theorem sc_check_eachX : FnScope ["keys", "most", "belongs", "at", "key"] ["keys", "most", "belongs"] (defScope s_check_each) := ⟨rfl, rfl, rfl, by decide +kernel, rfl, by decide +kernel, by decide +kernel⟩
theorem ok_check_eachX (T : Tx w K mg) (hP : SupP P fileS) (fB : Addr) (okB : List V → Bool) (FB : Fk P w K mg base 5 fB ["key"] (sp_bel K okB)) : Fk P w K mg base 6 (Ad K d_check_each.at_) ["keys", "most", "belongs"] (sp_check_eachX K fB okB) := by
  refine mkF T.f_check_each sc_check_eachX rfl (fun _ _ _ _ _ _ us hl => match us, hl with | [_, _, _], _ => rfl) (fun vs H Q E h => by obtain ⟨_, _, _, _, rfl, _⟩ := h; rfl) (fun cdv A outer s H vs Q E hcd hcode hr h => ?_)
  have tk : Takes (CxD P w K mg base ["keys", "most", "belongs", "at", "key"] d_check_each cdv A outer s H E) (fun cls d _ H => E cls d H) := takes_of rfl rfl rfl rfl
  have po : PassesOwn (model P w) (CxD P w K mg base ["keys", "most", "belongs", "at", "key"] d_check_each cdv A outer s H E).A (CxD P w K mg base ["keys", "most", "belongs", "at", "key"] d_check_each cdv A outer s H E).env (CxD P w K mg base ["keys", "most", "belongs", "at", "key"] d_check_each cdv A outer s H E).xe := passes_of rfl
  refine ⟨_, (pss_one (ps_for po rfl (pi_enumT (by rfl) T.n_enumerate (pa_cons (pv 0) pa_nil)) (pg_tup rfl (pgs_cons (pg_name (i := 3) sc_check_eachX.nd rfl (.inl rfl)) (pgs_cons (pg_name (i := 4) sc_check_eachX.nd rfl (.inl rfl)) pgs_nil))) (pss_one (ps_if ((pw_or (pt_cmpR op_ge (pv 3) (pv 1) (nomark _)) (pw_or1 (pt_not (pt_val (pe_callV (i := 2) hr px (pa_cons (pv 4) pa_nil))))))).pt (pss_one (ps_raise rfl tk (pmk_BadKeys T hP rfl (hr.mono (by decide)) (pa_cons (pv 3) pa_nil)))) pss_nil)))), ?_⟩
  obtain ⟨a, as, xss, m, rfl, ha, hk, hok, h1000, hT, kQ, kE⟩ := h
  refine ⟨_, rfl, a, _, rfl, ha, ?_⟩
  refine for_enumT (K := K) (a := a) (xs := as.map V.ref) (fun i σ H' => Kq [] H H' ∧ (∀ j (h : j < xss.length), j < i → j < m ∧ okB xss[j] = true) ∧ ∃ v1 v2, σ = [some (.ref a), some (.int (m : Nat)), some (.ref fB), v1, v2]) ⟨Kq.refl, (fun j _ h => by omega), none, none, rfl⟩ (fun i σ H' z => z.1.tup ha) ?_ ?_
  · rintro i x Tq σ H' hx ⟨k1, hj, v1, v2, rfl⟩ nT
    have hi : i < as.length := by
      have := (List.getElem?_eq_some_iff.mp hx).1
      rwa [List.length_map] at this
    have hl := hk.len
    have hik : i < xss.length := by omega
    rw [List.getElem?_map, List.getElem?_eq_getElem hi] at hx
    cases hx
    have kT : Kq [] H' (upd H' Tq (.tup [.int (i : Nat), .ref as[i]])) := Kq.alloc nT
    have k2 := k1.trans kT
    have hki := (hk.kq k2).at_ hi hik
    have kok := hok _ (List.getElem_mem hik)
    have bad : ∀ (H3 : Hp), Kq [] H H3 → ¬ (i < m ∧ okB xss[i] = true) → ∀ d, H3 d = none → E (.ref (He.ga K "BadKeys")) (some d) (upd H3 d (.xd [("at", .int (i : Nat))])) := fun H3 k3 hn d nd => kE i hik (fun j hji => hj j (by omega) hji) hn d H3 k3 nd
    have small : ((i : Nat) : Int).natAbs.log2 < 1920 ∧ (("no key for a tape at " : Str) ++ toString ((i : Nat) : Int)).length ≤ sizeLine := num_small (by omega)
    refine ⟨Tq, _, rfl, SqT.of upd_same, rfl, _, _, rfl, _, _, rfl, rfl, ?_⟩
    refine ⟨_, rfl, _, rfl, _, _, rfl, rfl, _, rfl, iteD (fun h => ?_) (fun hlt => ?_)⟩
    · refine ⟨_, rfl, mk_sup rfl small.1 small.2 fun d nd => bad _ k2 (by omega) d nd⟩
    · refine ⟨_, _, _, rfl, FB, _, rfl, as[i], xss[i], rfl, hki, kok, k2.tab _ hT, fun H3 k3 => ⟨_, rfl, ?_⟩⟩
      cases hb : okB xss[i] with
      | true => exact iteF ⟨k2.trans k3, (fun j h hji => by
          by_cases e : j = i
          · subst e; exact ⟨by omega, hb⟩
          · exact hj j h (by omega)), _, _, rfl⟩
      | false =>
        refine iteT ⟨_, rfl, mk_sup rfl small.1 small.2 fun d nd => bad _ (k2.trans k3) (by rw [hb]; simp) d nd⟩
  · rintro σ H' ⟨k1, hj, v1, v2, rfl⟩
    refine kQ (fun i h => hj i h ?_) H' k1
    rw [List.length_map, hk.len]; exact h
theorem bel_key (T : Tx w K mg) (B : TabB base mg (cS K) (tS K)) : Fk P w K mg base 3 (Ad K d_is_key.at_) ["key"] (sp_bel K (keyB actB)) := by
  have F := ok_is_key (P := P) (base := base) T B
  refine ⟨F.ok.imp fun vs H Q E h => ?_, F.b, F.kp⟩
  obtain ⟨a, xs, rfl, ha, ⟨hs, hact⟩, hT, kQ⟩ := h
  exact ⟨a, xs, actB, rfl, ha, hs, hT, hact, kQ⟩
/-- what is told of words that stand alone -/
theorem Tx.noAct (T : Tx w K mg) {z : Str} (h : z ∈ noWords) : ActIs K (.str z) false :=
  .inl ⟨z, none, rfl, He.eqO_ok (List.all_eq_true.mp T.noActs z h), rfl⟩
/-- any word that stands alone -/
theorem Tx.anyAct (T : Tx w K mg) (z : Str) : ActIs K (.str z) (actB (.str z)) := by
  obtain ⟨r, h1, h2⟩ := keysAre_ok T.keysAre z
  exact .inl ⟨z, r, rfl, h1, h2.symm⟩
theorem act_num {i : Int} : ActIs K (.int i) false := .inr ⟨i, rfl, rfl⟩
end
end KT
set_option Elab.async false
set_option linter.all false
set_option maxRecDepth 100000
set_option maxHeartbeats 4000000
namespace KT
open PySem PySem.Spec PyProof.Rows L2 GxR
variable [GT]
/-! ### tuples of words as they are read: a text of any length, a number, or None -/
def smallN : V → Prop
  | .str z => z.length ≤ 1000000
  | .int _ => True
  | .non => True
  | _ => False
theorem smallN_of {v : V} (h : smallV v) : smallN v := by
  cases v with
  | str z => exact Nat.le_trans (show z.length ≤ 1000 from h) (by decide)
  | int i => trivial
  | _ => exact h.elim
theorem flatS_smallN {v : V} (h : smallN v) : flatS v = true := by
  cases v <;> first | rfl | exact h.elim
theorem flatV_smallN {v : V} (h : smallN v) : flatV v = true := by
  cases v <;> first | rfl | exact h.elim
theorem smallN_noB {v : V} (h : smallN v) : ∀ b, v ≠ .bl b := by
  rintro b rfl
  exact h.elim
section
variable {P : Program} {w : World} {K : PySem.W.Frag} {mg : Str → Option Value} {base : Heap}
def sp_is_wordN (K : PySem.W.Frag) : Sp := fun vs H Q _ => ∃ v n, vs = [v, .int (n : Nat)] ∧ smallN v ∧ TabG H (tS K) ∧ ∀ H', Kq [] H H' → Q (.bl (wordB n v)) H'
theorem sc_is_wordN : FnScope ["word", "longest"] ["word", "longest"] (defScope s_is_word) := ⟨rfl, rfl, rfl, by decide +kernel, rfl, by decide +kernel, by decide +kernel⟩
theorem ok_is_wordN (T : Tx w K mg) (B : TabB base mg (cS K) (tS K)) : Fk P w K mg base 2 (Ad K d_is_word.at_) ["word", "longest"] (sp_is_wordN K) := by
  have F_are_signs := ok_are_signs (P := P) (base := base) T B
  refine mkF T.f_is_word sc_is_wordN rfl (fun _ _ _ _ _ _ us hl => match us, hl with | [_, _], _ => rfl) (fun vs H Q E h => by obtain ⟨_, _, rfl, _⟩ := h; rfl) (fun cdv A outer s H vs Q E hcd hcode hr h => ?_)
  refine ⟨_, (pss_one (ps_ret (pe_and (pe_callB call_isi (by rfl) T.n_isinstance (by decide +kernel) (pa_cons (pv 0) (pa_cons (pe_bltn (v := .ty "str") (by rfl) T.n_str (by decide +kernel) rfl) pa_nil))) (pe_and (pe_chain op_le op_le pe_int (pe_callB call_len_str (by rfl) T.n_len (by decide +kernel) (pa_cons (pv 0) pa_nil)) (pv 1)) (pe_one (pe_cF F_are_signs (hr.mono (by decide)) T.g_are_signs px (pa_cons (pv 0) pa_nil))))))), ?_⟩
  obtain ⟨v, n, rfl, hs, hT, k⟩ := h
  cases v with
  | str z =>
    have hz : z.length ≤ 1000000 := hs
    refine ⟨_, rfl, _, _, _, _, true, rfl, .ty _, .base (.str _), kit_ty (by decide +kernel), _, rfl, iteT ?_⟩
    refine ⟨_, rfl, _, rfl, line16 (by omega), _, _, rfl, rfl, _, rfl, iteD (fun h1 => ?_) (fun h1 => ?_)⟩
    · refine ⟨_, rfl, _, _, rfl, rfl, _, rfl, iteD (fun h2 => ?_) (fun h2 => ?_)⟩
      · refine ⟨_, rfl, z.cps.toList, by rw [show S z.cps.toList = z from S_tl z], hT, fun H' k' => ?_⟩
        have e : wordB n (.str z) = z.cps.toList.all signB := by
          show (decide (1 ≤ z.length) && (decide (z.length ≤ n) && z.cps.toList.all signB)) = _
          rw [decide_eq_true (by omega), decide_eq_true (by omega)]; rfl
        rw [← e]
        exact k H' k'
      · have e : wordB n (.str z) = false := by
          show (decide (1 ≤ z.length) && (decide (z.length ≤ n) && z.cps.toList.all signB)) = _
          rw [decide_eq_false (show ¬ z.length ≤ n by omega)]; simp
        rw [← e]
        exact k H Kq.refl
    · refine ⟨_, rfl, iteF ?_⟩
      have e : wordB n (.str z) = false := by
        show (decide (1 ≤ z.length) && (decide (z.length ≤ n) && z.cps.toList.all signB)) = _
        rw [decide_eq_false (show ¬ 1 ≤ z.length by omega)]; simp
      rw [← e]
      exact k H Kq.refl
  | int i =>
    exact ⟨_, rfl, _, _, _, _, false, rfl, .ty _, .base (.int _), kit_ty (by decide +kernel), _, rfl, iteF (k H Kq.refl)⟩
  | non =>
    exact ⟨_, rfl, _, _, _, _, false, rfl, .ty _, .base .non, kit_ty (by decide +kernel), _, rfl, iteF (k H Kq.refl)⟩
  | _ => exact hs.elim
def sp_is_keyN (K : PySem.W.Frag) : Sp := fun vs H Q _ => ∃ a xs, vs = [.ref a] ∧ SqT K H a xs ∧ (∀ x ∈ xs, smallN x) ∧ TabG H (tS K) ∧ (∀ k, xs = [k] → ActIs K k (actB k)) ∧ ∀ H', Kq [] H H' → Q (.bl (keyB actB xs)) H'
theorem sc_is_keyN : FnScope ["key", "sign", "word", "name", "many", "kind"] ["key"] (defScope s_is_key) := ⟨rfl, rfl, rfl, by decide +kernel, rfl, by decide +kernel, by decide +kernel⟩
theorem ok_is_keyN (T : Tx w K mg) (B : TabB base mg (cS K) (tS K)) : Fk P w K mg base 3 (Ad K d_is_key.at_) ["key"] (sp_is_keyN K) := by
  obtain ⟨t_LONGEST_WORD, h_LONGEST_WORD⟩ := T.i_LONGEST_WORD
  obtain ⟨t_MOST_TIMES, h_MOST_TIMES⟩ := T.i_MOST_TIMES
  have F_is_number := ok_is_number (P := P) (base := base) T
  have F_is_word := ok_is_wordN (P := P) (base := base) T B
  refine mkF T.f_is_key sc_is_keyN rfl (fun _ _ _ _ _ _ us hl => match us, hl with | [_], _ => rfl) (fun vs H Q E h => by obtain ⟨_, _, rfl, _⟩ := h; rfl) (fun cdv A outer s H vs Q E hcd hcode hr h => ?_)
  obtain ⟨_, _, DA⟩ := T.tab
  refine ⟨_, (pss_cons (ps_if (pt_not (pt_val (pe_callB call_isi (by rfl) T.n_isinstance (by decide +kernel) (pa_cons (pv 0) (pa_cons (pe_bltn (v := .ty "tuple") (by rfl) T.n_tuple (by decide +kernel) rfl) pa_nil))))) (pss_one (ps_ret pe_bl)) pss_nil)
      (pss_one (ps_match rfl sc_is_keyN.nd (pv 0) (.seq (.lit (.cap (i := 1) rfl (.inl rfl) (.inl rfl) .nil)) (pss_one (ps_ret (pe_cF F_is_word (hr.mono (by decide)) T.g_is_word px (pa_cons (pv 1) (pa_cons pe_int pa_nil))))) (.seq (.lit (.cap (i := 2) rfl (.inl rfl) (.inl rfl) .nil)) (pss_one (ps_ret (pe_cF F_is_word (hr.mono (by decide)) T.g_is_word px (pa_cons (pv 2) (pa_cons (pe_glob (v := .int 4) (by rfl) h_LONGEST_WORD ⟨_, rfl⟩) pa_nil))))) (.seq (.lit (.cap (i := 3) rfl (.inl rfl) (.inl rfl) (.cap (i := 4) rfl (.inl rfl) (.inl rfl) .nil))) (pss_one (ps_ret (pe_and (pe_cmpR op_in_seq (pv 3) (pe_glob (v := .ref (He.ga K "NAMES")) (by rfl) T.g_NAMES rfl) (by rfl)) (pe_one (pe_cF F_is_number (hr.mono (by decide)) T.g_is_number px (pa_cons (pv 4) (pa_cons pe_int (pa_cons (pe_glob (v := .int 9) (by rfl) h_MOST_TIMES ⟨_, rfl⟩) pa_nil)))))))) (.seq (.lit (.cap (i := 3) rfl (.inl rfl) (.inl rfl) .nil)) (pss_one (ps_ret (pe_cmpR op_in_seq (pv 3) (pe_glob (v := .ref (He.ga K "NAMES")) (by rfl) T.g_NAMES rfl) (by rfl)))) (.seq (.cap (i := 5) rfl (.inl rfl) (.inl rfl) .nil) (pss_one (ps_ret (pe_cmpR (op_in_kdX DA) (pv 5) (pe_glob (v := .ref (He.ga K "ACTIONS")) (by rfl) T.g_ACTIONS rfl) (by rfl)))) (.any (pss_one (ps_ret pe_bl))))))))))), ?_⟩
  obtain ⟨a, xs, rfl, ht, hs, hT, hact, k⟩ := h
  refine ⟨_, rfl, _, _, _, _, true, rfl, .ty _, tyx_tup ht, kit_ty (by decide +kernel), _, rfl, iteF ?_⟩
  refine ⟨_, rfl, a, xs, rfl, ht, fun x hx => flatS_smallN (hs x hx), ?_⟩
  have k0 : ∀ b, keyB actB xs = b → ∀ H', Kq [] H H' → Q (.bl b) H' := fun b e H' k' => e ▸ k H' k'
  match xs, ht, hs, hact, k0 with
  | [], _, _, _, k0 => exact k0 false rfl H Kq.refl
  | [x0], _, hs, hact, k0 =>
    rcases hact x0 rfl with ⟨z, r, e1, e2, e3⟩ | ⟨i, e1, e3⟩
    · subst e1
      exact ⟨_, rfl, rfl, .inl ⟨z, r, rfl, e2, k0 _ e3 H Kq.refl⟩⟩
    · subst e1
      exact ⟨_, rfl, rfl, .inr ⟨i, rfl, k0 _ e3 H Kq.refl⟩⟩
  | [x0, x1], _, hs, _, k0 =>
    have h1 : smallN x1 := hs x1 (by simp)
    refine ite_lit2 (fun e => ?_) (fun n1 => ite_lit2 (fun e => ?_) (fun n2 => ite_lit2 (fun e => ?_) (fun n3 => ?_)))
    · exact ⟨_, rfl, x1, 1, rfl, h1, hT, fun H' k' => k0 _ (by show (if x0 = .str "put" then _ else _) = _; rw [if_pos e]) H' k'⟩
    · exact ⟨_, rfl, x1, 4, rfl, h1, hT, fun H' k' => k0 _ (by show (if x0 = .str "put" then _ else if x0 = .str "find" then _ else _) = _; rw [if_neg n1, if_pos e]) H' k'⟩
    · exact ⟨_, rfl, _, _, rfl, .inr (T.names H), flatV_smallN h1, by decide +kernel, k0 _ (by show (if x0 = .str "put" then _ else if x0 = .str "find" then _ else if x0 = .str "till" then _ else _) = _; rw [if_neg n1, if_neg n2, if_pos e]; rfl) H Kq.refl⟩
    · exact k0 false (by show (if x0 = .str "put" then _ else if x0 = .str "find" then _ else if x0 = .str "till" then _ else _) = _; rw [if_neg n1, if_neg n2, if_neg n3]) H Kq.refl
  | [x0, x1, x2], _, hs, _, k0 =>
    have h1 : smallN x1 := hs x1 (by simp)
    have h2 : smallN x2 := hs x2 (by simp)
    refine ite_lit3 (fun e => ?_) (fun n1 => ?_)
    · refine ⟨_, rfl, _, _, rfl, .inr (T.names H), flatV_smallN h1, by decide +kernel, ?_⟩
      have e0 : keyB actB [x0, x1, x2] = (nameB x1 && timesB x2) := by show (if x0 = .str "play" then _ else _) = _; rw [if_pos e]
      cases hn : inV x1 namesV with
      | true => exact ⟨_, rfl, iteT ⟨_, rfl, x2, 1, 9, rfl, flatV_smallN h2, smallN_noB h2, k0 _ (e0.trans (by show (inV x1 namesV && timesB x2) = _; rw [hn, numB_times]; rfl)) H Kq.refl⟩⟩
      | false => exact ⟨_, rfl, iteF (k0 _ (e0.trans (by show (inV x1 namesV && timesB x2) = _; rw [hn]; rfl)) H Kq.refl)⟩
    · exact k0 false (by show (if x0 = .str "play" then _ else _) = _; rw [if_neg n1]) H Kq.refl
  | _ :: _ :: _ :: _ :: _, _, _, _, k0 => exact k0 false rfl H Kq.refl
end
/-! ### what is a key, is one -/
theorem wordB_put {n : Nat} {v : V} (h : wordB n v = true) : ∃ l : Ln, v = .str (S l) ∧ 1 ≤ l.length ∧ l.length ≤ n ∧ ∀ c ∈ l, okSign c := by
  cases v with
  | str z =>
    have h : (decide (1 ≤ z.length) && (decide (z.length ≤ n) && z.cps.toList.all signB)) = true := h
    simp only [Bool.and_eq_true, decide_eq_true_eq, List.all_eq_true] at h
    obtain ⟨h1, h2, h3⟩ := h
    have e : z.length = z.cps.toList.length := by simp [Str.length]
    refine ⟨z.cps.toList, by rw [show S z.cps.toList = z from S_tl z], by omega, by omega, fun c hc => ?_⟩
    have := h3 c hc
    rw [signB_eq] at this
    exact of_decide_eq_true this
  | _ => cases h
theorem nameB_name {v : V} (h : nameB v = true) : ∃ n, n < 8 ∧ v = .str (nameS n) := by
  obtain ⟨y, hy, e⟩ := List.any_eq_true.mp (show namesV.any (fun y => eqV y v) = true from h)
  have key : ∀ z : Str, eqV (.str z) v = true → v = .str z := fun z h => by
    cases v with
    | str u =>
      have h : (z == u) = true := h
      rw [beq_iff_eq.mp h]
    | _ => cases h
  simp only [namesV, List.mem_cons, List.not_mem_nil, or_false] at hy
  rcases hy with rfl | rfl | rfl | rfl | rfl | rfl | rfl | rfl
  · exact ⟨0, by decide, by rw [key _ e]; rfl⟩
  · exact ⟨1, by decide, by rw [key _ e]; rfl⟩
  · exact ⟨2, by decide, by rw [key _ e]; rfl⟩
  · exact ⟨3, by decide, by rw [key _ e]; rfl⟩
  · exact ⟨4, by decide, by rw [key _ e]; rfl⟩
  · exact ⟨5, by decide, by rw [key _ e]; rfl⟩
  · exact ⟨6, by decide, by rw [key _ e]; rfl⟩
  · exact ⟨7, by decide, by rw [key _ e]; rfl⟩
theorem actB_ky {v : V} (h : actB v = true) : ∃ k : Ky, k.Ok ∧ k.single = true ∧ [v] = keyV k := by
  cases v with
  | str z =>
    have h : actWords.contains z = true := h
    have hm : z ∈ actWords := by simpa using h
    simp only [actWords, List.mem_cons, List.not_mem_nil, or_false] at hm
    rcases hm with rfl | rfl | rfl | rfl | rfl | rfl | rfl | rfl | rfl | rfl
    · exact ⟨.brk, trivial, rfl, rfl⟩
    · exact ⟨.rub, trivial, rfl, rfl⟩
    · exact ⟨.left, trivial, rfl, rfl⟩
    · exact ⟨.right, trivial, rfl, rfl⟩
    · exact ⟨.up, trivial, rfl, rfl⟩
    · exact ⟨.down, trivial, rfl, rfl⟩
    · exact ⟨.home, trivial, rfl, rfl⟩
    · exact ⟨.end_, trivial, rfl, rfl⟩
    · exact ⟨.take, trivial, rfl, rfl⟩
    · exact ⟨.lay, trivial, rfl, rfl⟩
  | _ => cases h
theorem keyB_ky {xs : List V} (h : keyB actB xs = true) : ∃ k : Ky, k.Ok ∧ xs = keyV k := by
  match xs, h with
  | [], h => cases h
  | [v], h =>
    obtain ⟨k, h1, _, h2⟩ := actB_ky h
    exact ⟨k, h1, h2⟩
  | [k, x], h =>
    have h : (if k = .str "put" then wordB 1 x else if k = .str "find" then wordB 4 x else if k = .str "till" then nameB x else false) = true := h
    split at h
    · rename_i e
      obtain ⟨l, e1, h1, h2, h3⟩ := wordB_put h
      exact ⟨.put l, ⟨by omega, h3⟩, by rw [e, e1]; rfl⟩
    · split at h
      · rename_i e
        obtain ⟨l, e1, h1, h2, h3⟩ := wordB_put h
        exact ⟨.find l, ⟨h1, h2, h3⟩, by rw [e, e1]; rfl⟩
      · split at h
        · rename_i e
          obtain ⟨n, hn, e1⟩ := nameB_name h
          exact ⟨.till n, hn, by rw [e, e1]; rfl⟩
        · cases h
  | [k, x, m], h =>
    have h : (if k = .str "play" then nameB x && timesB m else false) = true := h
    split at h
    · rename_i e
      simp only [Bool.and_eq_true] at h
      obtain ⟨n, hn, e1⟩ := nameB_name h.1
      have h2 := h.2
      cases m with
      | int i =>
        have h2 : (decide (1 ≤ i) && decide (i ≤ 9)) = true := h2
        simp only [Bool.and_eq_true, decide_eq_true_eq] at h2
        refine ⟨.play n i.toNat, ⟨hn, by omega, by omega⟩, ?_⟩
        rw [e, e1]
        show _ = ([.str "play", .str (nameS n), .int ((i.toNat : Nat) : Int)] : List V)
        rw [show ((i.toNat : Nat) : Int) = i by omega]
      | _ => cases h2
    · cases h
  | _ :: _ :: _ :: _ :: _, h => cases h
end KT
set_option Elab.async false
set_option linter.all false
set_option maxRecDepth 100000
set_option maxHeartbeats 4000000
/-! signs as words, and back -/
namespace KT
open PySem PySem.StrLaws
def qc (c : Nat) : Ln := if c = 126 then [126, 126] else if c = 32 then [126, 95] else [c]
def quote (l : Ln) : Ln := l.flatMap qc
/-- what the words' signs stand for, read from the left -/
def lu : Ln → Option Ln
  | [] => some []
  | [c] => if c = 126 then none else some [c]
  | c :: d :: r => if c = 126 then (if d = 126 then (lu r).map (126 :: ·) else if d = 95 then (lu r).map (32 :: ·) else none) else (lu (d :: r)).map (c :: ·)
def partsQ (w : Ln) : List Ln := (TL.spl [126, 126] 0 [] w).map (replL [126, 95] [32])
/-- the same by cutting and putting in -/
def unq (w : Ln) : Option Ln := if 126 ∈ TL.joinL [] (partsQ w) then none else some (TL.joinL [126] (partsQ w))
theorem repl1_hit (y : Nat) (z r : Ln) : replL [y] z (y :: r) = z ++ replL [y] z r := replL_hit (by simp) rfl
theorem repl1_miss {y c : Nat} (z r : Ln) (h : c ≠ y) : replL [y] z (c :: r) = c :: replL [y] z r := replL_miss (by
  intro e
  apply h
  have : [c] = [y] := e
  exact List.head_eq_of_cons_eq this)
theorem repl_quote : ∀ l : Ln, replL [32] [126, 95] (replL [126] [126, 126] l) = quote l
  | [] => by rw [replL_nil, replL_nil]; rfl
  | c :: r => by
    have ih := repl_quote r
    by_cases h1 : c = 126
    · subst h1
      rw [repl1_hit]
      show replL [32] [126, 95] (126 :: 126 :: replL [126] [126, 126] r) = _
      rw [repl1_miss _ _ (by decide), repl1_miss _ _ (by decide), ih]
      rfl
    · rw [repl1_miss _ _ h1]
      by_cases h2 : c = 32
      · subst h2
        rw [repl1_hit, ih]
        rfl
      · rw [repl1_miss _ _ h2, ih]
        unfold quote
        rw [List.flatMap_cons]
        unfold qc
        rw [if_neg h1, if_neg h2]
        rfl
theorem joinL_nil : ∀ ps : List Ln, TL.joinL [] ps = ps.flatten
  | [] => rfl
  | [p] => by simp [TL.joinL]
  | p :: q :: r => by
    show p ++ ([] ++ TL.joinL [] (q :: r)) = _
    rw [joinL_nil (q :: r)]
    simp
theorem joinL_cons (S p : Ln) {ps : List Ln} (h : ps ≠ []) : TL.joinL S (p :: ps) = p ++ (S ++ TL.joinL S ps) := by
  cases ps with
  | nil => exact absurd rfl h
  | cons q r => rfl
theorem joinL_head (S : Ln) (c : Nat) (p : Ln) (ps : List Ln) : TL.joinL S ((c :: p) :: ps) = c :: TL.joinL S (p :: ps) := by
  cases ps <;> rfl
theorem spl_ne (S : Ln) : ∀ (l : Ln) (k : Nat) (acc : Ln), TL.spl S k acc l ≠ []
  | [], k, acc => by rw [TL.spl_nil]; simp
  | c :: r, 0, acc => by
    cases h : TL.pre S (c :: r) with
    | true => rw [TL.spl_hit h]; simp
    | false => rw [TL.spl_miss h]; exact spl_ne S r 0 _
  | c :: r, k + 1, acc => spl_ne S r k acc
theorem spl_acc (S : Ln) : ∀ (l : Ln) (k : Nat), ∃ p ps, ∀ acc, TL.spl S k acc l = (acc ++ p) :: ps
  | [], k => ⟨[], [], fun acc => by rw [TL.spl_nil, List.append_nil]⟩
  | c :: r, 0 => by
    cases h : TL.pre S (c :: r) with
    | true => exact ⟨[], _, fun acc => by rw [TL.spl_hit h, List.append_nil]⟩
    | false =>
      obtain ⟨p, ps, e⟩ := spl_acc S r 0
      exact ⟨c :: p, ps, fun acc => by rw [TL.spl_miss h, e, List.append_assoc]; rfl⟩
  | c :: r, k + 1 => spl_acc S r k
theorem pre2 (c d : Nat) (r : Ln) : TL.pre [126, 126] (c :: d :: r) = decide (c = 126 ∧ d = 126) := by
  unfold TL.pre
  by_cases h : c = 126 ∧ d = 126
  · obtain ⟨rfl, rfl⟩ := h
    rfl
  · rw [decide_eq_false h]
    refine beq_eq_false_iff_ne.mpr fun e => h ?_
    have e : [c, d] = [126, 126] := e
    simp at e
    exact e
theorem pre2_one (c : Nat) : TL.pre [126, 126] [c] = false := beq_eq_false_iff_ne.mpr fun e => by
  have e : [c] = [126, 126] := e
  simp at e
theorem rep2_hit (r : Ln) : replL [126, 95] [32] (126 :: 95 :: r) = 32 :: replL [126, 95] [32] r := replL_hit (by simp) rfl
theorem rep2_miss {c : Nat} (r : Ln) (h : c ≠ 126) : replL [126, 95] [32] (c :: r) = c :: replL [126, 95] [32] r := replL_miss (by
  intro e
  cases r with
  | nil => have e : [c] = [126, 95] := e; simp at e
  | cons d r => have e : [c, d] = [126, 95] := e; simp at e; exact h e.1)
theorem rep2_miss2 {d : Nat} (r : Ln) (h : d ≠ 95) : replL [126, 95] [32] (126 :: d :: r) = 126 :: replL [126, 95] [32] (d :: r) := replL_miss (by
  intro e
  have e : [126, d] = [126, 95] := e
  simp at e; exact h e)
theorem unq_cons {c z : Nat} {l r : Ln} (hz : z ≠ 126) (h : ∀ p ps, TL.spl [126, 126] 0 [] r = p :: ps → ∃ p', TL.spl [126, 126] 0 [] l = p' :: ps ∧ replL [126, 95] [32] p' = z :: replL [126, 95] [32] p) : unq l = (unq r).map (z :: ·) := by
  obtain ⟨p, ps, e⟩ : ∃ p ps, TL.spl [126, 126] 0 [] r = p :: ps := by
    cases hh : TL.spl [126, 126] 0 [] r with
    | nil => exact absurd hh (spl_ne _ _ _ _)
    | cons p ps => exact ⟨p, ps, rfl⟩
  obtain ⟨p', e', er⟩ := h p ps e
  unfold unq partsQ
  rw [e, e', List.map_cons, List.map_cons, er, joinL_head, joinL_head]
  by_cases hm : 126 ∈ TL.joinL [] (replL [126, 95] [32] p :: ps.map (replL [126, 95] [32]))
  · rw [if_pos hm, if_pos (List.mem_cons_of_mem _ hm)]; rfl
  · rw [if_neg hm, if_neg (by
      intro z'
      rcases List.mem_cons.mp z' with y | y
      · exact hz y.symm
      · exact hm y)]; rfl
theorem unq_lu : ∀ l : Ln, unq l = lu l
  | [] => by
    unfold unq partsQ
    rw [TL.spl_nil]
    simp only [List.map_cons, List.map_nil, replL_nil]
    rfl
  | [c] => by
    have e : TL.spl [126, 126] 0 [] [c] = [[c]] := by rw [TL.spl_miss (pre2_one c), TL.spl_nil]; rfl
    unfold unq partsQ
    rw [e]
    by_cases h : c = 126
    · subst h
      rfl
    · have e2 : replL [126, 95] [32] [c] = [c] := by rw [rep2_miss _ h, replL_nil]
      simp only [List.map_cons, List.map_nil, e2]
      show (if 126 ∈ [c] then none else some [c]) = lu [c]
      rw [if_neg (by simp; exact fun z => h z.symm)]
      unfold lu
      rw [if_neg h]
  | c :: d :: r => by
    by_cases h : c = 126
    · subst h
      by_cases h2 : d = 126
      · subst h2
        have e : TL.spl [126, 126] 0 [] (126 :: 126 :: r) = [] :: TL.spl [126, 126] 0 [] r := by
          rw [TL.spl_hit (by rw [pre2]; rfl)]
          show [] :: TL.spl [126, 126] 1 [] (126 :: r) = _
          rw [TL.spl_pass]; rfl
        have ih := unq_lu r
        show _ = (lu r).map (126 :: ·)
        rw [← ih]
        unfold unq partsQ
        rw [e, List.map_cons, replL_nil]
        have hne : (TL.spl [126, 126] 0 [] r).map (replL [126, 95] [32]) ≠ [] := by
          intro z
          exact spl_ne _ _ _ _ (List.map_eq_nil_iff.mp z)
        rw [joinL_cons _ _ hne, joinL_cons _ _ hne, List.nil_append, List.nil_append, List.nil_append]
        by_cases hm : 126 ∈ TL.joinL [] ((TL.spl [126, 126] 0 [] r).map (replL [126, 95] [32]))
        · rw [if_pos hm, if_pos hm]; rfl
        · rw [if_neg hm, if_neg hm]; rfl
      · by_cases h3 : d = 95
        · subst h3
          show _ = (lu r).map (32 :: ·)
          rw [← unq_lu r]
          refine unq_cons (c := 126) (by decide) fun p ps e => ⟨126 :: 95 :: p, ?_, rep2_hit p⟩
          rw [TL.spl_miss (by rw [pre2]; rfl)]
          have : TL.pre [126, 126] (95 :: r) = false := by
            cases r with
            | nil => rfl
            | cons x r => rw [pre2]; rfl
          rw [TL.spl_miss this]
          obtain ⟨q, qs, eq⟩ := spl_acc [126, 126] r 0
          have e0 := eq []
          rw [e] at e0
          injection e0 with e1 e2
          rw [eq, e1, e2]
          rfl
        · have hl : lu (126 :: d :: r) = none := by
            unfold lu
            rw [if_pos rfl, if_neg h2, if_neg h3]
          rw [hl]
          obtain ⟨q, qs, eq⟩ := spl_acc [126, 126] (d :: r) 0
          have e : TL.spl [126, 126] 0 [] (126 :: d :: r) = (126 :: q) :: qs := by
            rw [TL.spl_miss (by rw [pre2]; exact decide_eq_false (fun z => h2 z.2)), eq]; rfl
          have hq : replL [126, 95] [32] (126 :: q) = 126 :: replL [126, 95] [32] q := by
            cases q with
            | nil => rfl
            | cons x q =>
              have hx : x = d := by
                cases hp : TL.pre [126, 126] (d :: r) with
                | true =>
                  have := eq []
                  rw [TL.spl_hit hp] at this
                  injection this with a b
                  cases a
                | false =>
                  have := eq []
                  rw [TL.spl_miss hp] at this
                  obtain ⟨q2, qs2, eq2⟩ := spl_acc [126, 126] r 0
                  rw [eq2] at this
                  injection this with a b
                  simp at a
                  exact a.1.symm
              subst hx
              exact rep2_miss2 q h3
          unfold unq partsQ
          rw [e, List.map_cons, hq, joinL_head, if_pos (by simp)]
    · have hl : lu (c :: d :: r) = (lu (d :: r)).map (c :: ·) := by
        show (if c = 126 then _ else _) = _
        rw [if_neg h]
      rw [hl, ← unq_lu (d :: r)]
      refine unq_cons (c := c) h fun p ps e => ⟨c :: p, ?_, rep2_miss p h⟩
      rw [TL.spl_miss (by rw [pre2]; exact decide_eq_false (fun z => h z.1))]
      obtain ⟨q, qs, eq⟩ := spl_acc [126, 126] (d :: r) 0
      have e0 := eq []
      rw [e] at e0
      injection e0 with e1 e2
      rw [eq, e1, e2]
      rfl
theorem lu_quote : ∀ l : Ln, lu (quote l) = some l
  | [] => rfl
  | c :: r => by
    have ih := lu_quote r
    have e : quote (c :: r) = qc c ++ quote r := by unfold quote; rw [List.flatMap_cons]
    rw [e]
    unfold qc
    by_cases h1 : c = 126
    · subst h1
      rw [if_pos rfl]
      show (lu (quote r)).map (126 :: ·) = _
      rw [ih]; rfl
    · rw [if_neg h1]
      by_cases h2 : c = 32
      · subst h2
        rw [if_pos rfl]
        show (lu (quote r)).map (32 :: ·) = _
        rw [ih]; rfl
      · rw [if_neg h2]
        cases hq : quote r with
        | nil =>
          rw [hq] at ih
          show (if c = 126 then none else some [c]) = _
          rw [if_neg h1]
          have : r = [] := by
            have : some ([] : Ln) = some r := ih
            injection this with z
            exact z.symm
          rw [this]
        | cons x q =>
          rw [hq] at ih
          show (if c = 126 then _ else (lu (x :: q)).map (c :: ·)) = _
          rw [if_neg h1, ih]; rfl
theorem quote_no (l : Ln) : 32 ∉ quote l ∧ (10 ∉ l → 10 ∉ quote l) := by
  constructor
  · intro h
    obtain ⟨c, hc, hm⟩ := List.mem_flatMap.mp h
    unfold qc at hm
    split at hm
    · simp at hm
    · split at hm
      · simp at hm
      · rename_i z
        simp at hm
        exact z hm.symm
  · intro hn h
    obtain ⟨c, hc, hm⟩ := List.mem_flatMap.mp h
    unfold qc at hm
    split at hm
    · simp at hm
    · split at hm
      · simp at hm
      · simp at hm
        exact hn (hm ▸ hc)
theorem quote_len : ∀ l : Ln, (quote l).length ≤ 2 * l.length
  | [] => Nat.le_refl _
  | c :: r => by
    have ih := quote_len r
    have e : quote (c :: r) = qc c ++ quote r := by unfold quote; rw [List.flatMap_cons]
    rw [e, List.length_append, List.length_cons]
    have : (qc c).length ≤ 2 := by
      unfold qc
      split
      · decide
      · split <;> simp
    omega
end KT
set_option Elab.async false
set_option linter.all false
set_option maxRecDepth 100000
set_option maxHeartbeats 4000000
namespace KT
open PySem PySem.Spec PyProof.Rows L2
variable [GT]
/-! ### texts of tapes -/
abbrev Tps := List (Nat × List Ky)
def strV : V → Str
  | .str z => z
  | .int i => (toString i : String)
  | _ => ""
/-- the words of a key -/
def wordsS : Ky → List Str
  | .put s => ["put", S (quote s)]
  | .find s => ["find", S (quote s)]
  | k => (keyV k).map strV
def withV : List V := [.str "put", .str "find"]
theorem words_head (ky : Ky) : ∃ z : Str, (keyV ky)[0]? = some (.str z) ∧ ((inV (.str z) withV = true ∧ ∃ s, keyV ky = [.str z, .str (S s)] ∧ wordsS ky = [z, S (quote s)]) ∨ (inV (.str z) withV = false ∧ wordsS ky = (keyV ky).map strV)) := by
  cases ky with
  | put s => exact ⟨_, rfl, .inl ⟨by decide +kernel, s, rfl, rfl⟩⟩
  | find s => exact ⟨_, rfl, .inl ⟨by decide +kernel, s, rfl, rfl⟩⟩
  | _ => exact ⟨_, rfl, .inr ⟨by decide +kernel, rfl⟩⟩
theorem keyV_str (ky : Ky) : ∀ x ∈ keyV ky, (∃ z, x = .str z) ∨ ∃ i : Int, x = .int i ∧ ∃ n m, ky = .play n m ∧ i = m := by
  intro x hx
  cases ky with
  | play n m =>
    simp only [keyV, List.mem_cons, List.not_mem_nil, or_false] at hx
    rcases hx with rfl | rfl | rfl
    · exact .inl ⟨_, rfl⟩
    · exact .inl ⟨_, rfl⟩
    · exact .inr ⟨_, rfl, n, m, rfl, rfl⟩
  | _ =>
    simp only [keyV, List.mem_cons, List.not_mem_nil, or_false] at hx
    first
    | (rcases hx with rfl | rfl <;> exact .inl ⟨_, rfl⟩)
    | (subst hx; exact .inl ⟨_, rfl⟩)
theorem num_str : ∀ m : Fin 10, ((toString ((m.1 : Nat) : Int) : String) : Str) = S [48 + m.1] := by decide +kernel
theorem wordsS_len {ky : Ky} (h : ky.Ok) : (wordsS ky).length ≤ 3 ∧ ∀ w ∈ wordsS ky, w.length ≤ 8 := by
  cases ky with
  | put s =>
    have h1 : s.length = 1 := h.1
    refine ⟨by show (2 : Nat) ≤ 3; decide, fun w hw => ?_⟩
    simp only [wordsS, List.mem_cons, List.not_mem_nil, or_false] at hw
    rcases hw with rfl | rfl
    · decide
    · have := quote_len s
      rw [S_len]; omega
  | find s =>
    have h1 : s.length ≤ 4 := h.2.1
    refine ⟨by show (2 : Nat) ≤ 3; decide, fun w hw => ?_⟩
    simp only [wordsS, List.mem_cons, List.not_mem_nil, or_false] at hw
    rcases hw with rfl | rfl
    · decide
    · have := quote_len s
      rw [S_len]; omega
  | play n m =>
    have h1 : m ≤ 9 := h.2.2
    refine ⟨by show (3 : Nat) ≤ 3; decide, fun w hw => ?_⟩
    simp only [wordsS, keyV, List.map_cons, List.map_nil, List.mem_cons, List.not_mem_nil, or_false, strV] at hw
    rcases hw with rfl | rfl | rfl
    · decide
    · rw [nameS, S_len]; show (1 : Nat) ≤ 8; decide
    · rw [num_str ⟨m, by omega⟩, S_len]; show (1 : Nat) ≤ 8; decide
  | till n =>
    refine ⟨by show (2 : Nat) ≤ 3; decide, fun w hw => ?_⟩
    simp only [wordsS, keyV, List.map_cons, List.map_nil, List.mem_cons, List.not_mem_nil, or_false, strV] at hw
    rcases hw with rfl | rfl
    · decide
    · rw [nameS, S_len]; show (1 : Nat) ≤ 8; decide
  | _ => exact ⟨by decide, by decide +kernel⟩
/-- the row of a tape, and the text of tapes -/
def rowW (n : Nat) (ks : List Ky) : List Str := nameS n :: ks.flatMap wordsS
def bS : Str := Str.ofString " "
def nS : Str := Str.ofString "\n"
def rowS (n : Nat) (ks : List Ky) : Str := Txt.join bS (rowW n ks)
def textT (d : Tps) : Str := Txt.join nS (d.map fun p => rowS p.1 p.2)
theorem flat_words_len : ∀ {ks : List Ky}, (∀ k ∈ ks, k.Ok) → (ks.flatMap wordsS).length ≤ 3 * ks.length ∧ ∀ w ∈ ks.flatMap wordsS, w.length ≤ 8
  | [], _ => ⟨Nat.zero_le _, by simp⟩
  | k :: ks, h => by
    obtain ⟨h1, h2⟩ := flat_words_len (ks := ks) fun x hx => h x (by simp [hx])
    obtain ⟨g1, g2⟩ := wordsS_len (h k (by simp))
    rw [List.flatMap_cons]
    constructor
    · rw [List.length_append, List.length_cons]; omega
    · intro w hw
      rcases List.mem_append.mp hw with z | z
      · exact g2 w z
      · exact h2 w z
theorem sum_len {m : Nat} : ∀ {ws : List Str}, (∀ w ∈ ws, w.length ≤ m) → (ws.map (·.length)).sum ≤ ws.length * m
  | [], _ => Nat.zero_le _
  | w :: ws, h => by
    have h1 := sum_len (ws := ws) fun x hx => h x (by simp [hx])
    have h2 := h w (by simp)
    simp only [List.map_cons, List.sum_cons, List.length_cons, Nat.succ_mul]
    omega
theorem join_len (y : Str) (ws : List Str) : (Txt.join y ws).length ≤ (ws.map (·.length)).sum + ws.length * y.length := by
  rw [TL.join_eq]
  exact StrLaws.join_length_le y ws
theorem rowW_len {n : Nat} {ks : List Ky} (h : ∀ k ∈ ks, k.Ok) (hl : ks.length ≤ 30) : (rowW n ks).length ≤ 91 ∧ ((rowW n ks).map (·.length)).sum ≤ 728 := by
  obtain ⟨h1, h2⟩ := flat_words_len h
  have h3 : (rowW n ks).length ≤ 91 := by unfold rowW; rw [List.length_cons]; omega
  refine ⟨h3, Nat.le_trans (sum_len (m := 8) fun w hw => ?_) (Nat.mul_le_mul_right 8 h3)⟩
  rcases List.mem_cons.mp hw with rfl | z
  · rw [nameS, S_len]; show (1 : Nat) ≤ 8; decide
  · exact h2 w z
theorem rowS_len {n : Nat} {ks : List Ky} (h : ∀ k ∈ ks, k.Ok) (hl : ks.length ≤ 30) : (rowS n ks).length ≤ 819 := by
  obtain ⟨h1, h2⟩ := rowW_len (n := n) h hl
  have := join_len bS (rowW n ks)
  have hb : bS.length = 1 := by decide +kernel
  unfold rowS
  rw [hb] at this
  omega
end KT
set_option Elab.async false
set_option linter.all false
set_option maxRecDepth 100000
set_option maxHeartbeats 4000000
/-! sep.join(elt for target in iter): the element may call defs -/
namespace KT
open PySem PySem.Spec PyProof.Rows L2 GenW
/-- the generator's frame at work -/
abbrev gblk (X : Cx) (A : Around) (s : Shared) (H : Hp) (cenv : Env) (fp : List Addr) (pn : List (Addr × Obj)) : Cx := { X with A := A, s_0 := s, H_0 := H, env := cenv, outer := X.stack, stack := cenv :: X.stack, ex := fp, fn := fun _ => false, calm := true, pn := pn, xe := fun _ _ => False }
theorem over_comp {A : Around} {e : Expr} {gs : List Comprehension} {sc : Scope} {ps : Pos} {i a : Value} {env : Env} : A.over (.compLoop (.GeneratorExp e gs sc ps) 0 i a env) [] = A.deeper env := by
  first
    | rfl
    | (unfold Around.over Around.deeper; simp [Code.weight, Code.isCreation, Code.isGuard, Code.isCaller, Code.frames, Code.isFrame, Code.envs, Code.env?, Code.guards, Code.cUnits, frameCount, envsOf, guardsOf, unitsOf, marksOver, pushEnvs, pushGuards])
theorem over_start {A : Around} {e : Expr} {gs : List Comprehension} {sc : Scope} {ps : Pos} {i a : Value} {env : Env} : A.over (.compStart (.GeneratorExp e gs sc ps) 0 i a env) [] = A.deeper env := by
  first
    | rfl
    | (unfold Around.over Around.deeper; simp [Code.weight, Code.isCreation, Code.isGuard, Code.isCaller, Code.frames, Code.isFrame, Code.envs, Code.env?, Code.guards, Code.cUnits, frameCount, envsOf, guardsOf, unitsOf, marksOver, pushEnvs, pushGuards])
/-- names that the generator sees stand in slots of its own; it captures none -/
def genB (N : List Str) (sc : Scope) (vs : List Nat) : Bool := (sc.names.all fun p => !(p.2 == .cell) && !(p.2 == .free)) && (N.zipIdx.all fun p => !(sc.names.lookup p.1).isSome || (sc.names.lookup p.1 == some .globalImplicit || (sc.names.lookup p.1 == some .globalExplicit || vs.contains p.2)))
structure GenK (N : List Str) (sc : Scope) (vs : List Nat) : Prop where
  kind : sc.kind = .function
  co : sc.isCoroutine = false
  dot : sc.names.lookup (".0" : Str) = some .local
  bare : ∀ y ∈ sc.names, y.2 ≠ .cell ∧ y.2 ≠ .free
  own : ∀ (i : Nat) (y : Str), N[i]? = some y → Vis sc y → i ∈ vs
theorem genK_by {N : List Str} {sc : Scope} {vs : List Nat} (h : genB N sc vs = true) (kind : sc.kind = .function := by rfl) (co : sc.isCoroutine = false := by rfl) (dot : sc.names.lookup (".0" : Str) = some .local := by decide +kernel) : GenK N sc vs := by
  unfold genB at h
  simp only [Bool.and_eq_true, List.all_eq_true] at h
  obtain ⟨h1, h2⟩ := h
  refine ⟨kind, co, dot, fun y hy => ?_, fun i y hi hv => ?_⟩
  · have z := h1 y hy
    simp only [Bool.not_eq_true', beq_eq_false_iff_ne] at z
    exact z
  · have hm : (y, i) ∈ N.zipIdx := by
      rw [List.mem_zipIdx_iff_getElem?]
      exact hi
    have z := h2 (y, i) hm
    dsimp only at z
    rcases hv with e | e | e
    · rw [e] at z
      simpa using z
    · exact absurd rfl ((fun q => by
        have w := h1 _ (PySem.mem_of_lookup e)
        simp at w) : ¬ (NameKind.cell = NameKind.cell)) 
    · exact absurd rfl ((fun q => by
        have w := h1 _ (PySem.mem_of_lookup e)
        simp at w) : ¬ (NameKind.free = NameKind.free))
/-- what a generator expression's reading asks -/
def tGen (P : Addr) (wi : TI) (g : TG) (te : TE) (vs : List Nat) : TGen := fun σ H cont => wi σ H fun J H1 => GxR.TabG H1 P ∧ ∀ H2, GxR.Tabbed P H1 H2 → ∃ W : Nat → Nat → List V → Hp → Prop, (∃ m, W 0 m [] H2) ∧ ∀ i m ys H, W i m ys H → (J.stop i H ∧ cont ys H) ∨ (J.go i H ∧ ys.length < sizeLine ∧ ∃ Nx : List V → Hp → Prop, (∀ ys' H', Nx ys' H' → ∃ m', m' < m ∧ W (i + 1) m' ys' H') ∧ ∀ x H', J.yld i H x H' → g x (wipe σ vs) H' fun σ2 H2 => wipe σ2 vs = wipe σ vs ∧ te σ2 H2 fun y H3 => Nx (ys ++ [y]) H3)
section
variable {X : Cx} {pins : List (Addr × Obj)} {σ : L2.St} {H : Hp} {s : Shared}
/-- the generator begins to run, some time behind its making -/
theorem gen_begins {scope : Scope} {vs : List Nat} {fp : List Addr} {A : Around} {code : Value} {bi a S C : Addr} {go : Obj} {s2 : Shared} {c : Nat} (I : Inv X pins σ H s) (G : GenK X.N scope vs) (hC : C = s.heap.objs.size) (hbi : bi = builtinsNs)
    (away : ∀ b ∈ fp, FpOk X pins H b ∧ b < s.heap.objs.size) (ha : s.heap.objs.size < a) (hS : a < S) (hgo : ∀ v, go.data ≠ .cell v)
    (hd : A.handled = none) (hfr : A.frames = some (genEnv scope (cloFrom X.env.cells scope.names []) C code bi X.env :: X.stack))
    (keep : ∀ b o, s.heap.get? b = some o → s2.heap.get? b = some o) {m : Str → Option Value} (ns : s2.heap.Ns C m) (atA : s2.heap.get? a = some go) (atS : s2.heap.get? S = some (lstObj #[] c)) (os : s2.os = s.os) (ab : AllBare s2.gens) :
    GI (gblk X A s H (genEnv scope (cloFrom X.env.cells scope.names []) C code bi X.env) fp [(a, go)]) S [] [] (wipe σ vs) H s2 := by
  subst hC
  have nocl : ∀ y c, (cloFrom X.env.cells scope.names []).lookup y = some c → False := fun y c e => by
    rcases cloFrom_mem (PySem.mem_of_lookup e) with z | ⟨z, _⟩
    · exact nomatch z
    · exact (G.bare _ z).2 rfl
  have young : ∀ b, s.heap.objs.size < b → H b = none ∧ b ≠ s.heap.objs.size ∧ b ∉ frs X.stack := fun b hb => by
    refine ⟨I.hok.fresh (Nat.le_of_lt hb), Nat.ne_of_gt hb, fun z => ?_⟩
    rcases List.mem_cons.mp (I.stkSub b z) with e | e
    · exact absurd (Nat.lt_trans I.lt hb) (by rw [e]; exact Nat.lt_irrefl _)
    · exact I.nofs (Nat.le_of_lt hb) e
  have nC : s.heap.objs.size ∉ frs X.stack := fun z => by
    rcases List.mem_cons.mp (I.stkSub _ z) with e | e
    · have := I.lt
      rw [← e] at this
      exact absurd this (Nat.lt_irrefl _)
    · exact I.nofs (Nat.le_refl _) e
  refine ⟨#[], c, .nil, ⟨?_, os, ab, Un.kept keep, ⟨m, ns, fun i y v e1 e2 e3 => ?_⟩, fun y c e => (nocl y c e).elim, I.hok.fresh (Nat.le_refl _), fun y c e => (nocl y c e).elim, fun p hp => ?_, I.hok.kept keep, ?_⟩⟩
  · refine ⟨I.mod, G.kind, I.ok.glob, hbi, Nat.le_refl _, fun y z c e => (nocl y c e).elim, fun y hy => ?_, fun y c e => Bool.noConfusion (show false = true from e), fun _ => hd, hfr, .inr ⟨rfl, rfl⟩, fun b hb => ⟨?_, fun y c e => (nocl y c e).elim⟩, fun b o e => I.bs b o e, Nat.le_trans I.ok.bsz I.sz, fun b o e hb => ?_, fun b hb z => ?_, I.stack, I.stkFree⟩
    · rcases (show scope.names.lookup y = some .cell ∨ scope.names.lookup y = some .free from hy) with e | e
      · exact absurd rfl (G.bare _ (PySem.mem_of_lookup e)).1
      · exact absurd rfl (G.bare _ (PySem.mem_of_lookup e)).2
    · exact Nat.ne_of_lt (away b hb).2
    · obtain ⟨⟨_, _, _, w, _⟩, _⟩ := away b hb
      rcases w with w | w
      · exact I.ok.noex b o e w
      · exact absurd (Nat.lt_of_lt_of_le (Heap.lt_size e) (Nat.le_trans I.ok.bsz w)) (Nat.lt_irrefl _)
    · obtain ⟨⟨_, w1, w2, _⟩, _⟩ := away b hb
      rcases List.mem_cons.mp (I.stkSub b z) with e | e
      · exact w1 e
      · exact w2 e
  · obtain ⟨_, w⟩ := wipe_some e2
    exact absurd (G.own i y e1 e3) w
  · rcases List.mem_cons.mp (show p ∈ (a, go) :: [(S, lstObj #[] c)] from hp) with e | e
    · subst e
      obtain ⟨y1, y2, y3⟩ := young a ha
      exact ⟨atA, y1, y2, y3, hgo⟩
    · rw [List.mem_singleton.mp e]
      obtain ⟨y1, y2, y3⟩ := young S (Nat.lt_trans ha hS)
      exact ⟨atS, y1, y2, y3, fun v q => by cases q⟩
  · show (wipe σ vs).length = X.N.length
    rw [wipe_length, I.len]
end
end KT
namespace KT
open PySem PySem.Spec PyProof.Rows L2 GenW
section
variable {X : Cx} {sc : Shared} {H0 : Hp}
/-- the turns of the generator: from where it stands to its end -/
theorem gen_turns {tg iter elt : Expr} {scope : Scope} {pos : Pos} {vs : List Nat} {σ : L2.St} {g : TG} {te : TE} {J : It} {fp : List Addr} {it S a : Addr} {gg : Nat} {tn : Nat → Heap → Prop} {go : Obj} {A : Around} {cenv : Env} {cont : List V → Hp → Prop} {E : XK} {W : Nat → Nat → List V → Hp → Prop}
    (T : Turn X.prog X.w X.K tg J fp it tn) (scOk : cenv.scope.isCoroutine = false) (hA : Apart (gblk X (A.deeper cenv) sc H0 cenv fp [(a, go)]) S) (haS : a ≠ S) (hfS : ∀ b ∈ fp, b ≠ S) (hfa : ∀ b ∈ fp, b ≠ a)
    (gen : ∀ h : Heap, h.get? a = some go → h.IsGen a gg)
    (target : PG (gblk X (A.deeper cenv) sc H0 cenv fp [(a, go)]) tg g) (item : PE (gblk X (A.deeper cenv) sc H0 cenv fp [(a, go)]) elt te)
    (turn : ∀ i m ys H, W i m ys H → (J.stop i H ∧ cont ys H) ∨ (J.go i H ∧ ys.length < sizeLine ∧ ∃ Nx : List V → Hp → Prop, (∀ ys' H', Nx ys' H' → ∃ m', m' < m ∧ W (i + 1) m' ys' H') ∧ ∀ x H', J.yld i H x H' → g x (wipe σ vs) H' fun σ2 H2 => wipe σ2 vs = wipe σ vs ∧ te σ2 H2 fun y H3 => Nx (ys ++ [y]) H3)) :
    ∀ (m i n : Nat) (ys : List V) (s₀ s : Shared) (H : Hp), n + ys.length = sizeLine → W i m ys H → GI (gblk X (A.deeper cenv) sc H0 cenv fp [(a, go)]) S [] ys (wipe σ vs) H s → tn i s.heap → (∀ b ∈ fp, H b = none) →
      Seg (model X.prog X.w) A (REnd X.prog X.w X.stack H0 sc fp S a gg cont E) (YItem sc S a gg) n s₀ (.compLoop (.GeneratorExp elt [⟨tg, iter, [], 0⟩] scope pos) 0 (.ref it) .none cenv) ((model X.prog X.w).den (.compLoop (.GeneratorExp elt [⟨tg, iter, [], 0⟩] scope pos) 0 (.ref it) .none cenv)) [] s := by
  intro m
  induction m using Nat.strongRecOn with
  | ind m ih =>
    intro i n ys s₀ s H hn w hG st hfn
    obtain ⟨nS, _, _, _⟩ := hG.at
    obtain ⟨acc, c, r, I⟩ := hG
    have inFp : ∀ b ∈ fp, FpOk (gblk X (A.deeper cenv) sc H0 cenv fp [(a, go)]) [(S, lstObj acc c)] H b := fun b hb =>
      ⟨hfn b hb, (I.ok.exf b hb).1, I.ok.exfs b hb, .inl hb, fun x c e => (I.ok.exf b hb).2 x c e, fun p hp => by
        rcases List.mem_append.mp hp with z | z
        · rw [List.mem_singleton.mp z]
          exact fun e => hfa b hb e.symm
        · rw [List.mem_singleton.mp z]
          exact fun e => hfS b hb e.symm⟩
    show Seg _ A _ _ _ s₀ _ ((compTurn (.GeneratorExp elt [⟨tg, iter, [], 0⟩] scope pos) 0 (.ref it) .none cenv).onRaise (leaving cenv)) [] s
    rw [compTurn_gen, Sem.onRaise_eq_wrap]
    refine seg_bind_wrap (wpAny_standAt ?_)
    rcases turn i m ys H w with ⟨stop, ends⟩ | ⟨goes, small, Nx, hNx, step⟩
    · refine seg_bind_wrap ?_
      rw [over_comp]
      refine wpAny_mono (T.done (gblk X (A.deeper cenv) sc H0 cenv fp [(a, go)]) rfl rfl rfl rfl i [(S, lstObj acc c)] s _ H (fun _ _ => False) I inFp st stop) (fun q s6 h => ?_) fun _ _ z => z.elim
      obtain ⟨er, I6⟩ := h
      subst er
      have atS := (I6.pin (S, lstObj acc c) (List.mem_append_right _ (List.mem_singleton.mpr rfl))).1
      exact seg_end (.ok .next) (.inl ⟨.inr rfl, H, ys, acc, c, I6.os, I6.bare, I6.base, I6.hok, nS, atS, r, by omega, ends⟩)
    · obtain ⟨n, rfl⟩ : ∃ k, n = k + 1 := ⟨n - 1, by omega⟩
      refine seg_bind_wrap ?_
      rw [over_comp]
      refine wpAny_mono (T.item (gblk X (A.deeper cenv) sc H0 cenv fp [(a, go)]) rfl rfl rfl rfl i [(S, lstObj acc c)] s _ H (fun _ _ => False) I inFp st goes) (fun q s6 h => ?_) fun _ _ z => z.elim
      obtain ⟨u, er, moves⟩ := h
      subst er
      refine seg_bind_wrap ?_
      rw [over_comp]
      refine wpAny_mono moves (fun _ s7 h => ?_) fun _ _ z => z.elim
      obtain ⟨x, H7, I7, r7, y7, st7, n7⟩ := h
      have inFp7 : ∀ b ∈ fp, FpOk (gblk X (A.deeper cenv) sc H0 cenv fp [(a, go)]) [(S, lstObj acc c)] H7 b := fun b hb => ⟨n7 b hb, (inFp b hb).2⟩
      refine seg_bind_wrap ?_
      rw [over_comp]
      refine wpAny_mono (target.run _ s7 _ H7 x u _ (I7.pinned inFp7 (T.obj _ _ st7)) r7 (step x H7 y7)) (fun _ s8 h => ?_) fun _ _ (z : False) => z.elim
      obtain ⟨σ8, H8, I8, same8, q8⟩ := h
      refine seg_bind_wrap ?_
      refine wpAny_tests_nil ?_
      simp only [if_true]
      have out : ∀ v, yieldOut cenv v = yieldValue v := fun v => by simp only [yieldOut, scOk, Bool.false_eq_true, if_false]
      simp only [out]
      rw [Sem.bind_eq_wrap', Sem.bind_eq_wrap', Sem.wrap_wrap, Sem.wrap_wrap]
      refine seg_wrap ?_
      rw [over_comp]
      refine wpAny_mono (item.run _ s8 σ8 H8 _ I8 q8) (fun y s9 h => ?_) fun _ _ (z : False) => z.elim
      obtain ⟨yv, H9, I9, r9, nx⟩ := h
      have I9 : Inv (gblk X (A.deeper cenv) sc H0 cenv fp [(a, go)]) ((S, lstObj acc c) :: pinsAt fp s7.heap) σ8 H9 s9 := I9
      have at9 := (I9.pin (S, lstObj acc c) (List.mem_append_right _ (List.mem_cons_self ..))).1
      have atA := (I9.pin (a, go) (List.mem_append_left _ (List.mem_singleton.mpr rfl))).1
      have hl : acc.size = ys.length := by
        have := r.length
        simp at this
        omega
      refine seg_at (seg_yield rfl rfl rfl ⟨I9.os, I9.bare, I9.nolimit, gen _ atA, ⟨acc, c, at9, by omega⟩, fun s10 slept => ?_⟩)
      have G10 := GI.woken (X := gblk X (A.deeper cenv) sc H0 cenv fp [(a, go)]) (fun p hp => by rw [List.mem_singleton.mp hp]; exact haS) (fun p hp => hfS p.1 (of_pinsAt hp).1) hA ⟨acc, c, r, I9⟩ r9 slept
      obtain ⟨acc2, c2, rr2, I10⟩ := G10
      have still : ∀ b ∈ fp, ∀ o, s7.heap.get? b = some o → s10.heap.get? b = some o ∧ H9 b = none := fun b hb o e =>
        let p := I10.pin (b, o) (List.mem_append_right _ (List.mem_cons_of_mem _ (mem_pinsAt hb e)))
        ⟨p.1, p.2.1⟩
      obtain ⟨m', hm, w'⟩ := hNx _ _ nx
      have ln : (wipe σ vs).length = σ8.length := by rw [← same8, wipe_length]
      refine seg_again rfl (ih m' hm (i + 1) n (ys ++ [yv]) s10 s10 H9 (by rw [List.length_append, List.length_singleton]; omega) w' ⟨acc2, c2, rr2, ?_⟩ (T.keep _ _ _ st7 fun b hb o e => (still b hb o e).1) fun b hb => ?_)
      · refine Inv.weak (σ := σ8) (I10.pins_of fun p hp => I10.pin p (List.mem_append_right _ ?_)) ln fun k v e => ?_
        · rw [List.mem_singleton.mp hp]; exact List.mem_cons_self ..
        · rw [← same8] at e
          exact (wipe_some e).1
      · obtain ⟨o, e, _⟩ := T.obj _ _ st7 b hb
        exact (still b hb o e).2
end
end KT
namespace KT
open PySem PySem.Spec PyProof.Rows L2 GenW Builtin Builtin.Str
section
variable {X : Cx}
theorem pgen_gen {k : Nat} {c P : Addr} {tg iter elt : Expr} {scope : Scope} {gpos : Pos} {vs : List Nat} {wi : TI} {g : TG} {te : TE} {E : XK} (calm : X.calm = true) (deep : X.A.depth < recursionLimit) (TB : GxR.TabB X.base X.mg c P) (hcode : X.env.code = .ref c) (G : GenK X.N scope vs) (walk : PI X tg iter wi)
    (target : ∀ (A : Around) (s : Shared) (H : Hp) (cl : List (Str × Addr)) (C : Addr) (code : Value) (bi : Addr) (fp : List Addr) (pn : List (Addr × Obj)), Room k A → PG (gblk X A s H (genEnv scope cl C code bi X.env) fp pn) tg g)
    (item : ∀ (A : Around) (s : Shared) (H : Hp) (cl : List (Str × Addr)) (C : Addr) (code : Value) (bi : Addr) (fp : List Addr) (pn : List (Addr × Obj)), Room k A → PE (gblk X A s H (genEnv scope cl C code bi X.env) fp pn) elt te)
    (fold : ∀ v, genFold iter X.env v = pure v) : PGen X (k + 1) (.GeneratorExp elt [⟨tg, iter, [], 0⟩] scope gpos) (tGen P wi g te vs) E := by
  refine ⟨fun pins s σ H cont I reads => ?_⟩
  have hd : X.A.handled = none := I.ok.hd calm
  refine wpAny_GeneratorExp_make G.co (closure_ok fun y hy e => absurd e (G.bare y hy).2) (fun y hy => (G.bare y hy).1) G.dot G.kind deep ?_ fold
  refine wpAny_mono (walk.run pins s σ H _ I reads) (fun xv s1 iterates => wpAny_mono iterates (fun itv s2 started => ?_) fun _ _ z => z) fun _ _ z => z
  obtain ⟨it, fp, tn, J, H2, rfl, I2, T, st2, away, ⟨ps, hP, triples⟩, more⟩ := started
  have atP : s2.heap.get? P = some { cls := .none, data := .fields ps } := I2.hok P _ hP
  have cd : PySem.W.CodeHd s2.heap c P := TB.code.keeps fun b u e => I2.bk b u e
  have notP : ∀ b ∈ fp, b ≠ P := fun b hb e => by
    have z := (away b hb).1
    rw [e, hP] at z
    cases z
  refine ⟨I2.nolimit, ?_⟩
  have fin : ∀ (code : Value) (h3 : Heap) (tk : Nat) (add : Array Value), (∀ b o, b ≠ P → s2.heap.get? b = some o → h3.get? b = some o) → h3.get? P = some { cls := .none, data := .fields (ps ++ add) } → TriplesOk (ps ++ add).toList →
      wpAny (model X.prog X.w) X.A (builtinsFor X.env.globals X.env.builtins) (fun bi s₄ => ∀ h', h'.Ns s₄.heap.objs.size (fun y => if y = ".0" then some (.ref it) else none) → Heap.SameBut s₄.heap.objs.size (s₄.heap.push { cls := .type "frame", data := .dict #[] }) h' →
        (fun u s' => ∃ H1 sc ex, Inv X pins σ H1 sc ∧ ExOk X pins ex ∧ GMade X.prog X.w (k + 1) X.stack H1 sc ex cont E u s') (.ref h'.objs.size) { s₄ with
          gens := s₄.gens.push (.fresh (.compStart (.GeneratorExp elt [⟨tg, iter, [], 0⟩] scope gpos) 0 (.ref it) .none (genEnv scope (cloFrom X.env.cells scope.names []) s₄.heap.objs.size code bi X.env))),
          toks := s₄.toks + 1 + 1 + 1,
          heap := h'.push { cls := .type "generator", data := .fields #[.int s₄.gens.size 0, .str "<genexpr>" (s₄.toks + 1), .str (X.env.qual ++ "<genexpr>") (s₄.toks + 1 + 1)] } }) X.xe { s2 with heap := h3, toks := tk } := by
    intro code h3 tk add keep atP3 triples3
    obtain ⟨bm, ob, e1, e2, e3, e4, e5, e6, e7, e8⟩ := TB.bm
    refine wpAny_builtinsFor (m := X.mg) (by rw [I2.ok.glob]; exact (I2.mod.glob.keeps I2.bk).at' fun o e => keep _ o TB.gP e) e1 e2 (keep _ _ e4 (I2.bk _ _ e5)) e6 e7 e8 ?_
    intro h' ns' same
    have I3 := GxR.inv_tab (more := add) (h' := h3) (g' := s2.gens) (d' := s2.drawn) (t' := tk) I2 hP keep atP3 I2.bare
    generalize esc : ({ s2 with heap := h3, toks := tk } : Shared) = sc at I3 ns' same ⊢
    have hh : sc.heap = h3 := by rw [← esc]
    have away3 : ∀ b ∈ fp, FpOk X pins (upd H2 P (.tbl (ps ++ add))) b ∧ b < sc.heap.objs.size := fun b hb => by
      refine ⟨⟨by rw [upd_ne (notP b hb)]; exact (away b hb).1, (away b hb).2⟩, ?_⟩
      obtain ⟨o, e, _⟩ := T.obj _ _ st2 b hb
      rw [hh]
      exact Heap.lt_size (keep b o (notP b hb) e)
    have st3 : tn 0 sc.heap := T.keep _ _ _ st2 fun b hb o e => by rw [hh]; exact keep b o (notP b hb) e
    generalize ego : ({ cls := .type "generator", data := .fields #[.int sc.gens.size 0, .str "<genexpr>" (sc.toks + 1), .str (X.env.qual ++ "<genexpr>") (sc.toks + 1 + 1)] } : Obj) = go
    have gen : ∀ h : Heap, h.get? h'.objs.size = some go → h.IsGen h'.objs.size sc.gens.size := fun h e => ⟨go, .str "<genexpr>" (sc.toks + 1), .str (X.env.qual ++ "<genexpr>") (sc.toks + 1 + 1), e, by rw [← ego], by rw [← ego], by rw [← ego]⟩
    have goCell : ∀ v, go.data ≠ .cell v := fun v e => by rw [← ego] at e; cases e
    have free : go.isFreed = false := by rw [← ego]; rfl
    have size' : h'.objs.size = sc.heap.objs.size + 1 := by rw [same.1, Heap.size_push]
    have keepA : ∀ b o, sc.heap.get? b = some o → h'.get? b = some o := fun b o e => same.extBut b o (Nat.ne_of_lt (Heap.lt_size e)) (Heap.get?_push_of_some _ e)
    have keepB : ∀ b o, sc.heap.get? b = some o → (h'.push go).get? b = some o := fun b o e => Heap.get?_push_of_some _ (keepA b o e)
    refine ⟨_, sc, fp, I3, fun b hb => ?_, h'.objs.size, sc.gens.size, _, rfl, by omega, ?_, gen _ (Heap.get?_push_size _ free), Array.getElem?_push_size .., rfl, ?_, I3.nolimit.keeps keepB, keepB, ?_⟩
    · obtain ⟨_, w1, _, w3, w4, w5⟩ := (away3 b hb).1
      exact ⟨w3, w1, w4, w5⟩
    · show _ < (h'.push go).objs.size
      rw [Heap.size_push]
      exact Nat.lt_succ_self _
    · exact AllBare.push I3.bare rfl
    intro A S s5 room frames young keep5 atS os5 bare5
    obtain ⟨cS, atS⟩ := atS
    have young : (h'.push go).objs.size ≤ S := young
    rw [Heap.size_push] at young
    have lt1 : sc.heap.objs.size < h'.objs.size := by omega
    have lt2 : h'.objs.size < S := young
    have lt3 : sc.heap.objs.size < S := Nat.lt_trans lt1 lt2
    have atA : s5.heap.get? h'.objs.size = some go := keep5 _ _ (Heap.get?_push_size _ free)
    have keep6 : ∀ b o, sc.heap.get? b = some o → s5.heap.get? b = some o := fun b o e => keep5 b o (keepB b o e)
    have frames' : (A.deeper (genEnv scope (cloFrom X.env.cells scope.names []) sc.heap.objs.size code builtinsNs X.env)).frames = some (genEnv scope (cloFrom X.env.cells scope.names []) sc.heap.objs.size code builtinsNs X.env :: X.stack) := Around.frames_deeper frames
    have nsG : s5.heap.Ns sc.heap.objs.size (fun y => if y = ".0" then some (.ref it) else none) := ns'.at' fun o e => keep5 _ o (Heap.get?_push_of_some _ e)
    have begun := gen_begins (A := A.deeper (genEnv scope (cloFrom X.env.cells scope.names []) sc.heap.objs.size code builtinsNs X.env)) (code := code) (a := h'.objs.size) (S := S) I3 G rfl rfl away3 lt1 lt2 goCell room.hd frames' keep6 nsG atA atS os5 bare5
    obtain ⟨W, ⟨m0, w0⟩, turn⟩ := more (upd H2 P (.tbl (ps ++ add))) ⟨⟨_, upd_same, triples3⟩, fun b hb => upd_ne hb⟩
    have st5 : tn 0 s5.heap := T.keep _ _ _ st3 fun b _ o e => keep6 b o e
    have loop := gen_turns (σ := σ) (iter := iter) (pos := gpos) (S := S) (gg := sc.gens.size) (cont := cont) (E := E) (scope := scope) T G.co (A := A) (cenv := genEnv scope (cloFrom X.env.cells scope.names []) sc.heap.objs.size code builtinsNs X.env) (sc := sc) (H0 := upd H2 P (.tbl (ps ++ add)))
      ⟨Nat.le_of_lt lt3, Nat.ne_of_gt lt3, fun x c e => by
        have e : (cloFrom X.env.cells scope.names []).lookup x = some c := e
        rcases cloFrom_mem (PySem.mem_of_lookup e) with z | ⟨z, _⟩
        · exact nomatch z
        · exact absurd rfl (G.bare _ z).2⟩
      (Nat.ne_of_lt lt2) (fun b hb => Nat.ne_of_lt (Nat.lt_trans (away3 b hb).2 lt3)) (fun b hb => Nat.ne_of_lt (Nat.lt_trans (away3 b hb).2 lt1)) gen
      (target _ _ _ _ _ _ _ _ _ (room.deeper _)) (item _ _ _ _ _ _ _ _ _ (room.deeper _)) turn m0 0 sizeLine [] s5 s5 _ (Nat.add_zero _) w0 begun st5 fun b hb => (away3 b hb).1.1
    show Seg _ A _ _ _ s5 _ ((compStart (.GeneratorExp elt [⟨tg, iter, [], 0⟩] scope gpos) 0 (.ref it) .none (genEnv scope (cloFrom X.env.cells scope.names []) sc.heap.objs.size code builtinsNs X.env)).onRaise (leaving (genEnv scope (cloFrom X.env.cells scope.names []) sc.heap.objs.size code builtinsNs X.env))) [] s5
    unfold compStart
    rw [Sem.onRaise_eq_wrap]
    show Seg _ A _ _ _ s5 _ ((ask >>= _).wrap _ _ _ _) [] s5
    refine seg_bind_wrap (wpAny_askSetting ?_)
    split
    · exact seg_again rfl loop
    · first
        | exact seg_bind_wrap (wpAny_rule (seg_bind_wrap (wpAny_standAt (seg_bind_wrap (T.self _ 0 s5 _ _ st5 (seg_again rfl loop))))))
        | (refine seg_bind_wrap (wpAny_rule ?_); show Seg _ A _ _ _ s5 _ ((standAt iter.pos >>= _).wrap _ _ _ _) [] s5; exact seg_bind_wrap (wpAny_standAt (seg_bind_wrap (T.self _ 0 s5 _ _ st5 (seg_again rfl loop)))))
  cases among : codeAmong gpos ps.toList with
  | none =>
    refine wpAny_genexprCodeX hcode (cd.code atP triples) (cd.tab atP) among fun c' h' tk others low lower isRec _ table _ => ?_
    obtain ⟨o1, us, f1, tf, fl, tgs, inF, tx, tt, op, _, _, _, _, _, _, _, _, _, trs, _⟩ := isRec
    exact fin _ h' tk _ (fun b o ne e => others b o ne e) table.2 trs
  | some cv =>
    refine wpAny_genexprCode_hit hcode (cd.code atP triples) among ?_
    exact fin cv s2.heap s2.toks #[] (fun b o _ e => e) (by rw [atP]; simp) (by simpa using triples)
/-- sep.join(g), read -/
def tJoinX (to : TE) (tg : TGen) : TE := fun σ H Q => to σ H fun v H1 => ∃ sep : Str, v = .str sep ∧ tg σ H1 fun out H2 => ∃ ws : List Str, out = ws.map V.str ∧ JoinOk sep ws = true ∧ Q (.str (Txt.join sep ws)) H2
theorem vals_strs : ∀ {ws : List Str} {vs : List Value}, Vals (ws.map V.str) vs → ∃ l : List (Str × Tok), strValues l = vs ∧ l.map (·.1) = ws
  | [], _, .nil => ⟨[], rfl, rfl⟩
  | w :: ws, _, .cons (b := u) h r => by
    obtain ⟨t, e⟩ := (show ∃ t, u = Value.str w t from h)
    obtain ⟨l, e1, e2⟩ := vals_strs r
    exact ⟨(w, t) :: l, by rw [e, ← e1]; rfl, by rw [← e2]; rfl⟩
theorem pe_joinX {k : Nat} {o e : Expr} {apos cpos : Pos} {to : TE} {tg : TGen} (hg : PGen X k e tg (fun _ _ _ => False)) (hr : Room (k + 4) X.A) (ho : PE X o to)
    (hbase : attributeBase o "join" X.env (eval o X.env) = eval o X.env := by rfl)
    (hfew : ((backTo cpos (starEach [e] X.env)).all (fun x => !x.1) && (backToKw cpos (keywordEach [] X.env)).all (fun x => x.1.isSome)
      && decide (([e] : List Expr).length + ([] : List Keyword).length + (if ([] : List Keyword).isEmpty then 0 else 1) < 30)) = true := by rfl)
    (hline : (apos.endLine == cpos.line) = true := by rfl) (he : starEach [e] X.env = (false, eval e X.env) :: starEach [] X.env := by rfl) (hplain : (backTo cpos (starEach [] X.env)).any (·.1) = false := by rfl) :
    PE X (.Call (.Attribute o "join" apos) [e] [] cpos) (tJoinX to tg) := by
  refine ⟨fun pins s σ H Q I h => ?_⟩
  refine wpAny_Call_method_late hbase hfew hline rfl (thn (ho.run pins s σ H _ I h) fun v s1 got => ?_)
  obtain ⟨x, H1, I1, r1, sep, ex, q1⟩ := got
  subst ex
  obtain ⟨tk, rfl⟩ := (show ∃ t, v = Value.str sep t from r1)
  refine ⟨"str", _, PySem.F.plainAttrs_str, PySem.F.slot_str_join, PySem.F.type_str_join, typeIs_str _ _ _, (fun _ e => nomatch e), ?_⟩
  rw [he]
  refine Calls.callWith_builtin (by show (false || (backTo cpos (starEach [] X.env)).any (·.1)) = false; rw [hplain] <;> rfl) (Calls.evalArgs_plain ?_)
  show wpAny _ _ (spliced ((false, eval e X.env) :: backTo cpos (starEach [] X.env))) _ _ s1
  refine Calls.spliced_cons (thn (hg.run pins s1 σ H1 _ I1 q1) fun u s2 made => Calls.spliced_nil ?_)
  obtain ⟨H2, sc, ex, I2, hex, a, gg, c, rfl, ha1, ha2, isGen, fresh, os2, bare2, lim2, keep2, wake⟩ := made
  -- the list that is collected stands at S
  refine wpAny_call (codeAny_call_builtin F.slot_str_join.plain F.entry_str_join (F.slot_str_join.check _ _ _ _ _ _ _ _ (typeIs_str _ _ _) (F.args_str_join_2 _ _) ?_))
  show wpAny _ X.A.in1 (Builtin.«str.join» ⟨[.str sep tk, .ref a], []⟩) _ _ s2
  rw [join_tree_other]
  refine wpAny_bind (wpAny_typeOf isGen.typeIs ?_)
  show wpAny _ X.A.in1 ((pyIter (.ref a)).tryCatch _ >>= fun it => collect it >>= fun items => joinTail sep items) _ _ s2
  refine wpAny_bind (wpAny_tryCatch (wpAny_pyIter_gen isGen ?_))
  refine wpAny_bind ?_
  unfold collect
  refine wpAny_bind (wpAny_runValue (codeAny_builtin F.entry_proto_collect ?_))
  rw [Around.under_plainId F.plain_proto_collect _]
  show wpAny _ X.A.in1.in1 (newList [] >>= fun l => again (.builtin "list.__iadd__" ⟨[l, .ref a], []⟩)) _ _ s2
  refine wpAny_bind (wpAny_newObj_type ?_)
  refine wpAny_pure ⟨plainId_quiet F.plain_list_iadd _, codeAny_builtin F.entry_list_iadd ?_⟩
  rw [Around.under_plainId F.plain_list_iadd _]
  generalize eS : s2.heap.objs.size = S
  have neS : ∀ b o, s2.heap.get? b = some o → b ≠ S := fun b o q => by rw [← eS]; exact Nat.ne_of_lt (Heap.lt_size q)
  have atS1 : (s2.heap.push { cls := .type "list", data := .seq ([] : List Value).toArray }).get? S = some { cls := .type "list", data := .seq ([] : List Value).toArray } := by rw [← eS]; exact Heap.get?_push_size _ rfl
  have kept1 : ∀ b o, s2.heap.get? b = some o → (s2.heap.push { cls := .type "list", data := .seq ([] : List Value).toArray }).get? b = some o := fun b o q => Heap.get?_push_of_some _ q
  have over : ∀ (h : Heap) (f : Obj → Obj), (∀ b o, s2.heap.get? b = some o → h.get? b = some o) → ∀ b o, s2.heap.get? b = some o → (h.update S f).get? b = some o := fun h f z b o q => (Heap.get?_update_other _ _ (Ne.symm (neS b o q))).trans (z b o q)
  obtain ⟨og, nm, qn, hog, _⟩ := _root_.id isGen
  have Sa : S ≠ a := (neS a og hog).symm
  show wpAny _ X.A.in1.in1 (Builtin.List.listExtendWith (.ref S) (.ref a) (.ref S)) _ _ _
  unfold Builtin.List.listExtendWith
  refine wpAny_bind (wpAny_typeOf (Heap.IsGen.typeIs (s := { s2 with heap := _ }) (isGen.keeps kept1)) ?_)
  have h1 : Builtin.List.listSameRef (.ref S) (.ref a) = false := by simp [Builtin.List.listSameRef, Sa]
  have h2 : (Value.type "generator" == Value.type "list") = false := by decide
  have h3 : (Value.type "generator" == Value.type "tuple") = false := by decide
  simp only [h1, h2, h3, Bool.or_false, Bool.false_eq_true, if_false]
  refine wpAny_bind (wpAny_pyIter_gen (s := { s2 with heap := _ }) (isGen.keeps kept1) ?_)
  refine wpAny_bind (wpAny_holding ?_)
  unfold Builtin.List.listLengthHint
  refine wpAny_bind (wpAny_specialOf (Heap.IsGen.typeIs (s := { s2 with heap := _ }) (isGen.keeps kept1)) F.gen_no_len ?_)
  show wpAny _ X.A.in1.in1 (specialOf (Value.ref a) (Str.ofString "__length_hint__") >>= _) _ _ _
  refine wpAny_bind (wpAny_specialOf (Heap.IsGen.typeIs (s := { s2 with heap := _ }) (isGen.keeps kept1)) F.gen_no_hint ?_)
  refine wpAny_pure ?_
  show wpAny _ X.A.in1.in1 (rule "list.extend.makes-room" >>= fun _ => Builtin.List.listTouch (.ref S) >>= fun _ => again (.builtin "list.extend.loop" ⟨[.ref S, .ref a, .ref S], []⟩)) _ _ _
  refine wpAny_bind (wpAny_rule (wpAny_bind ?_))
  show wpAny _ X.A.in1.in1 (updateSeq S (·.push .none) >>= fun _ => updateSeq S (·.pop)) _ _ _
  refine wpAny_bind (wpAny_updateSeq atS1 rfl ?_)
  have atS2 := Heap.get?_update_self (Obj.mapSeq (·.push Value.none)) atS1 rfl
  refine wpAny_updateSeq atS2 rfl ?_
  have atS3 := Heap.get?_update_self (Obj.mapSeq (·.pop)) atS2 rfl
  have kept3 := over _ (Obj.mapSeq (·.pop)) (over _ (Obj.mapSeq (·.push Value.none)) kept1)
  have low : cStatics < s2.heap.objs.size := let ⟨_, z, _⟩ := lim2; z.lt
  refine wpAny_pure ⟨plainId_quiet F.plain_extend_loop _, ?_⟩
  refine drain (P := X.prog) (w := X.w) (outer := X.stack) (H := H2) (sc := sc) (ex := ex) (EX := fun _ _ _ => False) (Q := fun out H2 => ∃ ws : List Str, out = ws.map V.str ∧ JoinOk sep ws = true ∧ Q (.str (Txt.join sep ws)) H2) (A := X.A.in1) (g := gg) hr.hd (by have := hr.dp; show X.A.depth < _; omega) Sa (by rw [← eS]; exact Nat.ne_of_gt low)
    (fun s' acc cc H' ys q0 q1 ql q2 q3 q4 q5 q6 q7 => ?_) (fun x s' z => ?_) sizeLine _ ?_ ?_ ?_
  rotate_left 2
  · exact isGen.keeps kept3
  · exact lim2.keeps kept3
  · refine ⟨_, fresh, rfl, ?_⟩
    refine wake _ _ _ ⟨hr.hd, ?_, ?_⟩ I2.ok.frames (by show s2.heap.objs.size ≤ S; rw [eS]; exact Nat.le_refl _) kept3 ⟨_, atS3⟩ os2 (allBare_setGen (s := { s2 with heap := _ }) bare2 rfl)
    · have := hr.dp
      show X.A.depth + 3 * k + 5 < _
      omega
    · have := hr.un
      show X.A.units + 1 + 1 + 1 + 16 * k + 200 < _
      omega
  · show wpAny _ X.A.in1 (load S >>= _) _ _ s'
    refine wpAny_bind (wpAny_load q0 ?_)
    refine wpAny_pure ?_
    obtain ⟨ws, ew, jok, q⟩ := q7
    subst ew
    obtain ⟨l, el, e2⟩ := vals_strs q1
    rw [← el]
    have hok : tooLong ((l.map (·.1)).toArray.foldl (· + ·.length + sep.length) 0) = false := by
      rw [e2]
      unfold JoinOk at jok
      rw [Bool.not_eq_true'] at jok
      exact jok
    have g : PySem.Gives (joinTail sep (strValues l)) (joinMade sep l) := by
      have g0 := gives_joinTail sep l hok
      cases l with
      | nil => exact g0
      | cons p r => cases r with
        | nil => exact g0
        | cons p2 r2 => exact g0
    have J := I2.call' (ch := ex) q2 q4 q5 q3 hex
    exact g X.prog X.w X.A (wants (EP X pins σ Q) X.xe) s' (post_join l ⟨joinFit_length hok, fun t' k => ⟨.str _, H', J.tok k, ⟨t', rfl⟩, by rw [e2]; exact q⟩⟩)
  · obtain ⟨_, _, _, _, _, _, _, _, _, _, _, _, z⟩ := z
    exact z.elim
end
end KT
set_option Elab.async false
set_option linter.all false
set_option maxRecDepth 100000
set_option maxHeartbeats 4000000
/-! defs and comprehensions that want a token out -/
namespace KT
open PySem PySem.Spec PyProof.Rows L2
theorem thnT {α : Type} {M : Model} {A : Around} {t : Sem α} {P Q : α → Shared → Prop} {E : Value → Shared → Prop} {s : Shared} (h0 : 1 ≤ s.toks) (h : wpAny M A t P (fun _ _ => False) s) (next : ∀ a s', 1 ≤ s'.toks → P a s' → Q a s') : wpAny M A t Q E s :=
  wpAny_mono (wpAny_toks_of h0 h) (fun a s' z => next a s' z.1 z.2) fun _ _ z => z.2.elim
theorem thnU {α : Type} {M : Model} {A : Around} {t : Sem α} {P Q : α → Shared → Prop} {E : Value → Shared → Prop} {s : Shared} (h0 : 1 ≤ s.toks) (h : wpAny M A t P E s) (next : ∀ a s', 1 ≤ s'.toks → P a s' → Q a s') : wpAny M A t Q E s :=
  wpAny_mono (wpAny_toks_of h0 h) (fun a s' z => next a s' z.1 z.2) fun _ _ z => z.2
section
variable {X : Cx}
/-- y = [elt for target in iter], elt wants a token out -/
theorem pst_setLc {i : Nat} {y : Str} {py : Pos} {elt tg iter : Expr} {scope : Scope} {own : List (Str × Nat)} {pos spos : Pos} {wi : TI} {g : TG} {te : TE} (calm : X.calm = true) (nd : X.N.Nodup) (hy : X.N[i]? = some y) (yLoc : X.env.scope.names.lookup y = some .local)
    (sw : swapsWith (.ListComp elt [⟨tg, iter, [], 0⟩] scope pos) (some (.Name y py)) spos.line X.env = pure true) (walk : PI X tg iter wi) (ok : BlkOk X.N X.env.scope scope own)
    (target : ∀ (s : Shared) (H : Hp) (C : Addr) (cl : List (Str × Addr)) (fp : List Addr), PG (X.blk s H scope (compEnvC scope cl C X.env) fp) tg g)
    (item : ∀ (s : Shared) (H : Hp) (C : Addr) (cl : List (Str × Addr)) (fp : List Addr), PET (X.blk s H scope (compEnvC scope cl C X.env) fp) elt te) (plain : ∀ x, foldedSetIterable iter X.env x = pure x := by intro _; rfl) :
    PST X (.Assign [.Name y py] (.ListComp elt [⟨tg, iter, [], 0⟩] scope pos) spos) (tAsg (tLc wi g tYes te (own.map (·.2))) (gName i)) := by
  intro pins s σ H D t0 I reads
  have reads : tLc wi g tYes te (own.map (·.2)) σ H (fun x H1 => gName i x σ H1 D.nx) := reads
  rw [exec_Assign_Name_used _ _ _ _ sw]
  refine wpAny_bind (wpAny_standAt (wpAny_bind ?_))
  show wpAny _ X.A (do let _ ← comprehension (.ListComp elt [⟨tg, iter, [], 0⟩] scope pos) scope X.env (firstIterPos [⟨tg, iter, [], 0⟩] pos) (newList []) false (eval iter X.env) (some (assign (.Name y py) X.env))) _ _ s
  -- what is done with the list once it is whole
  have keep : ∀ (L C : Addr) (s' : Shared) (m : Str → Option Value) (H' : Hp), Inv X pins σ H' s' → gName i (.ref L) σ H' D.nx → s'.heap.Ns C m → FpOk X pins H' C →
      compPost (model X.prog X.w) X.A X.xe (some (assign (.Name y py) X.env)) (fun _ s2 => SP X pins D .next s2) (.ref L) C (.ok .next) s' := by
    intro L C s' m H' I' told ns away
    obtain ⟨w0, w1, w2, w3, w4, w5⟩ := away
    refine wpAny_assign_Name (store_ok2 (v := V.ref L) I' nd hy (.inl yLoc) rfl (fun s2 I2 ⟨a, same, where_⟩ => ?_) (.inr yLoc))
    have apart : C ≠ a := where_.elim (fun z => by rw [z]; exact w1) fun z e => w4 y a z e.symm
    exact ⟨m, ns.sameBut same apart, fun h3 same3 => ⟨_, H', I2.turned (t' := s2.toks) (fun b o hb e => (same3.2 b hb).trans e) w0 w1 w3 w4 w5, told⟩⟩
  refine wpAny_bind (thn (Q := fun _ s2 => SP X pins D .next s2) ?_ fun _ s' q => wpAny_pure (wpAny_pure q))
  have closes : ∀ n ∈ scope.names, n.2 = .free → ∃ c, X.env.cells.lookup n.1 = some c := fun n hn e => (ok.free n hn e).elim (fun k => I.ok.has _ (.inl k)) fun k => I.ok.has _ (.inr k)
  refine wpAny_comprehension_free (use := some (assign (.Name y py) X.env)) rfl plain (closure_ok closes) ok.kind (fun n hn e => by rw [ok.uniq n hn, e]) ?_
  refine thnU t0 (walk.run pins s σ H _ I reads) fun xv s1 t1 iterates => thnU t1 iterates fun itv s2 t2 started => ?_
  obtain ⟨it, fp, tn, J, H2, rfl, I2, T, st2, away2, more⟩ := started
  refine wpAny_newObj_type (newEnv_comp ?_) (by show 0 ≤ sizeLine; decide)
  generalize eL : s2.heap.objs.size = L
  have nL : H2 L = none := I2.hok.fresh (Nat.le_of_eq eL)
  obtain ⟨W, ⟨m0, w0⟩, turn⟩ := more L nL
  generalize es3 : ({ s2 with heap := s2.heap.push { cls := .type "list", data := .seq ([] : List Value).toArray } } : Shared) = s3
  have tk3 : 1 ≤ s3.toks := by rw [← es3]; exact t2
  have grew : s3.heap = s2.heap.push { cls := .type "list", data := .seq ([] : List Value).toArray } := by rw [← es3]
  have I3 : Inv X pins σ (upd H2 L (.lst [])) s3 := by
    rw [← es3]
    exact I2.laid (t' := s2.toks) (fun b o e => Heap.get?_push_of_some _ e) (Nat.le_of_eq eL) ⟨Nat.zero_le _, [], 0, .nil, by rw [← eL]; exact Heap.get?_push_size _ rfl⟩
  have low : ∀ b ∈ fp, b < L := fun b hb => by
    obtain ⟨o, e, _⟩ := T.obj _ _ st2 b hb
    rw [← eL]
    exact Heap.lt_size e
  have away3 : ∀ b ∈ fp, FpOk X pins (upd H2 L (.lst [])) b ∧ b < s3.heap.objs.size := fun b hb =>
    ⟨⟨by rw [upd_ne (Nat.ne_of_lt (low b hb))]; exact (away2 b hb).1, (away2 b hb).2⟩, by rw [grew, Heap.size_push, eL]; exact Nat.lt_succ_of_lt (low b hb)⟩
  have st3 : tn 0 s3.heap := T.keep _ _ _ st2 fun b _ o e => by rw [grew]; exact Heap.get?_push_of_some _ e
  have I4 := block_start I3 ok nd away3
  have PGt := target s3 (upd H2 L (.lst [])) s3.heap.objs.size (cellsFrom (s3.heap.objs.size + 1) scope.names (cloFrom X.env.cells scope.names [])) fp
  have PEt := item s3 (upd H2 L (.lst [])) s3.heap.objs.size (cellsFrom (s3.heap.objs.size + 1) scope.names (cloFrom X.env.cells scope.names [])) fp
  have none3 : ∀ b ∈ fp, (upd H2 L (.lst [])) b = none := fun b hb => (away3 b hb).1.1
  generalize ece : compEnvC scope (cellsFrom (s3.heap.objs.size + 1) scope.names (cloFrom X.env.cells scope.names [])) s3.heap.objs.size X.env = ce at I4 PGt PEt
  have atL : ce.locals = s3.heap.objs.size := by rw [← ece]; rfl
  show codeAny _ _ (.compStart (.ListComp elt [⟨tg, iter, [], 0⟩] scope pos) 0 (.ref it) (.ref L) (compEnvC scope (cellsFrom (s3.heap.objs.size + 1) scope.names (cloFrom X.env.cells scope.names [])) s3.heap.objs.size X.env)) (compPost (model X.prog X.w) X.A X.xe (some (assign (.Name y py) X.env)) (fun _ s2 => SP X pins D .next s2) (.ref L) s3.heap.objs.size) { s3 with heap := pushCells (s3.heap.push { cls := .type "dict", data := .dict #[] }) scope.names }
  rw [ece]
  generalize eH3 : upd H2 L (.lst []) = H3 at I3 I4 PGt PEt w0 none3 away3
  generalize es4 : ({ s3 with heap := pushCells (s3.heap.push { cls := .type "dict", data := .dict #[] }) scope.names } : Shared) = s4 at I4 ⊢
  have tk4 : 1 ≤ s4.toks := by rw [← es4]; exact tk3
  have st4 : tn 0 s4.heap := T.keep _ _ _ st3 fun b _ o e => by rw [← es4]; exact pushCells_keeps _ _ _ _ (Heap.get?_push_of_some _ e)
  have inBlk : ∀ {σ' : L2.St} {H' : Hp} {s' : Shared}, Inv (X.blk s3 H3 scope ce fp) [] σ' H' s' → (∀ b ∈ fp, H' b = none) → ∀ b ∈ fp, FpOk (X.blk s3 H3 scope ce fp) [] H' b := fun {σ' H' s'} J' nn b hb =>
    ⟨nn b hb, (J'.ok.exf b hb).1, J'.ok.exfs b hb, .inl hb, fun x c e => (J'.ok.exf b hb).2 x c e, fun p hp => absurd (show p ∈ ([] : List (Addr × Obj)) ++ [] from hp) (by simp)⟩
  have whole : codeAny (model X.prog X.w) X.A (.compLoop (.ListComp elt [⟨tg, iter, [], 0⟩] scope pos) 0 (.ref it) (.ref L) ce) (compPost (model X.prog X.w) X.A X.xe (some (assign (.Name y py) X.env)) (fun _ s2 => SP X pins D .next s2) (.ref L) s3.heap.objs.size) s4 := by
    refine compLoop_any (fun n s' => 1 ≤ s'.toks ∧ ∃ j H', Inv (X.blk s3 H3 scope ce fp) [] (wipe σ (own.map (·.2))) H' s' ∧ tn j s'.heap ∧ (∀ b ∈ fp, H' b = none) ∧ W j n H') ?_ m0 ⟨tk4, 0, H3, I4, st4, none3, w0⟩
    rintro n s5 ⟨tk5, j, H5, I5, st5, n5, w5⟩
    rcases turn j n H5 w5 with ⟨stop, ends⟩ | ⟨go, Nx, hNx, step⟩
    · refine thnT tk5 (T.done (X.blk s3 H3 scope ce fp) rfl rfl rfl calm j [] s5 _ H5 (fun _ _ => False) I5 (inBlk I5 n5) st5 stop) fun r s6 _ ⟨er, I6⟩ => ?_
      subst er
      have I7 : Inv X pins σ H5 s6 := I3.call' (ch := fp) I6.os I6.base I6.hok I6.bare fun b hb => ⟨(away3 b hb).1.2.2.2.1, (away3 b hb).1.2.1, (away3 b hb).1.2.2.2.2.1, (away3 b hb).1.2.2.2.2.2⟩
      obtain ⟨m, ns, _⟩ := I6.loc
      have nC : H5 ce.locals = none := I6.free
      have ns : s6.heap.Ns ce.locals m := ns
      rw [atL] at nC ns
      exact keep L s3.heap.objs.size s6 m H5 I7 ends ns (I3.fpOk (Nat.le_refl _) nC)
    · refine thnT tk5 (T.item (X.blk s3 H3 scope ce fp) rfl rfl rfl calm j [] s5 _ H5 (fun _ _ => False) I5 (inBlk I5 n5) st5 go) fun r s6 tk6 ⟨u, er, goes⟩ => ?_
      subst er
      refine thnT tk6 goes fun _ s7 tk7 ⟨x, H7, I7, r7, y7, st7, n7⟩ => ?_
      refine thnT tk7 (PGt.run _ s7 _ H7 x u _ (I7.pinned (inBlk I7 n7) (T.obj _ _ st7)) r7 (step x H7 y7)) fun _ s8 tk8 ⟨σ8, H8, I8, same8, q8⟩ => ?_
      refine wpAny_tests_nil ?_
      show wpAny _ _ (eval elt ce) _ _ s8
      have q8 : te σ8 H8 fun y H4 => ∃ acc, H4 L = some (.lst acc) ∧ acc.length < sizeLine ∧ Nx (upd H4 L (.lst (acc ++ [y]))) := by
        have z := q8
        unfold tYes at z
        dsimp only at z
        rw [if_pos rfl] at z
        exact z
      refine thnT tk8 (PEt _ s8 σ8 H8 _ tk8 I8 q8) fun z s9 tk9 ⟨yv, H9, I9, r9, acc, gL, small, nx⟩ => ?_
      refine wpAny_with_toks tk9 (app_ok (X := X.blk s3 H3 scope ce fp) I9 gL small r9 fun s10 I10 tk10 => ?_)
      obtain ⟨m', hm, w'⟩ := hNx _ nx
      have still : ∀ b ∈ fp, ∀ o, s7.heap.get? b = some o → s10.heap.get? b = some o ∧ (upd H9 L (.lst (acc ++ [yv]))) b = none := fun b hb o e =>
        let p := I10.pin (b, o) (List.mem_append_right _ (List.mem_append_right _ (mem_pinsAt hb e)))
        ⟨p.1, p.2.1⟩
      have ln : (wipe σ (own.map (·.2))).length = σ8.length := by rw [← same8, wipe_length]
      refine ⟨m', hm, tk10, j + 1, _, (I10.unpinned (pins := [])).weak ln (fun k v e => ?_), T.keep _ _ _ st7 fun b hb o e => (still b hb o e).1, fun b hb => ?_, w'⟩
      · rw [← same8] at e
        exact (wipe_some e).1
      · obtain ⟨o, e, _⟩ := T.obj _ _ st7 b hb
        exact (still b hb o e).2
  exact codeAny_compStart_list whole (T.self X.A 0 _ _ _ st4 whole)
end
section
variable {P : Program} {w : World} {K : PySem.W.Frag} {mg : Str → Option Value} {base : Heap}
/-- a def with a parameter at least: a token is out where its body begins -/
theorem mkFT {d : He.DefD} {N ps : List Str} {k : Nat} {sp : Sp} (F : FnT K d) (S : FnScope N ps d.scope) (hd : d.dfl = []) (hnc : ∀ y ∈ d.scope.names, y.2 ≠ .cell) (hps : 1 ≤ ps.length)
    (hb : ∀ (kV doc pm : Value) (an : Option Addr) (cdv ct : Value) (us : List Value), us.length = ps.length → bindArgs (PySem.W.fnOf d.name d.qual d.params d.body d.scope .none kV doc pm an cdv ct) ⟨us, []⟩ = pure (ps.zip us))
    (len : ∀ vs H Q E, sp vs H Q E → vs.length = ps.length)
    (hbody : ∀ (cdv : Value) (A : Around) (outer : List Env) (s : Shared) (H : Hp) (vs : List V) (Q : VK) (E : XK),
      PySem.W.codeIn K cdv d.qual = true → cdv = .ref (He.codeOf K d.at_) →
      Room k (CxD P w K mg base N d cdv A outer s H E).A → sp vs H Q E →
      ∃ t, PSsT (CxD P w K mg base N d cdv A outer s H E) d.body t ∧ t { nx := fun _ H' => Q .non H', rt := Q } (start N vs) H) : Fk P w K mg base (k + 1) (Ad K d.at_) ps sp := by
  have e0 : d.dvs K = [] := by unfold He.DefD.dvs; rw [hd]; rfl
  have F' : FunD K d.name d.qual d.params d.body d.scope [] (d.kws K) (Ad K d.at_) (fdOf K (Ad K d.at_)) := by
    have z := F
    unfold FnT at z
    rw [e0] at z
    exact z
  refine ⟨?_, F'.bindsN hb, F'.kp⟩
  obtain ⟨oc, od, dV, kV, doc, pm, an, cdv, ct, osl, e, lk, hcd, _, _⟩ := F'.ex
  have hcode : cdv = .ref (He.codeOf K d.at_) := by
    obtain ⟨c, hc⟩ := He.codeIn_ref hcd
    rw [hc, He.codeOf_eq lk (by rw [e]; exact hc)]
  rw [e] at lk ⊢
  exact fn_ofT lk hcd S hnc hps len fun A outer s H vs Q E hr hsp => hbody cdv A outer s H vs Q E hcd hcode hr hsp
end
end KT
set_option Elab.async false
set_option linter.all false
set_option maxRecDepth 100000
set_option maxHeartbeats 4000000
namespace KT
open PySem PySem.Spec PyProof.Rows L2 GxR
variable [GT]
theorem ite_yesO {b : Bool} {A B : Prop} (h : b = true) (ha : A) : if b = true then A else B := by rw [if_pos h]; exact ha
theorem ite_noO {b : Bool} {A B : Prop} (h : b = false) (hb : B) : if b = true then A else B := by rw [h, if_neg (by decide)]; exact hb
section
variable {P : Program} {w : World} {K : PySem.W.Frag} {mg : Str → Option Value} {base : Heap}
/-- what refusing checks of tapes promise: m at most, the first that isn't okB refused -/
def sp_chkX (K : PySem.W.Frag) (m : Nat) (okB : List V → Bool) : Sp := fun vs H Q E => ∃ a as xss, vs = [.ref a] ∧ SqT K H a (as.map V.ref) ∧ TupsAt K H as xss ∧ (∀ xs ∈ xss, OddOk K xs) ∧ xss.length ≤ 100 ∧ TabG H (tS K) ∧
  ((∀ i (h : i < xss.length), i < m ∧ okB xss[i] = true) → ∀ H', Kq [] H H' → Q .non H') ∧
  ∀ i (h : i < xss.length), (∀ j (hj : j < i), j < m ∧ okB (xss[j]'(by omega)) = true) → ¬ (i < m ∧ okB xss[i] = true) → ∀ d H1, Kq [] H H1 → H1 d = none → E (.ref (He.ga K "BadKeys")) (some d) (upd H1 d (.xd [("at", .int (i : Nat))]))
theorem sc_check_keysX : FnScope ["keys"] ["keys"] (defScope s_check_keys) := ⟨rfl, rfl, rfl, by decide +kernel, rfl, by decide +kernel, by decide +kernel⟩
theorem ok_check_keysX (T : Tx w K mg) (hP : SupP P fileS) (B : TabB base mg (cS K) (tS K)) : Fk P w K mg base 8 (Ad K d_check_keys.at_) ["keys"] (sp_chkX K 30 (keyB actB)) := by
  obtain ⟨t_MOST_KEYS, h_MOST_KEYS⟩ := T.i_MOST_KEYS
  have F_check_eachX := ok_check_eachX (P := P) (base := base) T hP (Ad K d_is_key.at_) (keyB actB) ((bel_key (P := P) (base := base) T B).mono (by decide))
  refine mkF T.f_check_keys sc_check_keysX rfl (fun _ _ _ _ _ _ us hl => match us, hl with | [_], _ => rfl) (fun vs H Q E h => by obtain ⟨_, _, _, rfl, _⟩ := h; rfl) (fun cdv A outer s H vs Q E hcd hcode hr h => ?_)
  refine ⟨_, (pss_one (ps_expr (pe_cF F_check_eachX (hr.mono (by decide)) T.g_check_each px (pa_cons (pv 0) (pa_cons (pe_glob (v := .int 30) (by rfl) h_MOST_KEYS ⟨_, rfl⟩) (pa_cons (pe_glob (v := .ref (Ad K d_is_key.at_)) rfl T.g_is_key rfl) pa_nil)))))), ?_⟩
  obtain ⟨a, as, xss, rfl, ha, hk, hok, h100, hT, kQ, kE⟩ := h
  exact ⟨_, rfl, a, as, xss, 30, rfl, ha, hk, hok, h100, hT, kQ, kE⟩
end
/-! ### the first that doesn't belong -/
def firstBad (m : Nat) (okB : List V → Bool) : Nat → List (List V) → Option Nat
  | _, [] => none
  | i, xs :: r => if i < m ∧ okB xs = true then firstBad m okB (i + 1) r else some i
theorem firstBad_none {m : Nat} {okB : List V → Bool} : ∀ (i : Nat) (xss : List (List V)), firstBad m okB i xss = none → ∀ j (h : j < xss.length), i + j < m ∧ okB xss[j] = true
  | _, [], _, j, h => by simp at h
  | i, xs :: r, e, j, h => by
    have e : (if i < m ∧ okB xs = true then firstBad m okB (i + 1) r else some i) = none := e
    split at e
    · rename_i z
      cases j with
      | zero => exact z
      | succ j =>
        have := firstBad_none (i + 1) r e j (by simpa using h)
        exact ⟨by omega, this.2⟩
    · cases e
theorem firstBad_some {m : Nat} {okB : List V → Bool} : ∀ (i : Nat) (xss : List (List V)) (k : Nat), firstBad m okB i xss = some k → ∃ j, ∃ h : j < xss.length, k = i + j ∧ (∀ l (hl : l < j), i + l < m ∧ okB (xss[l]'(by omega)) = true) ∧ ¬ (i + j < m ∧ okB xss[j] = true)
  | _, [], _, e => by cases e
  | i, xs :: r, k, e => by
    have e : (if i < m ∧ okB xs = true then firstBad m okB (i + 1) r else some i) = some k := e
    split at e
    · rename_i z
      obtain ⟨j, h, e1, h2, h3⟩ := firstBad_some (i + 1) r k e
      refine ⟨j + 1, by simpa using h, by omega, fun l hl => ?_, fun q => h3 ⟨by omega, q.2⟩⟩
      cases l with
      | zero => exact z
      | succ l =>
        have := h2 l (by omega)
        exact ⟨by omega, this.2⟩
    · rename_i z
      exact ⟨0, by simp, by injection e with e; omega, fun l hl => by omega, z⟩
theorem firstBad_of {m : Nat} {okB : List V → Bool} : ∀ (i : Nat) (xss : List (List V)), (∀ j (h : j < xss.length), i + j < m ∧ okB xss[j] = true) → firstBad m okB i xss = none
  | _, [], _ => rfl
  | i, xs :: r, h => by
    show (if i < m ∧ okB xs = true then firstBad m okB (i + 1) r else some i) = none
    rw [if_pos (show i < m ∧ okB xs = true from h 0 (by simp))]
    refine firstBad_of (i + 1) r fun j hj => ?_
    have := h (j + 1) (by simpa using hj)
    exact ⟨by omega, this.2⟩
/-- keys as tuples of values -/
theorem KeysAt.tups {K : PySem.W.Frag} {H : Hp} {as : List Addr} {ks : List Ky} (h : KeysAt K H as ks) : TupsAt K H as (ks.map keyV) := by
  induction h with
  | nil => exact .nil
  | cons g _ ih => exact .cons g ih
end KT
set_option Elab.async false
set_option linter.all false
set_option maxRecDepth 100000
set_option maxHeartbeats 4000000
namespace KT
open PySem PySem.Spec PyProof.Rows L2 GxR
variable [GT]
/-- str(x) of a text or a number -/
theorem call_strA {X : Cx} : CallR X (.type "str") (fun xs H Q => (∃ a, xs = [.str a] ∧ Q (.str a) H) ∨ ∃ i : Int, xs = [.int i] ∧ i.natAbs.log2 < 1920 ∧ Q (.str (toString i)) H) := by
  intro pins s σ H xs us Q I r h
  rcases h with ⟨a, e, q⟩ | ⟨i, e, hl, q⟩
  · exact SkE.call_str_str pins s σ H xs us Q I r ⟨a, e, q⟩
  · exact call_str_int pins s σ H xs us Q I r ⟨i, e, hl, q⟩
section
variable {P : Program} {w : World} {K : PySem.W.Frag} {mg : Str → Option Value} {base : Heap}
theorem Tx.withs (T : Tx w K mg) (H : Hp) : SqT K H (He.ga K "WITH_SIGNS") withV := He.tupB_ok T.tupB_WITH_SIGNS H
def sp_word_of : Sp := fun vs H Q _ => ∃ l : Ln, vs = [.str (S l)] ∧ l.length ≤ 1000 ∧ Q (.str (S (quote l))) H
theorem sc_word_of : FnScope ["signs"] ["signs"] (defScope s_word_of) := ⟨rfl, rfl, rfl, by decide +kernel, rfl, by decide +kernel, by decide +kernel⟩
theorem ok_word_of (T : Tx w K mg) : Fk P w K mg base 1 (Ad K d_word_of.at_) ["signs"] sp_word_of := by
  refine mkFT T.f_word_of sc_word_of rfl (by decide +kernel) (by decide) (fun _ _ _ _ _ _ us hl => match us, hl with | [_], _ => rfl) (fun vs H Q E h => by obtain ⟨_, rfl, _⟩ := h; rfl) (fun cdv A outer s H vs Q E hcd hcode hr h => ?_)
  refine ⟨_, (CwR.psst_one (CwR.pst_ret (CwR.pet_replT (CwR.pet_replC (pv 0))))), ?_⟩
  obtain ⟨l, rfl, hl, kQ⟩ := h
  refine ⟨_, rfl, _, rfl, ?_, _, rfl, ?_, ?_⟩
  · rw [S_len]; show l.length + (l.length + 1) * 2 ≤ 16777216; omega
  · have e : (Txt.replace (S l) (Str.ofString "~") (Str.ofString "~~")).length ≤ l.length + (l.length + 1) * 2 := by
      have := TK.replace_len (S l) (Str.ofString "~") (Str.ofString "~~")
      rw [S_len] at this
      exact this
    show _ + (_ + 1) * 2 ≤ 16777216
    omega
  · have e : Txt.replace (Txt.replace (S l) (Str.ofString "~") (Str.ofString "~~")) (Str.ofString " ") (Str.ofString "~_") = S (quote l) := by
      refine TL.ext_tl ?_
      show (Txt.replace _ _ _).cps.toList = quote l
      rw [StrLaws.replace_list (by decide +kernel), StrLaws.replace_list (by decide +kernel)]
      rw [show (Str.ofString "~").cps.toList = [126] by decide +kernel, show (Str.ofString "~~").cps.toList = [126, 126] by decide +kernel, show (Str.ofString " ").cps.toList = [32] by decide +kernel, show (Str.ofString "~_").cps.toList = [126, 95] by decide +kernel]
      exact repl_quote l
    rw [← e] at kQ
    exact kQ
def sp_words_of (K : PySem.W.Frag) : Sp := fun vs H Q _ => ∃ a ky, vs = [.ref a] ∧ KeyAt K H a ky ∧ ky.Ok ∧ ∀ q H', Kq [] H H' → H q = none → H' q = some (.lst ((wordsS ky).map V.str)) → Q (.ref q) H'
theorem sc_words_of : FnScope ["key", "part"] ["key"] (defScope s_words_of) := ⟨rfl, rfl, rfl, by decide +kernel, rfl, by decide +kernel, by decide +kernel⟩
theorem ok_words_of (T : Tx w K mg) : Fk P w K mg base 2 (Ad K d_words_of.at_) ["key"] (sp_words_of K) := by
  have F_word_of := ok_word_of (P := P) (base := base) T
  refine mkF T.f_words_of sc_words_of rfl (fun _ _ _ _ _ _ us hl => match us, hl with | [_], _ => rfl) (fun vs H Q E h => by obtain ⟨_, _, rfl, _⟩ := h; rfl) (fun cdv A outer s H vs Q E hcd hcode hr h => ?_)
  refine ⟨_, (pss_cons (ps_if (pt_cmpR op_in_seq (pe_ix ix_tup (pv 0) pe_int (fun _ _ => rfl)) (pe_glob (v := .ref (He.ga K "WITH_SIGNS")) (by rfl) T.g_WITH_SIGNS rfl) (by rfl)) (pss_one (ps_ret (pe_lst (pa_cons (pe_ix ix_tup (pv 0) pe_int (fun _ _ => rfl)) (pa_cons (pe_cF F_word_of (hr.mono (by decide)) T.g_word_of px (pa_cons (pe_ix ix_tup (pv 0) pe_int (fun _ _ => rfl)) pa_nil)) pa_nil))))) pss_nil)
      (pss_one (ps_ret (pe_lc (own := [("part", 1)]) (by rfl) sc_words_of.nd (pi_tup (pv 0)) (blkOk_by (own := [("part", 1)]) (N := ["key", "part"]) (sc := defScope s_words_of) (by decide +kernel)) (fun _ _ _ _ _ => (pg_name (i := 1) sc_words_of.nd rfl (.inl rfl))) (fun _ _ _ _ _ => pts_nil) (fun _ _ _ _ _ => (pe_callTy call_strA (by rfl) T.n_str (by decide +kernel) (pa_cons (pv 1) pa_nil))))))), ?_⟩
  obtain ⟨a, ky, rfl, hk, kok, kQ⟩ := h
  have hsm := keyV_small kok
  obtain ⟨z, e0, hz⟩ := words_head ky
  refine ⟨_, rfl, a, _, _, .str z, rfl, rfl, hk, at_of (j := 0) rfl e0, _, _, rfl, .inr (T.withs H), rfl, by decide +kernel, _, rfl, ?_⟩
  rcases hz with ⟨hin, s, ek, ew⟩ | ⟨hin, ew⟩
  · refine ite_yesO hin ?_
    have hk2 : SqT K H a [.str z, .str (S s)] := by
      have h2 : SqT K H a (keyV ky) := hk
      rw [ek] at h2
      exact h2
    have hs : s.length ≤ 1000 := by
      have := hsm (.str (S s)) (by rw [ek]; simp)
      have : (S s).length ≤ 1000 := this
      rw [S_len] at this
      exact this
    refine ⟨_, rfl, a, _, _, _, rfl, rfl, hk2, at_of (j := 0) rfl rfl, _, rfl, a, _, _, _, rfl, rfl, hk2, at_of (j := 1) rfl rfl, s, rfl, hs, line16 (by show 2 ≤ 1000000; decide), fun q nq => ?_⟩
    exact kQ q _ (Kq.alloc nq) nq (by rw [upd_same, ew]; rfl)
  · refine ite_noO hin ?_
    refine ⟨_, rfl, a, rfl, ⟨_, hk⟩, fun D nD => ?_⟩
    refine lc_tup (K := K) (a := a) (xs := keyV ky) (fun i H' => Kq [] H H' ∧ H' D = some (.lst (((keyV ky).take i).map fun v => V.str (strV v)))) ⟨Kq.alloc nD, upd_same⟩ (fun i H' _ h => h.1.tup hk) ?_ ?_
    · rintro i x H' hx ⟨k1, gD⟩
      have hxm := List.mem_of_getElem? hx
      have hi : i < (keyV ky).length := (List.getElem?_eq_some_iff.mp hx).1
      refine ⟨rfl, ?_⟩
      unfold tYes
      dsimp only
      rw [if_pos rfl]
      have fin : ∀ y, y = strV x → ∃ acc, H' D = some (.lst acc) ∧ acc.length < sizeLine ∧ (Kq [] H (upd H' D (.lst (acc ++ [.str y]))) ∧ (upd H' D (.lst (acc ++ [.str y]))) D = some (.lst (((keyV ky).take (i + 1)).map fun v => V.str (strV v)))) := fun y ey => by
        subst ey
        refine ⟨_, gD, ?_, k1.writeF nD gD, ?_⟩
        · rw [List.length_map, List.length_take]
          have : (keyV ky).length ≤ 3 := by cases ky <;> (show _ ≤ 3; simp [keyV])
          exact small1000 (by omega)
        · rw [upd_same, List.take_succ, hx]
          simp
      refine ⟨_, rfl, ?_⟩
      rcases keyV_str ky x hxm with ⟨y, rfl⟩ | ⟨j, rfl, n, m, ek, ej⟩
      · exact .inl ⟨y, rfl, fin y rfl⟩
      · refine .inr ⟨j, rfl, ?_, fin _ rfl⟩
        have h9 : m ≤ 9 := by rw [ek] at kok; exact kok.2.2
        rw [ej, Int.natAbs_natCast]
        exact Nat.lt_of_le_of_lt (Nat.log2_le_self m) (by omega)
    · rintro H' ⟨k1, gD⟩
      rw [List.take_length] at gD
      exact kQ D H' k1 nD (by rw [gD, ew, List.map_map]; rfl)
def sp_row_of (K : PySem.W.Frag) : Sp := fun vs H Q _ => ∃ t n ks, vs = [.str (nameS n), .ref t] ∧ TapeAt K H t ks ∧ (∀ k ∈ ks, k.Ok) ∧ ks.length ≤ 30 ∧ ∀ H', Kq [] H H' → Q (.str (rowS n ks)) H'
theorem sc_row_of : FnScope ["name", "keys", "words", "key"] ["name", "keys"] (defScope s_row_of) := ⟨rfl, rfl, rfl, by decide +kernel, rfl, by decide +kernel, by decide +kernel⟩
theorem ok_row_of (T : Tx w K mg) : Fk P w K mg base 3 (Ad K d_row_of.at_) ["name", "keys"] (sp_row_of K) := by
  have F_words_of := ok_words_of (P := P) (base := base) T
  refine mkF T.f_row_of sc_row_of rfl (fun _ _ _ _ _ _ us hl => match us, hl with | [_, _], _ => rfl) (fun vs H Q E h => by obtain ⟨_, _, _, rfl, _⟩ := h; rfl) (fun cdv A outer s H vs Q E hcd hcode hr h => ?_)
  have po : PassesOwn (model P w) (CxD P w K mg base ["name", "keys", "words", "key"] d_row_of cdv A outer s H E).A (CxD P w K mg base ["name", "keys", "words", "key"] d_row_of cdv A outer s H E).env (CxD P w K mg base ["name", "keys", "words", "key"] d_row_of cdv A outer s H E).xe := passes_of rfl
  refine ⟨_, (pss_cons (ps_asg (pe_lst (pa_cons (pv 0) pa_nil)) (pg_name (i := 2) sc_row_of.nd rfl (.inl rfl)))
      (pss_cons (ps_for po rfl (pi_tup (pv 1)) (pg_name (i := 3) sc_row_of.nd rfl (.inl rfl)) (pss_one (ps_expr (pe_bm PySem.F.plainAttrs_list PySem.F.slot_list_extend PySem.F.type_list_extend mt_extend (pv 2) (pa_cons (pe_cF F_words_of (hr.mono (by decide)) T.g_words_of px (pa_cons (pv 3) pa_nil)) pa_nil)))))
      (pss_one (ps_ret (pe_join pe_str (pv 2)))))), ?_⟩
  obtain ⟨t, n, ks, rfl, ⟨as, ht, hks⟩, hok, h30, kQ⟩ := h
  refine ⟨_, rfl, line16 (by show 1 ≤ 1000000; decide), fun L nL => ?_⟩
  have k0 : Kq [] H (upd H L (.lst [.str (nameS n)])) := Kq.alloc nL
  refine ⟨_, rfl, t, rfl, ⟨_, k0.tup ht⟩, ?_⟩
  refine for_tup (K := K) (a := t) (xs := as.map V.ref) (fun i σ H' => Kq [] H H' ∧ H' L = some (.lst ((rowW n (ks.take i)).map V.str)) ∧ ∃ v, σ = [some (.str (nameS n)), some (.ref t), some (.ref L), v]) ⟨k0, upd_same, none, rfl⟩ (fun i σ H' _ z => z.1.tup ht) ?_ ?_
  · rintro i x σ H' hx ⟨k1, gL, v, rfl⟩
    rw [List.getElem?_map] at hx
    obtain ⟨a, ha, rfl⟩ := Option.map_eq_some_iff.mp hx
    have hi : i < as.length := (List.getElem?_eq_some_iff.mp ha).1
    have hik : i < ks.length := by rw [← hks.len]; exact hi
    have hka := (k1.keys hks).at_ hi hik
    have ea : as[i] = a := by rw [List.getElem?_eq_getElem hi] at ha; exact Option.some.inj ha
    rw [ea] at hka
    refine ⟨_, rfl, .inl ⟨rfl, _, SqL.of gL⟩, _, rfl, a, ks[i], rfl, hka, hok _ (List.getElem_mem hik), fun q H2 k2 nq gq => ?_⟩
    have gL2 := k2.get gL
    have hkok : ∀ k ∈ ks.take i, k.Ok := fun k hk => hok k (List.mem_of_mem_take hk)
    have l1 := (rowW_len (n := n) hkok (by rw [List.length_take]; omega)).1
    have l2 := (wordsS_len (hok _ (List.getElem_mem hik))).1
    refine ⟨L, q, _, _, rfl, rfl, gL2, gq, line16 (by rw [List.length_map, List.length_map]; omega), ?_⟩
    have e : (rowW n (ks.take i)).map V.str ++ (wordsS ks[i]).map V.str = (rowW n (ks.take (i + 1))).map V.str := by
      rw [← List.map_append, List.take_succ, List.getElem?_eq_getElem hik]
      unfold rowW
      rw [List.flatMap_append]
      simp
    rw [e]
    exact ⟨(k1.trans k2).writeF nL gL2, upd_same, _, rfl⟩
  · rintro σ H' ⟨k1, gL, v, rfl⟩
    have el : as.length = ks.length := hks.len
    rw [List.length_map, el, List.take_length] at gL
    obtain ⟨h1, h2⟩ := rowW_len (n := n) hok h30
    refine ⟨⟨_, rfl⟩, _, rfl, bS, L, rowW n ks, rfl, rfl, .inl (SqL.of gL), ?_, kQ H' k1⟩
    have hb : bS.length = 1 := by decide +kernel
    rw [hb]
    omega
end
end KT
set_option Elab.async false
set_option linter.all false
set_option maxRecDepth 100000
set_option maxHeartbeats 4000000
namespace KT
open PySem PySem.Spec PyProof.Rows L2 GxR
variable [GT]
section
variable {P : Program} {w : World} {K : PySem.W.Frag} {mg : Str → Option Value} {base : Heap}
theorem put_keys8 {kvs : List (Key × V)} {k : Key} {v : V} (h : k ∈ kvs.map (·.1)) : (putK kvs k v).map (·.1) = kvs.map (·.1) := by
  unfold putK
  have : (kvs.any fun kv => decide (kv.fst = k)) = true := by
    rw [List.any_eq_true]
    obtain ⟨p, hp, e⟩ := List.mem_map.mp h
    exact ⟨p, hp, decide_eq_true e⟩
  rw [if_pos this, List.map_map]
  refine List.map_congr_left fun p _ => ?_
  simp only [Function.comp]
  split <;> simp_all
theorem name_mem {n : Nat} (h : n < 8) : (.inr (nameS n) : Key) ∈ names8 := by
  rw [← names8_at h]
  exact List.getElem_mem _
theorem name_inj {i n : Nat} (h : nameS i = nameS n) : i = n := by
  have := S_inj h
  simp at this
  omega
def sp_check_name (K : PySem.W.Frag) : Sp := fun vs H Q E => ∃ v, vs = [v] ∧ flatV v = true ∧ (nameB v = true → Q .non H) ∧ (nameB v = false → E (.ref (He.ga K "BadName")) none H)
def sp_check_each (K : PySem.W.Frag) : Sp := fun vs H Q _ => ∃ a as ks m, vs = [.ref a, .int m, .ref (Ad K d_is_key.at_)] ∧ SqT K H a (as.map V.ref) ∧ KeysAt K H as ks ∧ (∀ k ∈ ks, k.Ok) ∧ (ks.length : Int) ≤ m ∧ TabG H (tS K) ∧ ∀ H', Kq [] H H' → Q .non H'
theorem sc_check_each : FnScope ["keys", "most", "belongs", "at", "key"] ["keys", "most", "belongs"] (defScope s_check_each) := ⟨rfl, rfl, rfl, by decide +kernel, rfl, by decide +kernel, by decide +kernel⟩
theorem ok_check_each (T : Tx w K mg) (B : TabB base mg (cS K) (tS K)) : Fk P w K mg base 4 (Ad K d_check_each.at_) ["keys", "most", "belongs"] (sp_check_each K) := by
  have F_is_key := ok_is_key (P := P) (base := base) T B
  refine mkF T.f_check_each sc_check_each rfl (fun _ _ _ _ _ _ us hl => match us, hl with | [_, _, _], _ => rfl) (fun vs H Q E h => by obtain ⟨_, _, _, _, rfl, _⟩ := h; rfl) (fun cdv A outer s H vs Q E hcd hcode hr h => ?_)
  have po : PassesOwn (model P w) (CxD P w K mg base ["keys", "most", "belongs", "at", "key"] d_check_each cdv A outer s H E).A (CxD P w K mg base ["keys", "most", "belongs", "at", "key"] d_check_each cdv A outer s H E).env (CxD P w K mg base ["keys", "most", "belongs", "at", "key"] d_check_each cdv A outer s H E).xe := passes_of rfl
  refine ⟨_, (pss_one (ps_for po rfl (pi_enumT (by rfl) T.n_enumerate (pa_cons (pv 0) pa_nil)) (pg_tup rfl (pgs_cons (pg_name (i := 3) sc_check_each.nd rfl (.inl rfl)) (pgs_cons (pg_name (i := 4) sc_check_each.nd rfl (.inl rfl)) pgs_nil))) (pss_one (ps_if ((pw_or (pt_cmpR op_ge (pv 3) (pv 1) (nomark _)) (pw_or1 (pt_not (pt_val (pe_callV (i := 2) hr px (pa_cons (pv 4) pa_nil))))))).pt (pss_one ps_never) pss_nil)))), ?_⟩
  obtain ⟨a, as, ks, m, rfl, ha, hk, hok, hm, hT, kQ⟩ := h
  refine ⟨_, rfl, a, _, rfl, ha, ?_⟩
  refine for_enumT (K := K) (a := a) (xs := as.map V.ref) (fun i σ H' => Kq [] H H' ∧ ∃ v1 v2, σ = [some (.ref a), some (.int m), some (.ref (Ad K d_is_key.at_)), v1, v2]) ⟨Kq.refl, none, none, rfl⟩ (fun i σ H' z => z.1.tup ha) ?_ ?_
  · rintro i x Tq σ H' hx ⟨k1, v1, v2, rfl⟩ nT
    have hi : i < as.length := by
      have := (List.getElem?_eq_some_iff.mp hx).1
      rwa [List.length_map] at this
    have hl := hk.len
    have hik : i < ks.length := by omega
    rw [List.getElem?_map, List.getElem?_eq_getElem hi] at hx
    cases hx
    have kT : Kq [] H' (upd H' Tq (.tup [.int (i : Nat), .ref as[i]])) := Kq.alloc nT
    have k2 := k1.trans kT
    have hki := (k2.keys hk).at_ hi hik
    have kok := hok _ (List.getElem_mem hik)
    refine ⟨Tq, _, rfl, SqT.of upd_same, rfl, _, _, rfl, _, _, rfl, rfl, ?_⟩
    refine ⟨_, rfl, _, rfl, _, _, rfl, rfl, _, rfl, iteD (fun h => absurd h (by omega)) (fun _ => ?_)⟩
    refine ⟨_, _, _, rfl, F_is_key, _, rfl, as[i], keyV ks[i], fun _ => true, rfl, hki, keyV_small kok, k2.tab _ hT, fun x e => act_ok T x e, fun H3 k3 => ?_⟩
    rw [keyB_ok kok]
    exact ⟨_, rfl, iteF ⟨k2.trans k3, _, _, rfl⟩⟩
  · rintro σ H' ⟨k1, v1, v2, rfl⟩
    exact kQ H' k1
def sp_check_keys (K : PySem.W.Frag) : Sp := fun vs H Q _ => ∃ a as ks, vs = [.ref a] ∧ SqT K H a (as.map V.ref) ∧ KeysAt K H as ks ∧ (∀ k ∈ ks, k.Ok) ∧ ks.length ≤ 30 ∧ TabG H (tS K) ∧ ∀ H', Kq [] H H' → Q .non H'
theorem sc_check_keys : FnScope ["keys"] ["keys"] (defScope s_check_keys) := ⟨rfl, rfl, rfl, by decide +kernel, rfl, by decide +kernel, by decide +kernel⟩
theorem ok_check_keys (T : Tx w K mg) (B : TabB base mg (cS K) (tS K)) : Fk P w K mg base 5 (Ad K d_check_keys.at_) ["keys"] (sp_check_keys K) := by
  obtain ⟨t_MOST_KEYS, h_MOST_KEYS⟩ := T.i_MOST_KEYS
  have F_check_each := ok_check_each (P := P) (base := base) T B
  refine mkF T.f_check_keys sc_check_keys rfl (fun _ _ _ _ _ _ us hl => match us, hl with | [_], _ => rfl) (fun vs H Q E h => by obtain ⟨_, _, _, rfl, _⟩ := h; rfl) (fun cdv A outer s H vs Q E hcd hcode hr h => ?_)
  refine ⟨_, (pss_one (ps_expr (pe_cF F_check_each (hr.mono (by decide)) T.g_check_each px (pa_cons (pv 0) (pa_cons (pe_glob (v := .int 30) (by rfl) h_MOST_KEYS ⟨_, rfl⟩) (pa_cons (pe_glob (v := .ref (Ad K d_is_key.at_)) rfl T.g_is_key rfl) pa_nil)))))), ?_⟩
  obtain ⟨a, as, ks, rfl, ha, hk, hok, h30, hT, kQ⟩ := h
  exact ⟨_, rfl, a, as, ks, 30, rfl, ha, hk, hok, by omega, hT, kQ⟩
def sp_ed_tape (K : PySem.W.Frag) : Sp := fun vs H Q _ => ∃ m ed n a as ks, vs = [.ref m.e, .str (nameS n), .ref a] ∧ EdAt K H m ed ∧ n < 8 ∧ SqT K H a (as.map V.ref) ∧ KeysAt K H as ks ∧ (∀ k ∈ ks, k.Ok) ∧ ks.length ≤ 30 ∧
  ∀ H', Kf [m.t] H H' → EdAt K H' m { ed with tapes := fun i => if i = n then ks else ed.tapes i } → Q .non H'
def sp_ed_go_to (K : PySem.W.Frag) : Sp := fun vs H Q _ => ∃ m ed q g, vs = [.ref m.e, .ref q] ∧ EdAt K H m ed ∧ PageAt K H q g ∧ g.Ok ∧ ∀ H', Kf [m.e] H H' → EdAt K H' m { ed with page := { g with clip := ed.page.clip } } → Q .non H'
theorem UnitsAt.last {K : PySem.W.Frag} {H : Hp} {as : List Addr} {us : List (Pg × Pg)} (h : UnitsAt K H as us) (hne : us ≠ []) :
    ∃ a p q as' us' u, as = as' ++ [a] ∧ us = us' ++ [u] ∧ UnitsAt K H as' us' ∧ SqT K H a [.ref p, .ref q] ∧ PageAt K H p u.1 ∧ PageAt K H q u.2 := by
  induction h with
  | nil => exact absurd rfl hne
  | @cons a p q u as us h h1 h2 r ih =>
    cases us with
    | nil =>
      cases r
      exact ⟨a, p, q, [], [], u, rfl, rfl, .nil, h, h1, h2⟩
    | cons u2 ur =>
      obtain ⟨a', p', q', as', us', u', e1, e2, h3, h4, h5, h6⟩ := ih (by simp)
      exact ⟨a', p', q', a :: as', u :: us', u', by rw [e1]; rfl, by rw [e2]; rfl, .cons h h1 h2 h3, h4, h5, h6⟩
theorem edF_no_goto (p t : Addr) (r : V) (pr un ud : Addr) : (edF p t r pr un ud).lookup ("go_to" : Str) = none := by kernel_rfl
def backE (ed : EdSt) : EdSt := match ed.units.getLast? with
  | none => ed
  | some u => { ed with page := { u.1 with clip := ed.page.clip }, units := ed.units.dropLast, undone := ed.undone ++ [u] }
def sp_ed_back (K : PySem.W.Frag) : Sp := fun vs H Q _ => ∃ m ed, vs = [.ref m.e] ∧ EdAt K H m ed ∧ ed.Small ∧ ∀ H', Kf m.l H H' → EdAt K H' m (backE ed) → Q (.bl (!ed.units.isEmpty)) H'
end
end KT
set_option Elab.async false
set_option linter.all false
set_option maxRecDepth 100000
set_option maxHeartbeats 4000000
namespace KT
open PySem PySem.Spec PyProof.Rows L2 GxR
variable [GT]
/-- a name of a tape, behind the one above -/
def risesB (z u : Str) : Bool := inV (.str z) namesV && decide (u.cps.toList < z.cps.toList)
def riseAll : Str → List Str → Bool
  | _, [] => true
  | u, z :: r => risesB z u && riseAll z r
/-- what refuses tapes -/
inductive Chk where
  | ok | names | keys (i : Nat)
def chkT : List (List (List V)) → Chk
  | [] => .ok
  | x :: r => match firstBad 30 (keyB actB) 0 x with
    | some i => .keys i
    | none => if x = [] then .names else chkT r
/-- a list of (name, tape) -/
inductive RowsAt (K : PySem.W.Frag) (H : Hp) : List Addr → List (Str × List (List V)) → Prop where
  | nil : RowsAt K H [] []
  | cons {p t : Addr} {as : List Addr} {z : Str} {xss : List (List V)} {ps : List Addr} {r : List (Str × List (List V))} (h : SqT K H p [.str z, .ref t]) (ha : SqT K H t (as.map V.ref)) (hx : TupsAt K H as xss) (g : RowsAt K H ps r) : RowsAt K H (p :: ps) ((z, xss) :: r)
theorem RowsAt.kq {K : PySem.W.Frag} {H H1 : Hp} {ps : List Addr} {r : List (Str × List (List V))} (h : RowsAt K H ps r) (k : Kq [] H H1) : RowsAt K H1 ps r := by
  induction h with
  | nil => exact .nil
  | cons h ha hx _ ih => exact .cons (k.tup h) (k.tup ha) (hx.kq k) ih
theorem RowsAt.len {K : PySem.W.Frag} {H : Hp} {ps : List Addr} {r : List (Str × List (List V))} (h : RowsAt K H ps r) : ps.length = r.length := by
  induction h with
  | nil => rfl
  | cons _ _ _ _ ih => simp [ih]
theorem RowsAt.at_ {K : PySem.W.Frag} {H : Hp} : ∀ {ps : List Addr} {r : List (Str × List (List V))}, RowsAt K H ps r → ∀ {i : Nat} (h1 : i < ps.length) (h2 : i < r.length), ∃ t as, SqT K H ps[i] [.str r[i].1, .ref t] ∧ SqT K H t (as.map V.ref) ∧ TupsAt K H as r[i].2
  | _, _, .cons h ha hx _, 0, _, _ => ⟨_, _, h, ha, hx⟩
  | _, _, .cons _ _ _ g, i + 1, h1, h2 => RowsAt.at_ g (by simpa using h1) (by simpa using h2)
theorem empty_str : (Str.ofString "") = Str.empty := by decide +kernel
section
variable {P : Program} {w : World} {K : PySem.W.Frag} {mg : Str → Option Value} {base : Heap}
def sp_rises : Sp := fun vs H Q _ => ∃ z u, vs = [.str z, .str u] ∧ Q (.bl (risesB z u)) H
theorem sc_rises : FnScope ["name", "above"] ["name", "above"] (defScope s_rises) := ⟨rfl, rfl, rfl, by decide +kernel, rfl, by decide +kernel, by decide +kernel⟩
theorem ok_rises (T : Tx w K mg) : Fk P w K mg base 1 (Ad K d_rises.at_) ["name", "above"] sp_rises := by
  refine mkF T.f_rises sc_rises rfl (fun _ _ _ _ _ _ us hl => match us, hl with | [_, _], _ => rfl) (fun vs H Q E h => by obtain ⟨_, _, rfl, _⟩ := h; rfl) (fun cdv A outer s H vs Q E hcd hcode hr h => ?_)
  refine ⟨_, (pss_one (ps_ret (pe_and (pe_cmpR op_in_seq (pv 0) (pe_glob (v := .ref (He.ga K "NAMES")) (by rfl) T.g_NAMES rfl) (by rfl)) (pe_one (pe_cmpR op_gt_str (pv 0) (pv 1) (nomark _)))))), ?_⟩
  obtain ⟨z, u, rfl, kQ⟩ := h
  unfold risesB at kQ
  refine ⟨_, rfl, _, _, rfl, .inr (T.names H), rfl, by decide +kernel, ?_⟩
  cases hn : inV (.str z) namesV with
  | true =>
    rw [hn, Bool.true_and] at kQ
    exact ⟨_, rfl, iteT ⟨_, rfl, _, rfl, _, _, rfl, rfl, kQ⟩⟩
  | false =>
    rw [hn, Bool.false_and] at kQ
    exact ⟨_, rfl, iteF kQ⟩
def sp_check_names (K : PySem.W.Frag) : Sp := fun vs H Q E => ∃ L ps rs, vs = [.ref L] ∧ SqL K H L (ps.map V.ref) ∧ RowsAt K H ps rs ∧ (riseAll Str.empty (rs.map (·.1)) = true → Q .non H) ∧ (riseAll Str.empty (rs.map (·.1)) = false → E (.ref (He.ga K "BadNames")) none H)
theorem sc_check_names : FnScope ["tapes", "above", "name", "_"] ["tapes"] (defScope s_check_names) := ⟨rfl, rfl, rfl, by decide +kernel, rfl, by decide +kernel, by decide +kernel⟩
theorem ok_check_names (T : Tx w K mg) : Fk P w K mg base 2 (Ad K d_check_names.at_) ["tapes"] (sp_check_names K) := by
  have F_rises := ok_rises (P := P) (base := base) T
  refine mkF T.f_check_names sc_check_names rfl (fun _ _ _ _ _ _ us hl => match us, hl with | [_], _ => rfl) (fun vs H Q E h => by obtain ⟨_, _, _, rfl, _⟩ := h; rfl) (fun cdv A outer s H vs Q E hcd hcode hr h => ?_)
  have tk : Takes (CxD P w K mg base ["tapes", "above", "name", "_"] d_check_names cdv A outer s H E) (fun cls d _ H => E cls d H) := takes_of rfl rfl rfl rfl
  have po : PassesOwn (model P w) (CxD P w K mg base ["tapes", "above", "name", "_"] d_check_names cdv A outer s H E).A (CxD P w K mg base ["tapes", "above", "name", "_"] d_check_names cdv A outer s H E).env (CxD P w K mg base ["tapes", "above", "name", "_"] d_check_names cdv A outer s H E).xe := passes_of rfl
  refine ⟨_, (pss_cons (ps_asg pe_str (pg_name (i := 1) sc_check_names.nd rfl (.inl rfl)))
      (pss_one (ps_for po rfl (pi_list (pv 0)) (pg_tup rfl (pgs_cons (pg_name (i := 2) sc_check_names.nd rfl (.inl rfl)) (pgs_cons (pg_name (i := 3) sc_check_names.nd rfl (.inl rfl)) pgs_nil))) (pss_cons (ps_if (pt_not (pt_val (pe_cF F_rises (hr.mono (by decide)) T.g_rises px (pa_cons (pv 2) (pa_cons (pv 1) pa_nil))))) (pss_one (ps_raise rfl tk (pmk_BadNames T rfl))) pss_nil)
      (pss_one (ps_asg (pv 2) (pg_name (i := 1) sc_check_names.nd rfl (.inl rfl)))))))), ?_⟩
  obtain ⟨L, ps, rs, rfl, hL, hR, kT, kF⟩ := h
  refine ⟨_, rfl, L, rfl, ⟨_, hL⟩, ?_⟩
  refine for_list (K := K) (a := L) (xs := ps.map V.ref) (fun i σ H' => H' = H ∧ ∃ u v2 v3, riseAll Str.empty (rs.map (·.1)) = riseAll u ((rs.drop i).map (·.1)) ∧ σ = [some (.ref L), some (.str u), v2, v3]) ⟨rfl, _, none, none, rfl, by rw [empty_str]; rfl⟩ (fun i σ H' _ z => by rw [z.1]; exact hL) ?_ ?_
  · rintro i x σ H' hx ⟨rfl, u, v2, v3, hu, rfl⟩
    rw [List.getElem?_map] at hx
    obtain ⟨p, hp, rfl⟩ := Option.map_eq_some_iff.mp hx
    have hi : i < ps.length := (List.getElem?_eq_some_iff.mp hp).1
    have hir : i < rs.length := by rw [← hR.len]; exact hi
    obtain ⟨t, as, h1, _, _⟩ := hR.at_ hi hir
    have ep : ps[i] = p := by rw [List.getElem?_eq_getElem hi] at hp; exact Option.some.inj hp
    rw [ep] at h1
    have ed : rs.drop i = rs[i] :: rs.drop (i + 1) := List.drop_eq_getElem_cons hir
    rw [ed, List.map_cons] at hu
    have hu : riseAll Str.empty (rs.map (·.1)) = (risesB rs[i].1 u && riseAll rs[i].1 ((rs.drop (i + 1)).map (·.1))) := hu
    refine ⟨p, _, rfl, h1, rfl, _, _, rfl, _, _, rfl, rfl, ?_⟩
    refine ⟨_, rfl, _, rfl, rs[i].1, u, rfl, _, rfl, ?_⟩
    cases hb : risesB rs[i].1 u with
    | true =>
      rw [hb, Bool.true_and] at hu
      exact iteF ⟨_, rfl, rfl, _, _, _, hu, rfl⟩
    | false =>
      rw [hb, Bool.false_and] at hu
      exact iteT (kF hu)
  · rintro σ H' ⟨rfl, u, v2, v3, hu, rfl⟩
    refine kT ?_
    rw [hu, List.length_map, hR.len, List.drop_length]
    rfl
/-- what check_tapes promises: the first tape that is none, or empty, refused -/
def sp_check_tapes (K : PySem.W.Frag) : Sp := fun vs H Q E => ∃ L ps rs, vs = [.ref L] ∧ SqL K H L (ps.map V.ref) ∧ RowsAt K H ps rs ∧ (∀ r ∈ rs, (∀ xs ∈ r.2, OddOk K xs) ∧ r.2.length ≤ 100) ∧ TabG H (tS K) ∧
  (chkT (rs.map (·.2)) = .ok → ∀ H', Kq [] H H' → Q .non H') ∧ (chkT (rs.map (·.2)) = .names → ∀ H', Kq [] H H' → E (.ref (He.ga K "BadNames")) none H') ∧
  ∀ i, chkT (rs.map (·.2)) = .keys i → ∀ d H', Kq [] H H' → H' d = none → E (.ref (He.ga K "BadKeys")) (some d) (upd H' d (.xd [("at", .int (i : Nat))]))
theorem sc_check_tapes : FnScope ["tapes", "_", "keys"] ["tapes"] (defScope s_check_tapes) := ⟨rfl, rfl, rfl, by decide +kernel, rfl, by decide +kernel, by decide +kernel⟩
theorem ok_check_tapes (T : Tx w K mg) (hP : SupP P fileS) (B : TabB base mg (cS K) (tS K)) : Fk P w K mg base 9 (Ad K d_check_tapes.at_) ["tapes"] (sp_check_tapes K) := by
  have F_check_keys := ok_check_keysX (P := P) (base := base) T hP B
  refine mkF T.f_check_tapes sc_check_tapes rfl (fun _ _ _ _ _ _ us hl => match us, hl with | [_], _ => rfl) (fun vs H Q E h => by obtain ⟨_, _, _, rfl, _⟩ := h; rfl) (fun cdv A outer s H vs Q E hcd hcode hr h => ?_)
  have tk : Takes (CxD P w K mg base ["tapes", "_", "keys"] d_check_tapes cdv A outer s H E) (fun cls d _ H => E cls d H) := takes_of rfl rfl rfl rfl
  have po : PassesOwn (model P w) (CxD P w K mg base ["tapes", "_", "keys"] d_check_tapes cdv A outer s H E).A (CxD P w K mg base ["tapes", "_", "keys"] d_check_tapes cdv A outer s H E).env (CxD P w K mg base ["tapes", "_", "keys"] d_check_tapes cdv A outer s H E).xe := passes_of rfl
  refine ⟨_, (pss_one (ps_for po rfl (pi_list (pv 0)) (pg_tup rfl (pgs_cons (pg_name (i := 1) sc_check_tapes.nd rfl (.inl rfl)) (pgs_cons (pg_name (i := 2) sc_check_tapes.nd rfl (.inl rfl)) pgs_nil))) (pss_cons (ps_expr (pe_cF F_check_keys (hr.mono (by decide)) T.g_check_keys px (pa_cons (pv 2) pa_nil)))
      (pss_one (ps_if (pt_cmpR op_eq (pe_callB call_len_seq (by rfl) T.n_len (by decide +kernel) (pa_cons (pv 2) pa_nil)) pe_int (nomark _)) (pss_one (ps_raise rfl tk (pmk_BadNames T rfl))) pss_nil))))), ?_⟩
  obtain ⟨L, ps, rs, rfl, hL, hR, hok, hT, kT, kN, kK⟩ := h
  refine ⟨_, rfl, L, rfl, ⟨_, hL⟩, ?_⟩
  refine for_list (K := K) (a := L) (xs := ps.map V.ref) (fun i σ H' => Kq [] H H' ∧ chkT (rs.map (·.2)) = chkT ((rs.drop i).map (·.2)) ∧ ∃ v1 v2, σ = [some (.ref L), v1, v2]) ⟨Kq.refl, rfl, none, none, rfl⟩ (fun i σ H' _ z => z.1.seq hL) ?_ ?_
  · rintro i x σ H' hx ⟨k1, hc, v1, v2, rfl⟩
    rw [List.getElem?_map] at hx
    obtain ⟨p, hp, rfl⟩ := Option.map_eq_some_iff.mp hx
    have hi : i < ps.length := (List.getElem?_eq_some_iff.mp hp).1
    have hir : i < rs.length := by rw [← hR.len]; exact hi
    obtain ⟨t, as, h1, h2, h3⟩ := (hR.kq k1).at_ hi hir
    have ep : ps[i] = p := by rw [List.getElem?_eq_getElem hi] at hp; exact Option.some.inj hp
    rw [ep] at h1
    have ed : rs.drop i = rs[i] :: rs.drop (i + 1) := List.drop_eq_getElem_cons hir
    rw [ed, List.map_cons] at hc
    obtain ⟨o1, o2⟩ := hok _ (List.getElem_mem hir)
    have hc : chkT (rs.map (·.2)) = (match firstBad 30 (keyB actB) 0 rs[i].2 with
      | some i => .keys i
      | none => if rs[i].2 = [] then .names else chkT ((rs.drop (i + 1)).map (·.2))) := hc
    refine ⟨p, _, rfl, h1, rfl, _, _, rfl, _, _, rfl, rfl, ?_⟩
    refine ⟨_, rfl, t, as, rs[i].2, rfl, h2, h3, o1, o2, k1.tab _ hT, fun hall H2 k2 => ?_, fun j hj hlt hn d H2 k2 nd => ?_⟩
    · have hf : firstBad 30 (keyB actB) 0 rs[i].2 = none := firstBad_of 0 _ fun j hj => by rw [Nat.zero_add]; exact hall j hj
      rw [hf] at hc
      dsimp only at hc
      have hlen : as.length = rs[i].2.length := h3.len
      refine ⟨_, rfl, t, _, rfl, .inr (k2.tup h2), rfl, _, rfl, iteD (fun e => ?_) (fun e => ?_)⟩
      · have e0 : rs[i].2 = [] := by
          have e : ((as.map V.ref).length : Int) = 0 := V.int.inj e
          rw [List.length_map, hlen] at e
          exact List.length_eq_zero_iff.mp (by omega)
        rw [if_pos e0] at hc
        exact kN hc H2 (k1.trans k2)
      · have e0 : rs[i].2 ≠ [] := fun z => e (by rw [List.length_map, hlen, z]; rfl)
        rw [if_neg e0] at hc
        exact ⟨k1.trans k2, hc, _, _, rfl⟩
    · have hf : firstBad 30 (keyB actB) 0 rs[i].2 = some j := by
        cases hf : firstBad 30 (keyB actB) 0 rs[i].2 with
        | none =>
          have := firstBad_none 0 _ hf j hj
          rw [Nat.zero_add] at this
          exact absurd this hn
        | some k =>
          obtain ⟨l, hl, e1, h4, h5⟩ := firstBad_some 0 _ k hf
          have : l = j := by
            rcases Nat.lt_trichotomy l j with z | z | z
            · have := hlt l z
              rw [Nat.zero_add] at h5
              exact absurd this h5
            · exact z
            · have := h4 j z
              rw [Nat.zero_add] at this
              exact absurd this hn
          rw [e1, this, Nat.zero_add]
      rw [hf] at hc
      exact kK j hc d H2 (k1.trans k2) nd
  · rintro σ H' ⟨k1, hc, v1, v2, rfl⟩
    refine kT ?_ H' k1
    rw [hc, List.length_map, hR.len, List.drop_length]
    rfl
end
end KT
set_option Elab.async false
set_option linter.all false
set_option maxRecDepth 100000
set_option maxHeartbeats 4000000
namespace KT
open PySem PySem.Spec PyProof.Rows L2 GxR
variable [GT]
/-- a generator's target of two names -/
theorem gen_target2 {X : Cx} {A : Around} {s : Shared} {H : Hp} {scope : Scope} {cl : List (Str × Addr)} {C : Addr} {code : Value} {bi : Addr} {fp : List Addr} {pn : List (Addr × Obj)} {i j : Nat} {x y : Str} {p1 p2 p3 : Pos} {k : Nat} (nd : X.N.Nodup) (hi : X.N[i]? = some x) (hj : X.N[j]? = some y) (lx : scope.names.lookup x = some .local) (ly : scope.names.lookup y = some .local) :
    PG (gblk X A s H (genEnv scope cl C code bi X.env) fp pn) (.Tuple [.Name x p1, .Name y p2] k p3) (gTup X.K 2 (gCons (gName i) (gCons (gName j) gNil))) :=
  pg_tup (X := gblk X A s H (genEnv scope cl C code bi X.env) fp pn) rfl (pgs_cons (pg_name nd hi (.inl lx) (.inr lx)) (pgs_cons (pg_name nd hj (.inl ly) (.inr ly)) pgs_nil))
/-- a generator over a list, read by an invariant -/
theorem gen_list {K : PySem.W.Frag} {a : Addr} {xs : List V} {g : TG} {te : TE} {vs : List Nat} {σ : L2.St} {H2 : Hp} {cont : List V → Hp → Prop} (small : xs.length ≤ 1000) (Pv : Nat → List V → Hp → Prop) (h0 : Pv 0 [] H2) (hl : ∀ i ys H, Pv i ys H → SqL K H a xs)
    (hs : ∀ i x ys H, xs[i]? = some x → Pv i ys H → g x (wipe σ vs) H fun σ2 H3 => wipe σ2 vs = wipe σ vs ∧ te σ2 H3 fun y H4 => Pv (i + 1) (ys ++ [y]) H4) (hd : ∀ ys H, Pv xs.length ys H → cont ys H) :
    ∃ W : Nat → Nat → List V → Hp → Prop, (∃ m, W 0 m [] H2) ∧ ∀ i m ys H, W i m ys H → ((Itl K a).stop i H ∧ cont ys H) ∨ ((Itl K a).go i H ∧ ys.length < sizeLine ∧ ∃ Nx : List V → Hp → Prop, (∀ ys' H', Nx ys' H' → ∃ m', m' < m ∧ W (i + 1) m' ys' H') ∧ ∀ x H', (Itl K a).yld i H x H' → g x (wipe σ vs) H' fun σ2 H2 => wipe σ2 vs = wipe σ vs ∧ te σ2 H2 fun y H3 => Nx (ys ++ [y]) H3) := by
  refine ⟨fun i m ys H => m = xs.length - i ∧ i ≤ xs.length ∧ ys.length = i ∧ Pv i ys H, ⟨_, rfl, Nat.zero_le _, rfl, h0⟩, ?_⟩
  rintro i m ys H ⟨rfl, hi, hy, p⟩
  have q := hl i ys H p
  by_cases lt : i < xs.length
  · refine .inr ⟨⟨xs, xs[i], q, List.getElem?_eq_getElem lt⟩, small1000 (by omega), fun ys' H' => ys'.length = i + 1 ∧ Pv (i + 1) ys' H', fun ys' H' z => ⟨_, (by omega : xs.length - (i + 1) < xs.length - i), rfl, lt, z.1, z.2⟩, fun x H' y => ?_⟩
    obtain ⟨rfl, y⟩ := y
    have step := hs i x ys _ (y xs q) p
    have e : (fun (σ2 : L2.St) (H3 : Hp) => wipe σ2 vs = wipe σ vs ∧ te σ2 H3 fun y H4 => (ys ++ [y]).length = i + 1 ∧ Pv (i + 1) (ys ++ [y]) H4) = fun σ2 H3 => wipe σ2 vs = wipe σ vs ∧ te σ2 H3 fun y H4 => Pv (i + 1) (ys ++ [y]) H4 := by
      funext σ2 H3
      congr 1
      congr 1
      funext y H4
      have : (ys ++ [y]).length = i + 1 := by rw [List.length_append, hy]; rfl
      rw [eq_true this, true_and]
    show g x (wipe σ vs) _ (fun σ2 H3 => wipe σ2 vs = wipe σ vs ∧ te σ2 H3 fun y H4 => (ys ++ [y]).length = i + 1 ∧ Pv (i + 1) (ys ++ [y]) H4)
    rw [e]
    exact step
  · have e : i = xs.length := by omega
    subst e
    exact .inl ⟨⟨xs, q, Nat.le_refl _⟩, hd ys H p⟩
theorem Kq.tabbedH {S : List Addr} {H H' : Hp} {p : Addr} (t : Tabbed p H H') (hp : TabG H p) (ne : ∀ q ∈ GT.l, q.1 ≠ p) : Kq S H H' := by
  obtain ⟨t1, t2⟩ := t
  have np : ∀ {b : Addr} {u : HO}, H b = some u → noTbl u = true → b ≠ p := fun {b u} e n z => by
    obtain ⟨ps, e1, _⟩ := hp
    rw [z, e1] at e
    cases e
    cases n
  refine ⟨fun b u h n _ => ?_, fun q h => ?_, fun b h => ?_, fun q m h => tabS_imp h (fun ps e => by rw [t2 _ (ne q m)]; exact e) (fun c e => ?_)⟩
  · rw [t2 b (np h n)]; exact h
  · by_cases e : q = p
    · rw [e]; exact t1
    · obtain ⟨ps, h1, h2⟩ := h
      exact ⟨ps, by rw [t2 q e]; exact h1, h2⟩
  · by_cases e : b = p
    · obtain ⟨ps, h1, _⟩ := t1
      rw [e, h1] at h
      cases h
    · rw [t2 b e] at h; exact h
  · rw [t2 c (np e rfl)]; exact e
theorem joinOk_of {y : Str} {ws : List Str} (h : (ws.map (·.length)).sum + ws.length * y.length ≤ 1000000) : JoinOk y ws = true := by
  unfold JoinOk
  have key : ∀ (l : List Str) (acc : Nat), (l.toArray.foldl (· + ·.length + y.length) acc) = acc + ((l.map (·.length)).sum + l.length * y.length) := by
    intro l
    induction l with
    | nil => intro acc; simp
    | cons x r ih =>
      intro acc
      have := ih (acc + x.length + y.length)
      simp only [List.foldl_toArray, List.foldl_cons] at this ⊢
      rw [this]
      simp only [List.map_cons, List.sum_cons, List.length_cons, Nat.succ_mul]
      omega
  rw [key]
  unfold Builtin.Str.tooLong
  rw [Bool.not_eq_true']
  exact decide_eq_false (by rw [sizeLine_eq]; omega)
abbrev cW (K : PySem.W.Frag) : Addr := He.codeOf K ("written", none)
abbrev tW (K : PySem.W.Frag) : Addr := He.tabOf K (He.codeOf K ("written", none))
/-- tapes as rows -/
def rowsT (d : Tps) : List (Str × List (List V)) := d.map fun p => (nameS p.1, p.2.map keyV)
def TpsOk (d : Tps) : Prop := d.length ≤ 100 ∧ ∀ p ∈ d, p.1 < 8 ∧ p.2.length ≤ 30 ∧ ∀ k ∈ p.2, k.Ok
theorem TupsAt.keys {K : PySem.W.Frag} {H : Hp} : ∀ {as : List Addr} {ks : List Ky}, TupsAt K H as (ks.map keyV) → KeysAt K H as ks
  | [], [], .nil => .nil
  | _ :: _, _ :: _, .cons h r => .cons h (TupsAt.keys r)
section
variable {P : Program} {w : World} {K : PySem.W.Frag} {mg : Str → Option Value} {base : Heap}
theorem oddOk_key (T : Tx w K mg) {k : Ky} (h : k.Ok) : OddOk K (keyV k) := ⟨keyV_small h, fun v e => by
  have hs := keyV_small h v (by rw [e]; simp)
  cases v with
  | str z => exact T.anyAct z
  | int i => exact act_num
  | _ => exact hs.elim⟩
def sp_written (K : PySem.W.Frag) : Sp := fun vs H Q E => ∃ L ps rs, vs = [.ref L] ∧ SqL K H L (ps.map V.ref) ∧ RowsAt K H ps rs ∧ (∀ r ∈ rs, (∀ xs ∈ r.2, OddOk K xs) ∧ r.2.length ≤ 100) ∧ TabG H (tS K) ∧ TabG H (tW K) ∧
  ((∃ d : Tps, rs = rowsT d ∧ TpsOk d ∧ riseAll Str.empty (rs.map (·.1)) = true ∧ chkT (rs.map (·.2)) = .ok ∧ ∀ H', Kq [] H H' → Q (.str (textT d)) H') ∨
   (riseAll Str.empty (rs.map (·.1)) = false ∧ E (.ref (He.ga K "BadNames")) none H) ∨
   (riseAll Str.empty (rs.map (·.1)) = true ∧ chkT (rs.map (·.2)) = .names ∧ ∀ H', Kq [] H H' → E (.ref (He.ga K "BadNames")) none H') ∨
   (riseAll Str.empty (rs.map (·.1)) = true ∧ ∃ i, chkT (rs.map (·.2)) = .keys i ∧ ∀ d H', Kq [] H H' → H' d = none → E (.ref (He.ga K "BadKeys")) (some d) (upd H' d (.xd [("at", .int (i : Nat))]))))
theorem sc_written : FnScope ["tapes", "name", "keys"] ["tapes"] (defScope s_written) := ⟨rfl, rfl, rfl, by decide +kernel, rfl, by decide +kernel, by decide +kernel⟩
theorem ok_written (T : Tx w K mg) (hP : SupP P fileS) (B : TabB base mg (cS K) (tS K)) (B2 : TabB base mg (cW K) (tW K)) (neW : ∀ q ∈ GT.l, q.1 ≠ tW K) : Fk P w K mg base 12 (Ad K d_written.at_) ["tapes"] (sp_written K) := by
  have F_check_names := ok_check_names (P := P) (base := base) T
  have F_check_tapes := ok_check_tapes (P := P) (base := base) T hP B
  have F_row_of := ok_row_of (P := P) (base := base) T
  refine mkF T.f_written sc_written rfl (fun _ _ _ _ _ _ us hl => match us, hl with | [_], _ => rfl) (fun vs H Q E h => by obtain ⟨_, _, _, rfl, _⟩ := h; rfl) (fun cdv A outer s H vs Q E hcd hcode hr h => ?_)
  refine ⟨_, (pss_cons (ps_expr (pe_cF F_check_names (hr.mono (by decide)) T.g_check_names px (pa_cons (pv 0) pa_nil)))
      (pss_cons (ps_expr (pe_cF F_check_tapes (hr.mono (by decide)) T.g_check_tapes px (pa_cons (pv 0) pa_nil)))
      (pss_one (ps_ret (pe_joinX (pgen_gen (k := 4) (vs := [1, 2]) rfl (by have := hr.dp; omega) B2 hcode (genK_by (N := ["tapes", "name", "keys"]) (by decide +kernel)) (pi_list (pv 0)) (fun A s H cl C code bi fp pn room => (gen_target2 (i := 1) (j := 2) sc_written.nd rfl rfl rfl rfl)) (fun A s H cl C code bi fp pn room => (pe_cF F_row_of (room.mono (by decide)) T.g_row_of passL (pa_cons (pv 1) (pa_cons (pv 2) pa_nil)))) (fun _ => rfl)) (hr.mono (by decide)) pe_str))))), ?_⟩
  obtain ⟨L, ps, rs, rfl, hL, hR, hok, hT, hT2, hw⟩ := h
  have no : ∀ {p : Prop}, riseAll Str.empty (rs.map (·.1)) = true → riseAll Str.empty (rs.map (·.1)) = false → p := fun h1 h2 => by rw [h1] at h2; cases h2
  refine ⟨_, rfl, L, ps, rs, rfl, hL, hR, fun hr1 => ?_, fun hr0 => ?_⟩
  rotate_left
  · rcases hw with ⟨d, _, _, h1, _⟩ | ⟨_, kE⟩ | ⟨h1, _⟩ | ⟨h1, _⟩
    · exact no h1 hr0
    · exact kE
    · exact no h1 hr0
    · exact no h1 hr0
  refine ⟨_, rfl, L, ps, rs, rfl, hL, hR, hok, hT, fun h1 H1 k1 => ?_, fun h1 H1 k1 => ?_, fun i h1 d H1 k1 nd => ?_⟩
  rotate_left
  · rcases hw with ⟨d, _, _, _, h2, _⟩ | ⟨h2, _⟩ | ⟨_, _, kE⟩ | ⟨_, i, h2, _⟩
    · rw [h1] at h2; cases h2
    · exact no hr1 h2
    · exact kE H1 k1
    · rw [h1] at h2; cases h2
  · rcases hw with ⟨d, _, _, _, h2, _⟩ | ⟨h2, _⟩ | ⟨_, h2, _⟩ | ⟨_, j, h2, kE⟩
    · rw [h1] at h2; cases h2
    · exact no hr1 h2
    · rw [h1] at h2; cases h2
    · rw [h1] at h2
      injection h2 with e
      subst e
      exact kE d H1 k1 nd
  rcases hw with ⟨d, ers, ⟨dl, dok⟩, _, _, kQ⟩ | ⟨h2, _⟩ | ⟨_, h2, _⟩ | ⟨_, j, h2, _⟩
  rotate_left
  · exact no hr1 h2
  · rw [h1] at h2; cases h2
  · rw [h1] at h2; cases h2
  have hlen : ps.length = d.length := by rw [hR.len, ers]; unfold rowsT; rw [List.length_map]
  refine ⟨nS, rfl, _, rfl, L, rfl, ⟨_, k1.seq hL⟩, k1.tab _ hT2, fun H2 t2 => ?_⟩
  have k2 : Kq [] H1 H2 := Kq.tabbedH t2 (k1.tab _ hT2) neW
  refine gen_list (K := K) (a := L) (xs := ps.map V.ref) (by rw [List.length_map]; omega) (fun i ys H' => Kq [] H H' ∧ ys = (d.take i).map fun p => V.str (rowS p.1 p.2)) ⟨k1.trans k2, rfl⟩ (fun i ys H' z => z.1.seq hL) ?_ ?_
  · rintro i x ys H' hx ⟨k3, rfl⟩
    rw [List.getElem?_map] at hx
    obtain ⟨p, hp, rfl⟩ := Option.map_eq_some_iff.mp hx
    have hi : i < ps.length := (List.getElem?_eq_some_iff.mp hp).1
    have hid : i < d.length := by omega
    have hir : i < rs.length := by rw [← hR.len]; exact hi
    obtain ⟨t, as, g1, g2, g3⟩ := (hR.kq k3).at_ hi hir
    have er : rs[i] = (nameS d[i].1, d[i].2.map keyV) := by
      simp only [ers, rowsT, List.getElem_map]
    rw [er] at g1 g3
    have ep : ps[i] = p := by rw [List.getElem?_eq_getElem hi] at hp; exact Option.some.inj hp
    rw [ep] at g1
    obtain ⟨o1, o2, o3⟩ := dok _ (List.getElem_mem hid)
    refine ⟨p, _, rfl, g1, rfl, _, _, rfl, _, _, rfl, rfl, rfl, ?_⟩
    refine ⟨_, rfl, _, rfl, t, d[i].1, d[i].2, rfl, ⟨as, g2, TupsAt.keys g3⟩, o3, o2, fun H4 k4 => ⟨k3.trans k4, ?_⟩⟩
    rw [List.take_succ, List.getElem?_eq_getElem hid, List.map_append]
    rfl
  · rintro ys H' ⟨k3, rfl⟩
    have hall : ∀ x ∈ d.map (fun p => rowS p.1 p.2), x.length ≤ 819 := fun x hx => by
      obtain ⟨p, hp, rfl⟩ := List.mem_map.mp hx
      obtain ⟨o1, o2, o3⟩ := dok p hp
      exact rowS_len o3 o2
    refine ⟨d.map fun (p : Nat × List Ky) => rowS p.1 p.2, ?_, ?_, kQ H' k3⟩
    · rw [List.length_map, hlen, List.take_length, List.map_map]; rfl
    · have h3 := sum_len hall
      rw [List.length_map] at h3
      refine joinOk_of ?_
      have hn : nS.length = 1 := by decide +kernel
      rw [hn, List.length_map]
      omega
end
end KT
set_option Elab.async false
set_option linter.all false
set_option maxRecDepth 100000
set_option maxHeartbeats 4000000
namespace KT
open PySem PySem.Spec PyProof.Rows L2 GxR
variable [GT]
theorem Kf.ints {S : List Addr} {H H1 : Hp} (k : Kf S H H1) {b : Addr} {o : HO} (h : H b = some o) (m : b ∉ S) (n : noTbl o = true := by rfl) : H1 b = some o := k.q.gets h m n
def everyS : Str := Str.ofString " !\"#$&'()*+,-./0123456789:;<=>?@ABCDEFGHIJKLMNOPQRSTUVWXYZ[\\]^_`abcdefghijklmnopqrstuvwxyz{|}~"
theorem every_ok : everyS.cps.toList.length = 94 ∧ ∀ c ∈ everyS.cps.toList, okSign c := by decide +kernel
theorem every_len : everyS.length = 94 := by decide +kernel
def aabS : Str := Str.ofString "aab, "
theorem aab_ok : aabS.cps.toList = [97, 97, 98, 44, 32] := by decide +kernel
theorem cps_at {l : List Nat} {j : Nat} {c : Nat} {i : Int} (e : i = (j : Int)) (h : l[j]? = some c) : atI l i = some c := by subst e; exact atI_nat h
section
variable {P : Program} {w : World} {K : PySem.W.Frag} {mg : Str → Option Value} {base : Heap}
theorem ok_alike (T : Tx w K mg) : ∀ n, Fk P w K mg base (n + 1) (Ad K d__law_alike.at_) ["_law_found", "_law_due_here"] (sp_alike K n)
  | 0 => mkF T.f__law_alike sc__law_alike rfl (fun _ _ _ _ _ _ us hl => match us, hl with | [_, _], _ => rfl) (fun _ _ _ _ h => h.elim) (fun _ _ _ _ _ _ _ _ _ _ _ h => h.elim)
  | n + 1 => ok__law_alike T (ok_alike T n)
def sp_sign (K : PySem.W.Frag) : Sp := fun vs H Q _ => ∃ (h l : Addr), vs = [.ref h] ∧ DrAt H h l ∧ ∀ (c : Nat) H', okSign c → Kf [h, l] H H' → DrAt H' h l → Q (.str (S [c])) H'
theorem sc__law_sign : FnScope ["_law_h", "_law_every"] ["_law_h"] (defScope s__law_sign) := ⟨rfl, rfl, rfl, by decide +kernel, rfl, by decide +kernel, by decide +kernel⟩
theorem ok__law_sign (T : Tx w K mg) : Fk P w K mg base 2 (Ad K d__law_sign.at_) ["_law_h"] (sp_sign K) := by
  have F__law_next := ok__law_next (P := P) (base := base) T
  refine mkF T.f__law_sign sc__law_sign rfl (fun _ _ _ _ _ _ us hl => match us, hl with | [_], _ => rfl) (fun vs H Q E h => by obtain ⟨_, _, rfl, _⟩ := h; rfl) (fun cdv A outer s H vs Q E hcd hcode hr h => ?_)
  refine ⟨_, (pss_cons (ps_asg pe_str (pg_name (i := 1) sc__law_sign.nd rfl (.inl rfl)))
      (pss_one (ps_ret (pe_ix ix_list (pe_lst (pa_cons (pe_ix ix_str pe_str (pe_cF F__law_next (hr.mono (by decide)) T.g__law_next px (pa_cons (pv 0) (pa_cons pe_int pa_nil))) (fun _ _ => rfl)) (pa_cons (pe_ix ix_str (pv 1) (pe_cF F__law_next (hr.mono (by decide)) T.g__law_next px (pa_cons (pv 0) (pa_cons (pe_callB call_len_str (by rfl) T.n_len (by decide +kernel) (pa_cons (pv 1) pa_nil)) pa_nil))) (fun _ _ => rfl)) pa_nil))) (pe_op op_fdivN (pe_cF F__law_next (hr.mono (by decide)) T.g__law_next px (pa_cons (pv 0) (pa_cons pe_int pa_nil))) pe_int) (fun _ _ => rfl))))), ?_⟩
  obtain ⟨h, l, rfl, hD, kQ⟩ := h
  refine ⟨_, rfl, h, l, 5, rfl, hD, by decide, by decide, fun r1 H1 hr1 k1 hD1 => ?_⟩
  have h1 : r1 < aabS.cps.toList.length := by rw [aab_ok]; exact hr1
  refine ⟨aabS, _, _, rfl, rfl, line16 (by decide +kernel), cps_at rfl (List.getElem?_eq_getElem h1), ?_⟩
  refine ⟨_, rfl, _, rfl, _, rfl, everyS, rfl, line16 (by decide +kernel), h, l, 94, ?_, hD1, by decide, by decide, fun r2 H2 hr2 k2 hD2 => ?_⟩
  · rw [every_len]
  have h2 : r2 < everyS.cps.toList.length := by rw [every_ok.1]; exact hr2
  refine ⟨everyS, _, _, rfl, rfl, line16 (by decide +kernel), cps_at rfl (List.getElem?_eq_getElem h2), line16 (by show 2 ≤ 1000000; decide), fun p np => ?_⟩
  have c1 : okSign (aabS.cps.toList[r1]) := by
    have : ∀ c ∈ aabS.cps.toList, okSign c := by rw [aab_ok]; decide
    exact this _ (List.getElem_mem _)
  have c2 : okSign (everyS.cps.toList[r2]) := every_ok.2 _ (List.getElem_mem _)
  generalize aabS.cps.toList[r1] = a1 at c1 ⊢
  generalize everyS.cps.toList[r2] = a2 at c2 ⊢
  have k3 : Kq [] H2 (upd H2 p (.lst [.str ⟨#[a1]⟩, .str ⟨#[a2]⟩])) := Kq.alloc np
  refine ⟨_, rfl, h, l, 4, rfl, hD2.kq k3, by decide, by decide, fun r3 H3 hr3 k4 hD3 => ?_⟩
  have g : H3 p = some (.lst [.str ⟨#[a1]⟩, .str ⟨#[a2]⟩]) := by
    obtain ⟨_, _, _, d1, d2, _⟩ := hD2
    exact k4.q.gets upd_same (by simp; exact ⟨(ne_of_none d1 np).symm, (ne_of_none d2 np).symm⟩)
  have kk : Kf [h, l] H H3 := ((k1.trans k2).kq k3).trans k4
  have hr : (r3 : Int).fdiv 3 = 0 ∨ (r3 : Int).fdiv 3 = 1 := by
    have : ∀ n : Nat, n < 4 → (n : Int).fdiv 3 = 0 ∨ (n : Int).fdiv 3 = 1 := by decide
    exact this r3 hr3
  rcases hr with e | e
  · exact ⟨_, _, rfl, rfl, (by show (3 : Int) ≠ 0 ∧ (3 : Int).natAbs < 1073741824; decide), p, _, _, .str ⟨#[a1]⟩, rfl, rfl, SqL.of g, at_of (j := 0) e rfl, kQ a1 H3 c1 kk hD3⟩
  · exact ⟨_, _, rfl, rfl, (by show (3 : Int) ≠ 0 ∧ (3 : Int).natAbs < 1073741824; decide), p, _, _, .str ⟨#[a2]⟩, rfl, rfl, SqL.of g, at_of (j := 1) e rfl, kQ a2 H3 c2 kk hD3⟩
end
end KT
set_option Elab.async false
set_option linter.all false
set_option maxRecDepth 100000
set_option maxHeartbeats 4000000
namespace KT
open PySem PySem.Spec PyProof.Rows L2 GxR
variable [GT]
theorem empty_eq : Str.ofString "" = S [] := by decide +kernel
theorem joinL_one : ∀ cs : Ln, TL.joinL [] (cs.map fun c => [c]) = cs
  | [] => rfl
  | [c] => rfl
  | c :: d :: r => by
    have := joinL_one (d :: r)
    show [c] ++ ([] ++ TL.joinL [] ((d :: r).map fun c => [c])) = c :: d :: r
    rw [this]; rfl
theorem join_signs (cs : Ln) : Txt.join (Str.ofString "") (cs.map fun c => S [c]) = S cs := by
  rw [empty_eq]
  refine TL.ext_tl ?_
  rw [TL.join_eq, TL.tl_join]
  rw [show ((cs.map fun c => S [c]).map TL.tl) = cs.map fun c => [c] by rw [List.map_map]; rfl]
  exact joinL_one cs
theorem signs_len (cs : Ln) : ((cs.map fun c => S [c]).map (·.length)).sum = cs.length := by
  induction cs with
  | nil => rfl
  | cons c r ih =>
    simp only [List.map_cons, List.sum_cons, List.length_cons, ih]
    rw [S_len]; simp [Nat.add_comm]
theorem good_row {l : Ln} (h : l.length ≤ 60) (hs : ∀ c ∈ l, okSign c) : goodRow l = true := by
  unfold goodRow
  rw [decide_eq_true h]
  refine List.all_eq_true.mpr fun c hc => ?_
  rw [signB_eq]
  exact decide_eq_true (hs c hc)
theorem DrAt.upd {H : Hp} {h l D : Addr} {o : HO} (d : DrAt H h l) (n1 : D ≠ h) (n2 : D ≠ l) : DrAt (upd H D o) h l := by
  obtain ⟨a, c, xs, h1, h2, ne⟩ := d
  exact ⟨a, c, xs, (upd_ne n1.symm).trans h1, (upd_ne n2.symm).trans h2, ne⟩
section
variable {P : Program} {w : World} {K : PySem.W.Frag} {mg : Str → Option Value} {base : Heap}
def sp_text (K : PySem.W.Frag) : Sp := fun vs H Q _ => ∃ (h l : Addr), vs = [.ref h] ∧ DrAt H h l ∧ ∀ ls H', ls ≠ [] → goodB ls = true → Kf [h, l] H H' → DrAt H' h l → Q (.str (textS ls)) H'
theorem sc__law_text : FnScope ["_law_h", "_law_n", "_law_rows", "_law_k", "_law_many"] ["_law_h"] (defScope s__law_text) := ⟨rfl, rfl, rfl, by decide +kernel, rfl, by decide +kernel, by decide +kernel⟩
theorem ok__law_text (T : Tx w K mg) : Fk P w K mg base 3 (Ad K d__law_text.at_) ["_law_h"] (sp_text K) := by
  have F__law_next := ok__law_next (P := P) (base := base) T
  have F__law_sign := ok__law_sign (P := P) (base := base) T
  refine mkF T.f__law_text sc__law_text rfl (fun _ _ _ _ _ _ us hl => match us, hl with | [_], _ => rfl) (fun vs H Q E h => by obtain ⟨_, _, rfl, _⟩ := h; rfl) (fun cdv A outer s H vs Q E hcd hcode hr h => ?_)
  have po : PassesOwn (model P w) (CxD P w K mg base ["_law_h", "_law_n", "_law_rows", "_law_k", "_law_many"] d__law_text cdv A outer s H E).A (CxD P w K mg base ["_law_h", "_law_n", "_law_rows", "_law_k", "_law_many"] d__law_text cdv A outer s H E).env (CxD P w K mg base ["_law_h", "_law_n", "_law_rows", "_law_k", "_law_many"] d__law_text cdv A outer s H E).xe := passes_of rfl
  refine ⟨_, (pss_cons (ps_asg (pe_lst pa_nil) (pg_name (i := 2) sc__law_text.nd rfl (.inl rfl)))
      (pss_cons (ps_for po rfl (pi_range1 (by rfl) T.n_range (pa_cons (pe_op op_add pe_int (pe_cF F__law_next (hr.mono (by decide)) T.g__law_next px (pa_cons (pv 0) (pa_cons (pe_ix ix_list (pe_lst (pa_cons pe_int (pa_cons pe_int (pa_cons pe_int pa_nil)))) (pe_cF F__law_next (hr.mono (by decide)) T.g__law_next px (pa_cons (pv 0) (pa_cons pe_int pa_nil))) (fun _ _ => rfl)) pa_nil)))) pa_nil)) (pg_name (i := 3) sc__law_text.nd rfl (.inl rfl)) (pss_cons (ps_asg (pe_ix ix_list (pe_lst (pa_cons (pe_cF F__law_next (hr.mono (by decide)) T.g__law_next px (pa_cons (pv 0) (pa_cons pe_int pa_nil))) (pa_cons (pe_cF F__law_next (hr.mono (by decide)) T.g__law_next px (pa_cons (pv 0) (pa_cons pe_int pa_nil))) (pa_cons (pe_op op_sub pe_int (pe_cF F__law_next (hr.mono (by decide)) T.g__law_next px (pa_cons (pv 0) (pa_cons pe_int pa_nil)))) pa_nil)))) (pe_ix ix_list (pe_lst (pa_cons pe_int (pa_cons pe_int (pa_cons pe_int (pa_cons pe_int (pa_cons pe_int (pa_cons pe_int pa_nil))))))) (pe_cF F__law_next (hr.mono (by decide)) T.g__law_next px (pa_cons (pv 0) (pa_cons pe_int pa_nil))) (fun _ _ => rfl)) (fun _ _ => rfl)) (pg_name (i := 4) sc__law_text.nd rfl (.inl rfl)))
      (pss_one (ps_expr (pe_bm PySem.F.plainAttrs_list PySem.F.slot_list_append PySem.F.type_list_append mt_append (pv 2) (pa_cons (pe_join pe_str (pe_lc (own := [("_law_n", 1)]) (by rfl) sc__law_text.nd (pi_range1 (by rfl) T.n_range (pa_cons (pv 4) pa_nil)) (blkOk_by (own := [("_law_n", 1)]) (N := ["_law_h", "_law_n", "_law_rows", "_law_k", "_law_many"]) (sc := defScope s__law_text) (by decide +kernel)) (fun _ _ _ _ _ => (pg_name (i := 1) sc__law_text.nd rfl (.inl rfl))) (fun _ _ _ _ _ => pts_nil) (fun _ _ _ _ _ => (pe_cF F__law_sign (hr.mono (by decide)) T.g__law_sign passL (pa_cons (pv 0) pa_nil))))) pa_nil))))))
      (pss_one (ps_ret (pe_join pe_str (pv 2)))))), ?_⟩
  obtain ⟨h, l, rfl, hD, kQ⟩ := h
  refine ⟨line16 (by show 0 ≤ 1000000; decide), fun R nR => ?_⟩
  have k0 : Kq [] H (upd H R (.lst [])) := Kq.alloc nR
  have hR0 : (upd H R (.lst [])) R = some (.lst []) := upd_same
  have hD0 := hD.kq k0
  have nRh : R ≠ h := by obtain ⟨_, _, _, d1, d2, _⟩ := hD; exact (ne_of_none d1 nR).symm
  have nRl : R ≠ l := by obtain ⟨_, _, _, d1, d2, _⟩ := hD; exact (ne_of_none d2 nR).symm
  generalize (upd H R (.lst [])) = H1 at k0 hR0 hD0 ⊢
  refine ⟨_, rfl, line16 (by show 3 ≤ 1000000; decide), fun p np => ?_⟩
  have k1 : Kq [] H1 (upd H1 p (.lst [.int 3, .int 5, .int 12])) := Kq.alloc np
  refine ⟨_, rfl, h, l, 3, rfl, hD0.kq k1, by decide, by decide, fun r1 H2 hr1 k2 hD2 => ?_⟩
  have hp2 : H2 p = some (.lst [.int 3, .int 5, .int 12]) := by
    obtain ⟨_, _, _, d1, d2, _⟩ := hD0
    exact k2.q.gets upd_same (by simp; exact ⟨(ne_of_none d1 np).symm, (ne_of_none d2 np).symm⟩)
  have hX : ∃ X : Nat, ([.int 3, .int 5, .int 12] : List V)[r1]? = some (.int X) ∧ 1 ≤ X ∧ X ≤ 12 := match r1, hr1 with
    | 0, _ => ⟨3, rfl, by decide, by decide⟩
    | 1, _ => ⟨5, rfl, by decide, by decide⟩
    | 2, _ => ⟨12, rfl, by decide, by decide⟩
  obtain ⟨X, eX, X1, X12⟩ := hX
  refine ⟨p, _, _, .int X, rfl, rfl, SqL.of hp2, at_of rfl eX, h, l, X, rfl, hD2, X1, by omega, fun r2 H3 hr2 k3 hD3 => ?_⟩
  refine ⟨_, _, rfl, rfl, _, rfl, by omega, by omega, ?_⟩
  have k13 : Kf [h, l] H H3 := ((Kf.of k0 hD.wr).kq k1).trans (k2.trans k3)
  have hR3 : H3 R = some (.lst []) := k3.q.gets (k2.q.gets (k1.get hR0) (by simp [nRh, nRl])) (by simp [nRh, nRl])
  refine for_range (lo := 0) (n := (1 + (r2 : Int)).toNat) (fun i σ H' => Kq [h, l] H H' ∧ DrAt H' h l ∧ ∃ ls v3 v4, σ = [some (.ref h), none, some (.ref R), v3, v4] ∧ H' R = some (.lst (rowsV ls)) ∧ ls.length = i ∧ ls.all goodRow = true) ⟨k13.q, hD3, [], none, none, rfl, hR3, rfl, rfl⟩ ?_ ?_
  · rintro i σ H' hi ⟨kq, hD4, ls, v3, v4, rfl, hR4, hlen, hall⟩
    refine ⟨_, rfl, h, l, 8, rfl, hD4, by decide, by decide, fun ra Ha hra ka hDa => ⟨_, rfl, h, l, 20, rfl, hDa, by decide, by decide, fun rb Hb hrb kb hDb => ⟨_, rfl, h, l, 3, rfl, hDb, by decide, by decide, fun rc Hc hrc kc hDc => ⟨_, _, rfl, rfl, line16 (by show 3 ≤ 1000000; decide), fun pa npa => ⟨line16 (by show 6 ≤ 1000000; decide), fun pb npb => ?_⟩⟩⟩⟩⟩
    have kA : Kq [] Hc (upd Hc pa (.lst [.int ra, .int rb, .int (60 - rc)])) := Kq.alloc npa
    have kB : Kq [] (upd Hc pa (.lst [.int ra, .int rb, .int (60 - rc)])) (upd (upd Hc pa (.lst [.int ra, .int rb, .int (60 - rc)])) pb (.lst [.int 0, .int 0, .int 0, .int 1, .int 1, .int 2])) := Kq.alloc npb
    have gA : (upd (upd Hc pa (.lst [.int ra, .int rb, .int (60 - rc)])) pb (.lst [.int 0, .int 0, .int 0, .int 1, .int 1, .int 2])) pa = some (.lst [.int ra, .int rb, .int (60 - rc)]) := kB.get upd_same
    have gB : (upd (upd Hc pa (.lst [.int ra, .int rb, .int (60 - rc)])) pb (.lst [.int 0, .int 0, .int 0, .int 1, .int 1, .int 2])) pb = some (.lst [.int 0, .int 0, .int 0, .int 1, .int 1, .int 2]) := upd_same
    have kAB := kA.trans kB
    have hDd := hDc.kq kAB
    have nn : pa ≠ h ∧ pa ≠ l ∧ pb ≠ h ∧ pb ≠ l := by
      obtain ⟨_, _, _, d1, d2, _⟩ := hDc
      exact ⟨(ne_of_none d1 npa).symm, (ne_of_none d2 npa).symm, (ne_of_none (kA.get d1) npb).symm, (ne_of_none (kA.get d2) npb).symm⟩
    obtain ⟨n1, n2, n3, n4⟩ := nn
    refine ⟨_, rfl, h, l, 6, rfl, hDd, by decide, by decide, fun rd Hd hrd kd hDd' => ?_⟩
    have gA' := kd.q.gets gA (by simp [n1, n2])
    have gB' := kd.q.gets gB (by simp [n3, n4])
    have hY : ∃ Y : Nat, ([.int 0, .int 0, .int 0, .int 1, .int 1, .int 2] : List V)[rd]? = some (.int Y) ∧ Y < 3 := match rd, hrd with
      | 0, _ => ⟨0, rfl, by decide⟩
      | 1, _ => ⟨0, rfl, by decide⟩
      | 2, _ => ⟨0, rfl, by decide⟩
      | 3, _ => ⟨1, rfl, by decide⟩
      | 4, _ => ⟨1, rfl, by decide⟩
      | 5, _ => ⟨2, rfl, by decide⟩
    obtain ⟨Y, eY, hY3⟩ := hY
    have hZ : ∃ Z : Nat, ([.int ra, .int rb, .int (60 - rc)] : List V)[Y]? = some (.int Z) ∧ Z ≤ 60 := match Y, hY3 with
      | 0, _ => ⟨ra, rfl, by omega⟩
      | 1, _ => ⟨rb, rfl, by omega⟩
      | 2, _ => ⟨60 - rc, by show some (V.int (60 - (rc : Int))) = _; congr 2; omega, by omega⟩
    obtain ⟨Z, eZ, hZ60⟩ := hZ
    refine ⟨pb, _, _, .int Y, rfl, rfl, SqL.of gB', at_of rfl eY, pa, _, _, .int Z, rfl, rfl, SqL.of gA', at_of rfl eZ, ?_⟩
    have kk : Kf [h, l] H' Hd := ((ka.trans (kb.trans kc)).kq kAB).trans kd
    have hR5 : Hd R = some (.lst (rowsV ls)) := kk.q.gets hR4 (by simp [nRh, nRl])
    have kqd : Kq [h, l] H Hd := kq.trans kk.q
    refine ⟨_, rfl, .inl ⟨rfl, _, SqL.of hR5⟩, ⟨_, rfl⟩, _, rfl, _, rfl, by omega, by omega, fun D nD => ?_⟩
    have nDh : D ≠ h ∧ D ≠ l ∧ D ≠ R := by
      obtain ⟨_, _, _, d1, d2, _⟩ := hDd'
      exact ⟨(ne_of_none d1 nD).symm, (ne_of_none d2 nD).symm, (ne_of_none hR5 nD).symm⟩
    obtain ⟨nDh, nDl, nDR⟩ := nDh
    refine lc_range (lo := 0) (n := (Z : Int).toNat) (fun i H2 => Kq [h, l] Hd H2 ∧ DrAt H2 h l ∧ ∃ cs : Ln, cs.length = i ∧ (∀ c ∈ cs, okSign c) ∧ H2 D = some (.lst (cs.map fun c => .str (S [c])))) ⟨(Kq.alloc nD), hDd'.kq (Kq.alloc nD), [], rfl, by simp, upd_same⟩ ?_ ?_
    · rintro j H2 hj ⟨kj, hDj, cs, hcl, hcs, hDD⟩
      refine ⟨rfl, ?_⟩
      unfold tYes
      dsimp only
      rw [if_pos rfl]
      refine ⟨_, rfl, h, l, rfl, hDj, fun c H3 hc k3 hD3 => ?_⟩
      have g : H3 D = some (.lst (cs.map fun c => .str (S [c]))) := k3.q.gets hDD (by simp [nDh, nDl])
      refine ⟨_, g, ?_, (kj.trans k3.q).writeF nD g, hD3.upd nDh nDl, cs ++ [c], by simp [hcl], fun d hd => ?_, ?_⟩
      · rw [List.length_map]; exact small1000 (by omega)
      · rcases List.mem_append.mp hd with z | z
        · exact hcs d z
        · rw [List.mem_singleton.mp z]; exact hc
      · rw [upd_same, List.map_append]; rfl
    · rintro H2 ⟨kj, hDj, cs, hcl, hcs, hDD⟩
      have hcl : cs.length = Z := by omega
      refine ⟨Str.ofString "", D, cs.map fun c => S [c], rfl, rfl, .inl (SqL.of (by rw [List.map_map]; exact hDD)), ?_, ?_⟩
      · rw [signs_len, List.length_map, empty_eq, S_len]; simp; omega
      rw [join_signs]
      have hR6 : H2 R = some (.lst (rowsV ls)) := kj.gets hR5 (by simp [nRh, nRl])
      refine ⟨R, _, _, rfl, rfl, hR6, small1000 (by rw [rowsV_len]; omega), ?_⟩
      refine ⟨(kqd.trans kj).writeF nR hR6, hDj.upd nRh nRl, ls ++ [cs], _, _, rfl, ?_, by simp [hlen], ?_⟩
      · rw [upd_same, ← rowsV_app]; rfl
      · rw [List.all_append, hall]
        simp only [List.all_cons, List.all_nil, Bool.and_true, Bool.true_and]
        exact good_row (by omega) hcs
  · rintro σ H' ⟨kq, hD4, ls, v3, v4, rfl, hR4, hlen, hall⟩
    refine ⟨⟨_, rfl⟩, _, rfl, nl, R, ls.map S, rfl, rfl, .inl (SqL.of (by rw [List.map_map]; exact hR4)), ?_, ?_⟩
    · have hs : ∀ ls : List Ln, ls.all goodRow = true → ((ls.map S).map (·.length)).sum ≤ ls.length * 60 := by
        intro ls
        induction ls with
        | nil => intro _; simp
        | cons a r ih =>
          intro h
          simp only [List.all_cons, Bool.and_eq_true] at h
          have h2 := ih h.2
          have h1 : a.length ≤ 60 := by
            have := h.1
            unfold goodRow at this
            simp only [Bool.and_eq_true, decide_eq_true_eq] at this
            exact this.1
          simp only [List.map_cons, List.sum_cons, List.length_cons, S_len]
          omega
      have h3 := hs _ hall
      have h5 : nl.length = 1 := by rw [nl_eq]; rfl
      rw [List.length_map, h5]
      omega
    · exact kQ ls H' (by intro e; rw [e] at hlen; simp at hlen; omega) (by unfold goodB; rw [hall, decide_eq_true (by omega)]; rfl) ⟨kq, hD.wr, hD4.wr⟩ hD4
end
end KT
set_option Elab.async false
set_option linter.all false
set_option maxRecDepth 100000
set_option maxHeartbeats 4000000
namespace KT
open PySem PySem.Spec PyProof.Rows L2 GxR
variable [GT]
def wordsV : List V := [.str "put", .str "put", .str "rub", .str "left", .str "right", .str "right", .str "up", .str "down", .str "home", .str "end", .str "find", .str "take", .str "lay", .str "break"]
theorem words_at {r : Nat} (h : r < 14) : ∃ wd : Str, wordsV[r]? = some (.str wd) ∧ (wd = "put" ∨ wd = "find" ∨ (wd ≠ "put" ∧ wd ≠ "find" ∧ ∃ ky : Ky, ky.Ok ∧ ky.single = true ∧ keyV ky = [.str wd])) := match r, h with
  | 0, _ => ⟨_, rfl, .inl rfl⟩
  | 1, _ => ⟨_, rfl, .inl rfl⟩
  | 2, _ => ⟨_, rfl, .inr (.inr ⟨by decide +kernel, by decide +kernel, .rub, trivial, rfl, rfl⟩)⟩
  | 3, _ => ⟨_, rfl, .inr (.inr ⟨by decide +kernel, by decide +kernel, .left, trivial, rfl, rfl⟩)⟩
  | 4, _ => ⟨_, rfl, .inr (.inr ⟨by decide +kernel, by decide +kernel, .right, trivial, rfl, rfl⟩)⟩
  | 5, _ => ⟨_, rfl, .inr (.inr ⟨by decide +kernel, by decide +kernel, .right, trivial, rfl, rfl⟩)⟩
  | 6, _ => ⟨_, rfl, .inr (.inr ⟨by decide +kernel, by decide +kernel, .up, trivial, rfl, rfl⟩)⟩
  | 7, _ => ⟨_, rfl, .inr (.inr ⟨by decide +kernel, by decide +kernel, .down, trivial, rfl, rfl⟩)⟩
  | 8, _ => ⟨_, rfl, .inr (.inr ⟨by decide +kernel, by decide +kernel, .home, trivial, rfl, rfl⟩)⟩
  | 9, _ => ⟨_, rfl, .inr (.inr ⟨by decide +kernel, by decide +kernel, .end_, trivial, rfl, rfl⟩)⟩
  | 10, _ => ⟨_, rfl, .inr (.inl rfl)⟩
  | 11, _ => ⟨_, rfl, .inr (.inr ⟨by decide +kernel, by decide +kernel, .take, trivial, rfl, rfl⟩)⟩
  | 12, _ => ⟨_, rfl, .inr (.inr ⟨by decide +kernel, by decide +kernel, .lay, trivial, rfl, rfl⟩)⟩
  | 13, _ => ⟨_, rfl, .inr (.inr ⟨by decide +kernel, by decide +kernel, .brk, trivial, rfl, rfl⟩)⟩
section
variable {P : Program} {w : World} {K : PySem.W.Frag} {mg : Str → Option Value} {base : Heap}
def sp_single (K : PySem.W.Frag) : Sp := fun vs H Q _ => ∃ (h l : Addr), vs = [.ref h] ∧ DrAt H h l ∧ ∀ a ky H', ky.Ok → ky.single = true → Kf [h, l] H H' → DrAt H' h l → KeyAt K H' a ky → Q (.ref a) H'
theorem sc__law_single : FnScope ["_law_h", "_law_k", "_law_words", "_law_word"] ["_law_h"] (defScope s__law_single) := ⟨rfl, rfl, rfl, by decide +kernel, rfl, by decide +kernel, by decide +kernel⟩
theorem ok__law_single (T : Tx w K mg) : Fk P w K mg base 3 (Ad K d__law_single.at_) ["_law_h"] (sp_single K) := by
  have F__law_next := ok__law_next (P := P) (base := base) T
  have F__law_sign := ok__law_sign (P := P) (base := base) T
  refine mkF T.f__law_single sc__law_single rfl (fun _ _ _ _ _ _ us hl => match us, hl with | [_], _ => rfl) (fun vs H Q E h => by obtain ⟨_, _, rfl, _⟩ := h; rfl) (fun cdv A outer s H vs Q E hcd hcode hr h => ?_)
  refine ⟨_, (pss_cons (ps_asg (pe_lst (pa_cons pe_str (pa_cons pe_str (pa_cons pe_str (pa_cons pe_str (pa_cons pe_str (pa_cons pe_str (pa_cons pe_str (pa_cons pe_str (pa_cons pe_str (pa_cons pe_str (pa_cons pe_str (pa_cons pe_str (pa_cons pe_str (pa_cons pe_str pa_nil))))))))))))))) (pg_name (i := 2) sc__law_single.nd rfl (.inl rfl)))
      (pss_cons (ps_asg (pe_ix ix_list (pv 2) (pe_cF F__law_next (hr.mono (by decide)) T.g__law_next px (pa_cons (pv 0) (pa_cons pe_int pa_nil))) (fun _ _ => rfl)) (pg_name (i := 3) sc__law_single.nd rfl (.inl rfl)))
      (pss_cons (ps_if (pt_cmpR op_eq (pv 3) pe_str (nomark _)) (pss_one (ps_ret (pe_tup (pa_cons (pv 3) (pa_cons (pe_cF F__law_sign (hr.mono (by decide)) T.g__law_sign px (pa_cons (pv 0) pa_nil)) pa_nil))))) pss_nil)
      (pss_cons (ps_if (pt_cmpR op_eq (pv 3) pe_str (nomark _)) (pss_one (ps_ret (pe_tup (pa_cons (pv 3) (pa_cons (pe_join pe_str (pe_lc (own := [("_law_k", 1)]) (by rfl) sc__law_single.nd (pi_range1 (by rfl) T.n_range (pa_cons (pe_op op_add pe_int (pe_cF F__law_next (hr.mono (by decide)) T.g__law_next px (pa_cons (pv 0) (pa_cons (pe_ix ix_list (pe_lst (pa_cons pe_int (pa_cons pe_int (pa_cons pe_int pa_nil)))) (pe_cF F__law_next (hr.mono (by decide)) T.g__law_next px (pa_cons (pv 0) (pa_cons pe_int pa_nil))) (fun _ _ => rfl)) pa_nil)))) pa_nil)) (blkOk_by (own := [("_law_k", 1)]) (N := ["_law_h", "_law_k", "_law_words", "_law_word"]) (sc := defScope s__law_single) (by decide +kernel)) (fun _ _ _ _ _ => (pg_name (i := 1) sc__law_single.nd rfl (.inl rfl))) (fun _ _ _ _ _ => pts_nil) (fun _ _ _ _ _ => (pe_cF F__law_sign (hr.mono (by decide)) T.g__law_sign passL (pa_cons (pv 0) pa_nil))))) pa_nil))))) pss_nil)
      (pss_one (ps_ret (pe_tup (pa_cons (pv 3) pa_nil)))))))), ?_⟩
  obtain ⟨h, l, rfl, hD, kQ⟩ := h
  refine ⟨line16 (by show 14 ≤ 1000000; decide), fun W nW => ?_⟩
  have k0 : Kq [] H (upd H W (.lst wordsV)) := Kq.alloc nW
  have hW : (upd H W (.lst wordsV)) W = some (.lst wordsV) := upd_same
  have hD0 := hD.kq k0
  have nWd : W ≠ h ∧ W ≠ l := by obtain ⟨_, _, _, d1, d2, _⟩ := hD; exact ⟨(ne_of_none d1 nW).symm, (ne_of_none d2 nW).symm⟩
  refine ⟨_, rfl, _, rfl, h, l, 14, rfl, hD0, by decide, by decide, fun r H1 hr k1 hD1 => ?_⟩
  have hW1 := k1.q.gets hW (by simp [nWd])
  have kk1 := (Kf.of k0 hD.wr).trans k1
  obtain ⟨wd, ewd, hwd⟩ := words_at hr
  refine ⟨W, _, _, .str wd, rfl, rfl, SqL.of hW1, at_of rfl ewd, ?_⟩
  refine ⟨_, rfl, rfl, _, rfl, iteD (fun e => ?_) (fun ne => ?_)⟩
  · have e : wd = "put" := V.str.inj e
    subst e
    refine ⟨_, rfl, _, rfl, h, l, rfl, hD1, fun c H2 hc k2 hD2 => ⟨line16 (by show 2 ≤ 1000000; decide), fun q nq => ?_⟩⟩
    have k3 : Kq [] H2 (upd H2 q (.tup [.str "put", .str (S [c])])) := Kq.alloc nq
    exact kQ q (.put [c]) _ ⟨rfl, fun d hd => by rw [List.mem_singleton.mp hd]; exact hc⟩ rfl ((kk1.trans k2).kq k3) (hD2.kq k3) (SqT.of upd_same)
  refine ⟨_, rfl, rfl, _, rfl, iteD (fun e => ?_) (fun ne2 => ?_)⟩
  · have e : wd = "find" := V.str.inj e
    subst e
    refine ⟨_, rfl, ⟨_, rfl⟩, _, rfl, line16 (by show 3 ≤ 1000000; decide), fun p np => ?_⟩
    have k2 : Kq [] H1 (upd H1 p (.lst [.int 1, .int 2, .int 4])) := Kq.alloc np
    refine ⟨_, rfl, h, l, 3, rfl, hD1.kq k2, by decide, by decide, fun r1 H2 hr1 k3 hD2 => ?_⟩
    have hp2 : H2 p = some (.lst [.int 1, .int 2, .int 4]) := by
      obtain ⟨_, _, _, d1, d2, _⟩ := hD1
      exact k3.q.gets upd_same (by simp; exact ⟨(ne_of_none d1 np).symm, (ne_of_none d2 np).symm⟩)
    have hX : ∃ X : Nat, ([.int 1, .int 2, .int 4] : List V)[r1]? = some (.int X) ∧ 1 ≤ X ∧ X ≤ 4 := match r1, hr1 with
      | 0, _ => ⟨1, rfl, by decide, by decide⟩
      | 1, _ => ⟨2, rfl, by decide, by decide⟩
      | 2, _ => ⟨4, rfl, by decide, by decide⟩
    obtain ⟨X, eX, X1, X4⟩ := hX
    refine ⟨p, _, _, .int X, rfl, rfl, SqL.of hp2, at_of rfl eX, h, l, X, rfl, hD2, X1, by omega, fun r2 H3 hr2 k4 hD3 => ?_⟩
    refine ⟨_, _, rfl, rfl, _, rfl, by omega, by omega, fun D nD => ?_⟩
    have nDh : D ≠ h ∧ D ≠ l := by
      obtain ⟨_, _, _, d1, d2, _⟩ := hD3
      exact ⟨(ne_of_none d1 nD).symm, (ne_of_none d2 nD).symm⟩
    obtain ⟨nDh, nDl⟩ := nDh
    refine lc_range (lo := 0) (n := (1 + (r2 : Int)).toNat) (fun i H2 => Kq [h, l] H3 H2 ∧ DrAt H2 h l ∧ ∃ cs : Ln, cs.length = i ∧ (∀ c ∈ cs, okSign c) ∧ H2 D = some (.lst (cs.map fun c => .str (S [c])))) ⟨(Kq.alloc nD), hD3.kq (Kq.alloc nD), [], rfl, by simp, upd_same⟩ ?_ ?_
    · rintro j H2 hj ⟨kj, hDj, cs, hcl, hcs, hDD⟩
      refine ⟨rfl, ?_⟩
      unfold tYes
      dsimp only
      rw [if_pos rfl]
      refine ⟨_, rfl, h, l, rfl, hDj, fun c H3 hc k3 hD3 => ?_⟩
      have g : H3 D = some (.lst (cs.map fun c => .str (S [c]))) := k3.q.gets hDD (by simp [nDh, nDl])
      refine ⟨_, g, ?_, (kj.trans k3.q).writeF nD g, hD3.upd nDh nDl, cs ++ [c], by simp [hcl], fun d hd => ?_, ?_⟩
      · rw [List.length_map]; exact small1000 (by omega)
      · rcases List.mem_append.mp hd with z | z
        · exact hcs d z
        · rw [List.mem_singleton.mp z]; exact hc
      · rw [upd_same, List.map_append]; rfl
    · rintro H4 ⟨kj, hDj, cs, hcl, hcs, hDD⟩
      refine ⟨Str.ofString "", D, cs.map fun c => S [c], rfl, rfl, .inl (SqL.of (by rw [List.map_map]; exact hDD)), ?_, ?_⟩
      · rw [signs_len, List.length_map, empty_eq, S_len]; simp; omega
      rw [join_signs]
      refine ⟨line16 (by show 2 ≤ 1000000; decide), fun q nq => ?_⟩
      have k5 : Kq [] H4 (upd H4 q (.tup [.str "find", .str (S cs)])) := Kq.alloc nq
      have kf4 : Kf [h, l] H3 H4 := ⟨kj, hD3.wr, hDj.wr⟩
      exact kQ q (.find cs) _ ⟨by omega, by omega, hcs⟩ rfl ((((kk1.kq k2).trans (k3.trans k4)).trans kf4).kq k5) (hDj.kq k5) (SqT.of upd_same)
  · rcases hwd with e | e | ⟨_, _, ky, kok, ksg, ek⟩
    · exact absurd (by rw [e]) ne
    · exact absurd (by rw [e]) ne2
    refine ⟨_, rfl, line16 (by show 1 ≤ 1000000; decide), fun q nq => ?_⟩
    have k3 : Kq [] H1 (upd H1 q (.tup [.str wd])) := Kq.alloc nq
    refine kQ q ky _ kok ksg (kk1.kq k3) (hD1.kq k3) ?_
    unfold KeyAt
    rw [ek]
    exact SqT.of upd_same
end
end KT
set_option Elab.async false
set_option linter.all false
set_option maxRecDepth 100000
set_option maxHeartbeats 4000000
namespace KT
open PySem PySem.Spec PyProof.Rows L2 GxR
variable [GT]
def namesS : Str := Str.ofString "abcdefgh"
theorem namesS_at : ∀ n : Fin 8, namesS.cps.toList[n.1]? = some (97 + n.1) := by decide +kernel
theorem namesS_len : namesS.length = 8 ∧ namesS.cps.toList.length = 8 := by decide +kernel
section
variable {P : Program} {w : World} {K : PySem.W.Frag} {mg : Str → Option Value} {base : Heap}
def sp_key (K : PySem.W.Frag) : Sp := fun vs H Q _ => ∃ (h l : Addr), vs = [.ref h] ∧ DrAt H h l ∧ ∀ a ky H', ky.Ok → Kf [h, l] H H' → DrAt H' h l → KeyAt K H' a ky → Q (.ref a) H'
theorem sc__law_key : FnScope ["_law_h", "_law_turn"] ["_law_h"] (defScope s__law_key) := ⟨rfl, rfl, rfl, by decide +kernel, rfl, by decide +kernel, by decide +kernel⟩
theorem ok__law_key (T : Tx w K mg) : Fk P w K mg base 4 (Ad K d__law_key.at_) ["_law_h"] (sp_key K) := by
  have F__law_next := ok__law_next (P := P) (base := base) T
  have F__law_single := ok__law_single (P := P) (base := base) T
  refine mkF T.f__law_key sc__law_key rfl (fun _ _ _ _ _ _ us hl => match us, hl with | [_], _ => rfl) (fun vs H Q E h => by obtain ⟨_, _, rfl, _⟩ := h; rfl) (fun cdv A outer s H vs Q E hcd hcode hr h => ?_)
  refine ⟨_, (pss_cons (ps_asg (pe_cF F__law_next (hr.mono (by decide)) T.g__law_next px (pa_cons (pv 0) (pa_cons pe_int pa_nil))) (pg_name (i := 1) sc__law_key.nd rfl (.inl rfl)))
      (pss_cons (ps_if (pt_cmpR op_eq (pv 1) pe_int (nomark _)) (pss_one (ps_ret (pe_tup (pa_cons pe_str (pa_cons (pe_ix ix_str pe_str (pe_cF F__law_next (hr.mono (by decide)) T.g__law_next px (pa_cons (pv 0) (pa_cons (pe_ix ix_list (pe_lst (pa_cons pe_int (pa_cons pe_int (pa_cons pe_int pa_nil)))) (pe_cF F__law_next (hr.mono (by decide)) T.g__law_next px (pa_cons (pv 0) (pa_cons pe_int pa_nil))) (fun _ _ => rfl)) pa_nil))) (fun _ _ => rfl)) (pa_cons (pe_op op_add pe_int (pe_cF F__law_next (hr.mono (by decide)) T.g__law_next px (pa_cons (pv 0) (pa_cons (pe_ix ix_list (pe_lst (pa_cons pe_int (pa_cons pe_int pa_nil))) (pe_cF F__law_next (hr.mono (by decide)) T.g__law_next px (pa_cons (pv 0) (pa_cons pe_int pa_nil))) (fun _ _ => rfl)) pa_nil)))) pa_nil)))))) pss_nil)
      (pss_one (ps_ret (pe_ifExp (pt_cmpR op_eq (pv 1) pe_int (nomark _)) (pe_tup (pa_cons pe_str (pa_cons (pe_ix ix_str pe_str (pe_cF F__law_next (hr.mono (by decide)) T.g__law_next px (pa_cons (pv 0) (pa_cons (pe_ix ix_list (pe_lst (pa_cons pe_int (pa_cons pe_int (pa_cons pe_int pa_nil)))) (pe_cF F__law_next (hr.mono (by decide)) T.g__law_next px (pa_cons (pv 0) (pa_cons pe_int pa_nil))) (fun _ _ => rfl)) pa_nil))) (fun _ _ => rfl)) pa_nil))) (pe_cF F__law_single (hr.mono (by decide)) T.g__law_single px (pa_cons (pv 0) pa_nil))))))), ?_⟩
  obtain ⟨h, l, rfl, hD, kQ⟩ := h
  refine ⟨_, rfl, h, l, 8, rfl, hD, by decide, by decide, fun r H1 hr k1 hD1 => ?_⟩
  refine ⟨_, rfl, rfl, _, rfl, iteD (fun _ => ?_) (fun _ => ?_)⟩
  · refine ⟨_, rfl, ?_⟩
    refine ⟨line16 (by show 3 ≤ 1000000; decide), fun pa npa => ?_⟩
    have kpa : Kq [] H1 (upd H1 pa (.lst [.int 2, .int 3, .int 8])) := Kq.alloc npa
    refine ⟨_, rfl, h, l, 3, rfl, hD1.kq kpa, by decide, by decide, fun ra H2 hra k2 hDH2 => ?_⟩
    have hpa : H2 pa = some (.lst [.int 2, .int 3, .int 8]) := by
      obtain ⟨_, _, _, d1, d2, _⟩ := hD1
      exact k2.q.gets upd_same (by simp; exact ⟨(ne_of_none d1 npa).symm, (ne_of_none d2 npa).symm⟩)
    have hXXa : ∃ X : Nat, ([.int 2, .int 3, .int 8] : List V)[ra]? = some (.int X) ∧ 1 ≤ X ∧ X ≤ 8 := match ra, hra with
      | 0, _ => ⟨2, rfl, by decide, by decide⟩
      | 1, _ => ⟨3, rfl, by decide, by decide⟩
      | 2, _ => ⟨8, rfl, by decide, by decide⟩
    obtain ⟨Xa, eXa, Xa1, Xa8⟩ := hXXa
    refine ⟨pa, _, _, .int Xa, rfl, rfl, SqL.of hpa, at_of rfl eXa, h, l, Xa, rfl, hDH2, Xa1, by omega, fun n H3 hn k3 hD3 => ?_⟩
    have hn8 : n < 8 := by omega
    refine ⟨namesS, _, _, rfl, rfl, line16 (by rw [namesS_len.1]; decide), cps_at rfl (namesS_at ⟨n, hn8⟩), _, rfl, ?_⟩
    refine ⟨line16 (by show 2 ≤ 1000000; decide), fun pb npb => ?_⟩
    have kpb : Kq [] H3 (upd H3 pb (.lst [.int 2, .int 9])) := Kq.alloc npb
    refine ⟨_, rfl, h, l, 2, rfl, hD3.kq kpb, by decide, by decide, fun rb H4 hrb k4 hDH4 => ?_⟩
    have hpb : H4 pb = some (.lst [.int 2, .int 9]) := by
      obtain ⟨_, _, _, d1, d2, _⟩ := hD3
      exact k4.q.gets upd_same (by simp; exact ⟨(ne_of_none d1 npb).symm, (ne_of_none d2 npb).symm⟩)
    have hXXb : ∃ X : Nat, ([.int 2, .int 9] : List V)[rb]? = some (.int X) ∧ 1 ≤ X ∧ X ≤ 9 := match rb, hrb with
      | 0, _ => ⟨2, rfl, by decide, by decide⟩
      | 1, _ => ⟨9, rfl, by decide, by decide⟩
    obtain ⟨Xb, eXb, Xb1, Xb8⟩ := hXXb
    refine ⟨pb, _, _, .int Xb, rfl, rfl, SqL.of hpb, at_of rfl eXb, h, l, Xb, rfl, hDH4, Xb1, by omega, fun m H5 hm k5 hD5 => ?_⟩
    refine ⟨_, _, rfl, rfl, line16 (by show 3 ≤ 1000000; decide), fun q nq => ?_⟩
    have k6 : Kq [] H5 (upd H5 q (.tup [.str "play", .str ⟨#[97 + n]⟩, .int (1 + (m : Int))])) := Kq.alloc nq
    have e : (1 + (m : Int)) = ((m + 1 : Nat) : Int) := by omega
    have g : KeyAt K (upd H5 q (.tup [.str "play", .str ⟨#[97 + n]⟩, .int (1 + (m : Int))])) q (.play n (m + 1)) := by
      show SqT K _ q [.str "play", .str (nameS n), .int ((m + 1 : Nat) : Int)]
      rw [← e]
      exact SqT.of upd_same
    exact kQ q (.play n (m + 1)) _ ⟨hn8, by omega, by omega⟩ ((((k1.kq kpa).trans (k2.trans k3)).kq kpb).trans (k4.trans k5) |>.kq k6) (hD5.kq k6) g
  · refine ⟨_, rfl, rfl, _, rfl, iteD (fun _ => ?_) (fun _ => ?_)⟩
    · refine ⟨_, rfl, ?_⟩
      refine ⟨line16 (by show 3 ≤ 1000000; decide), fun pa npa => ?_⟩
      have kpa : Kq [] H1 (upd H1 pa (.lst [.int 2, .int 3, .int 8])) := Kq.alloc npa
      refine ⟨_, rfl, h, l, 3, rfl, hD1.kq kpa, by decide, by decide, fun ra H2 hra k2 hDH2 => ?_⟩
      have hpa : H2 pa = some (.lst [.int 2, .int 3, .int 8]) := by
        obtain ⟨_, _, _, d1, d2, _⟩ := hD1
        exact k2.q.gets upd_same (by simp; exact ⟨(ne_of_none d1 npa).symm, (ne_of_none d2 npa).symm⟩)
      have hXXa : ∃ X : Nat, ([.int 2, .int 3, .int 8] : List V)[ra]? = some (.int X) ∧ 1 ≤ X ∧ X ≤ 8 := match ra, hra with
        | 0, _ => ⟨2, rfl, by decide, by decide⟩
        | 1, _ => ⟨3, rfl, by decide, by decide⟩
        | 2, _ => ⟨8, rfl, by decide, by decide⟩
      obtain ⟨Xa, eXa, Xa1, Xa8⟩ := hXXa
      refine ⟨pa, _, _, .int Xa, rfl, rfl, SqL.of hpa, at_of rfl eXa, h, l, Xa, rfl, hDH2, Xa1, by omega, fun n H3 hn k3 hD3 => ?_⟩
      have hn8 : n < 8 := by omega
      refine ⟨namesS, _, _, rfl, rfl, line16 (by rw [namesS_len.1]; decide), cps_at rfl (namesS_at ⟨n, hn8⟩), line16 (by show 2 ≤ 1000000; decide), fun q nq => ?_⟩
      have k6 : Kq [] H3 (upd H3 q (.tup [.str "till", .str ⟨#[97 + n]⟩])) := Kq.alloc nq
      exact kQ q (.till n) _ hn8 (((k1.kq kpa).trans (k2.trans k3)).kq k6) (hD3.kq k6) (SqT.of upd_same)
    · exact ⟨_, rfl, h, l, rfl, hD1, fun a ky H2 kok _ k2 hD2 hk => kQ a ky H2 kok (k1.trans k2) hD2 hk⟩
end
end KT
set_option Elab.async false
set_option linter.all false
set_option maxRecDepth 100000
set_option maxHeartbeats 4000000
namespace KT
open PySem PySem.Spec PyProof.Rows L2 GxR
variable [GT]
theorem KeysAt.snoc1 {K : PySem.W.Frag} {H : Hp} {as : List Addr} {a : Addr} {ks : List Ky} {k : Ky} (h : KeysAt K H as ks) (g : KeyAt K H a k) : KeysAt K H (as ++ [a]) (ks ++ [k]) := by
  induction h with
  | nil => exact .cons g .nil
  | cons h _ ih => exact .cons h ih
section
variable {P : Program} {w : World} {K : PySem.W.Frag} {mg : Str → Option Value} {base : Heap}
def sp_tape (K : PySem.W.Frag) : Sp := fun vs H Q _ => ∃ (h l : Addr) (m : Nat), vs = [.ref h, .int m] ∧ DrAt H h l ∧ m ≤ 30 ∧ ∀ T ks H', ks.length ≤ m → (∀ k ∈ ks, k.Ok) → Kf [h, l] H H' → DrAt H' h l → TapeAt K H' T ks → Q (.ref T) H'
theorem sc__law_tape : FnScope ["_law_h", "_law_most", "_law_k", "_law_often"] ["_law_h", "_law_most"] (defScope s__law_tape) := ⟨rfl, rfl, rfl, by decide +kernel, rfl, by decide +kernel, by decide +kernel⟩
theorem ok__law_tape (T : Tx w K mg) : Fk P w K mg base 5 (Ad K d__law_tape.at_) ["_law_h", "_law_most"] (sp_tape K) := by
  have F__law_key := ok__law_key (P := P) (base := base) T
  have F__law_next := ok__law_next (P := P) (base := base) T
  have F__law_single := ok__law_single (P := P) (base := base) T
  refine mkF T.f__law_tape sc__law_tape rfl (fun _ _ _ _ _ _ us hl => match us, hl with | [_, _], _ => rfl) (fun vs H Q E h => by obtain ⟨_, _, _, rfl, _⟩ := h; rfl) (fun cdv A outer s H vs Q E hcd hcode hr h => ?_)
  refine ⟨_, (pss_cons (ps_asg (pe_cF F__law_next (hr.mono (by decide)) T.g__law_next px (pa_cons (pv 0) (pa_cons pe_int pa_nil))) (pg_name (i := 3) sc__law_tape.nd rfl (.inr rfl)))
      (pss_one (ps_ret (pe_callTy call_tuple_of (by rfl) T.n_tuple (by decide +kernel) (pa_cons (pe_lc (own := [("_law_k", 2)]) (by rfl) sc__law_tape.nd (pi_range1 (by rfl) T.n_range (pa_cons (pe_cF F__law_next (hr.mono (by decide)) T.g__law_next px (pa_cons (pv 0) (pa_cons (pe_op op_add (pv 1) pe_int) pa_nil))) pa_nil)) (blkOk_by (own := [("_law_k", 2)]) (N := ["_law_h", "_law_most", "_law_k", "_law_often"]) (sc := defScope s__law_tape) (by decide +kernel)) (fun _ _ _ _ _ => (pg_name (i := 2) sc__law_tape.nd rfl (.inl rfl))) (fun _ _ _ _ _ => pts_nil) (fun _ _ _ _ _ => (pe_ifExp (pt_cmpR op_lt (pe_cF F__law_next (hr.mono (by decide)) T.g__law_next passL (pa_cons (pv 0) (pa_cons pe_int pa_nil))) (pv 3) (nomark _)) (pe_cF F__law_key (hr.mono (by decide)) T.g__law_key passL (pa_cons (pv 0) pa_nil)) (pe_cF F__law_single (hr.mono (by decide)) T.g__law_single passL (pa_cons (pv 0) pa_nil))))) pa_nil))))), ?_⟩
  obtain ⟨h, l, m, rfl, hD, hm, kQ⟩ := h
  refine ⟨_, rfl, h, l, 3, rfl, hD, by decide, by decide, fun r0 H1 hr0 k1 hD1 => ?_⟩
  refine ⟨_, rfl, _, rfl, _, _, rfl, rfl, h, l, m + 1, rfl, hD1, by omega, by omega, fun r H2 hr k2 hD2 => ⟨_, rfl, by omega, by omega, fun D nD => ?_⟩⟩
  have nDh : D ≠ h ∧ D ≠ l := by
    obtain ⟨_, _, _, d1, d2, _⟩ := hD2
    exact ⟨(ne_of_none d1 nD).symm, (ne_of_none d2 nD).symm⟩
  obtain ⟨nDh, nDl⟩ := nDh
  have k02 := k1.trans k2
  refine lc_range (lo := 0) (n := (r : Int).toNat) (vs := [2]) (fun i H' => Kq [h, l] H2 H' ∧ DrAt H' h l ∧ ∃ as ks, as.length = i ∧ (∀ k ∈ ks, k.Ok) ∧ KeysAt K H' as ks ∧ H' D = some (.lst (as.map V.ref))) ⟨Kq.alloc nD, hD2.kq (Kq.alloc nD), [], [], rfl, by simp, .nil, upd_same⟩ ?_ ?_
  · rintro i H' hi ⟨kq, hDi, as, ks, hl, hok, hks, gD⟩
    refine ⟨rfl, ?_⟩
    unfold tYes
    dsimp only
    rw [if_pos rfl]
    have fin : ∀ a ky H3, ky.Ok → Kf [h, l] H' H3 → DrAt H3 h l → KeyAt K H3 a ky → ∃ acc, H3 D = some (.lst acc) ∧ acc.length < sizeLine ∧ (Kq [h, l] H2 (upd H3 D (.lst (acc ++ [.ref a]))) ∧ DrAt (upd H3 D (.lst (acc ++ [.ref a]))) h l ∧ ∃ as ks, as.length = i + 1 ∧ (∀ k ∈ ks, k.Ok) ∧ KeysAt K (upd H3 D (.lst (acc ++ [.ref a]))) as ks ∧ (upd H3 D (.lst (acc ++ [.ref a]))) D = some (.lst (as.map V.ref))) := by
      intro a ky H3 kok k3 hD3 hk
      have g : H3 D = some (.lst (as.map V.ref)) := k3.q.gets gD (by simp [nDh, nDl])
      have kw : Kf [D] H3 (upd H3 D (.lst (as.map V.ref ++ [.ref a]))) := Kf.one g
      refine ⟨_, g, ?_, (kq.trans k3.q).writeF nD g, hD3.upd nDh nDl, as ++ [a], ks ++ [ky], by simp [hl], fun k hk' => ?_, (kw.keys (k3.keys hks)).snoc1 (kw.key hk), ?_⟩
      · rw [List.length_map]; exact small1000 (by omega)
      · rcases List.mem_append.mp hk' with z | z
        · exact hok k z
        · rw [List.mem_singleton.mp z]; exact kok
      · rw [upd_same, List.map_append]; rfl
    refine ⟨_, rfl, h, l, 3, rfl, hDi, by decide, by decide, fun rr H3 hrr k3 hD3 => ⟨_, rfl, _, _, rfl, rfl, _, rfl, iteD (fun _ => ?_) (fun _ => ?_)⟩⟩
    · exact ⟨_, rfl, h, l, rfl, hD3, fun a ky H4 kok k4 hD4 hk => fin a ky H4 kok (k3.trans k4) hD4 hk⟩
    · exact ⟨_, rfl, h, l, rfl, hD3, fun a ky H4 kok _ k4 hD4 hk => fin a ky H4 kok (k3.trans k4) hD4 hk⟩
  · rintro H' ⟨kq, hDi, as, ks, hl, hok, hks, gD⟩
    refine ⟨D, _, rfl, .inl ⟨SqL.of gD, fun T nT => ?_⟩⟩
    have kT : Kq [] H' (upd H' T (.tup (as.map V.ref))) := Kq.alloc nT
    have kl := hks.len
    have kf2 : Kf [h, l] H2 H' := ⟨kq, hD2.wr, hDi.wr⟩
    exact kQ T ks _ (by omega) hok ((k02.trans kf2).kq kT) (hDi.kq kT) ⟨as, SqT.of upd_same, kT.keys hks⟩
end
end KT
set_option Elab.async false
set_option linter.all false
set_option maxRecDepth 100000
set_option maxHeartbeats 4000000
namespace KT
open PySem PySem.Spec PyProof.Rows L2 StrLaws
variable [GT]
/-! ### what a text of tapes stands for: the program's reading, in Lean -/
def optS : Option Ln → V
  | none => .non
  | some l => .str (S l)
def numW : Ln → Option Nat
  | [c] => if 49 ≤ c ∧ c ≤ 57 then some (c - 48) else none
  | _ => none
def optN : Option Nat → V
  | none => .non
  | some n => .int n
def strW (l : Ln) : V := .str (S l)
/-- the tuple that words stand for -/
def keyW : List Ln → List V
  | [a, b] => if inV (strW a) withV = true then [strW a, optS (lu b)] else [strW a, strW b]
  | [a, b, c] => [strW a, strW b, optN (numW c)]
  | ws => ws.map strW
def wordsI : List (Str × Int) := [("put", 2), ("find", 2), ("play", 3), ("till", 2)]
/-- how many words a key has that begins so -/
def manyW (w : Ln) : Nat := match wordsI.lookup (S w) with
  | some i => i.toNat
  | none => 1
omit [GT] in
theorem manyW_in (w : Ln) : 1 ≤ manyW w ∧ manyW w ≤ 3 := by
  unfold manyW
  cases h : wordsI.lookup (S w) with
  | none => exact ⟨Nat.le_refl _, by decide⟩
  | some i =>
    have hm := PySem.mem_of_lookup h
    simp only [wordsI, List.mem_cons, Prod.mk.injEq, List.not_mem_nil, or_false] at hm
    rcases hm with ⟨_, rfl⟩ | ⟨_, rfl⟩ | ⟨_, rfl⟩ | ⟨_, rfl⟩ <;> decide
/-- the tuples that words stand for, one after another -/
def keysV (ws : List Ln) : Option (List (List V)) :=
  match ws with
  | [] => some []
  | w :: r => if keyB actB (keyW ((w :: r).take (manyW w))) = true then (keysV ((w :: r).drop (manyW w))).map (keyW ((w :: r).take (manyW w)) :: ·) else none
termination_by ws.length
decreasing_by
  have := (manyW_in w).1
  rw [List.length_drop, List.length_cons]
  omega
theorem keysV_nil : keysV [] = some [] := by rw [keysV]
theorem keysV_cons (w : Ln) (r : List Ln) : keysV (w :: r) = if keyB actB (keyW ((w :: r).take (manyW w))) = true then (keysV ((w :: r).drop (manyW w))).map (keyW ((w :: r).take (manyW w)) :: ·) else none := by rw [keysV]
/-- the tape that words stand for -/
def tapeV (ws : List Ln) : Option (List (List V)) := match keysV ws with
  | none => none
  | some ks => if ks.length = 0 ∨ 30 < ks.length then none else some ks
/-- rows, read: the number of the first that is none, or the tapes -/
def rowsV' : Str → Nat → List Ln → Nat ⊕ List (Str × List (List V))
  | _, _, [] => .inr []
  | u, i, row :: r => match TL.spl [32] 0 [] row with
    | [] => .inl i
    | z :: ws => match tapeV ws with
      | none => .inl i
      | some xss => if risesB (S z) u = true then (match rowsV' (S z) (i + 1) r with
        | .inl e => .inl e
        | .inr rs => .inr ((S z, xss) :: rs)) else .inl i
def readV (l : Ln) : Nat ⊕ List (Str × List (List V)) := if l = [] then .inr [] else rowsV' Str.empty 0 (TL.spl [10] 0 [] l)
/-! ### lengths -/
theorem spl_lens (S : Ln) : ∀ (l : Ln) (k : Nat) (acc : Ln), (TL.spl S k acc l).length ≤ l.length + 1 ∧ ((TL.spl S k acc l).map (·.length)).sum ≤ acc.length + l.length
  | [], k, acc => by rw [TL.spl_nil]; simp
  | c :: r, 0, acc => by
    cases h : TL.pre S (c :: r) with
    | true =>
      obtain ⟨h1, h2⟩ := spl_lens S r (S.length - 1) []
      rw [TL.spl_hit h]
      simp only [List.length_cons, List.map_cons, List.sum_cons, List.length_nil] at *
      omega
    | false =>
      obtain ⟨h1, h2⟩ := spl_lens S r 0 (acc ++ [c])
      rw [TL.spl_miss h]
      simp only [List.length_cons, List.length_append, List.length_nil] at *
      omega
  | c :: r, k + 1, acc => by
    obtain ⟨h1, h2⟩ := spl_lens S r k acc
    show (TL.spl S k acc r).length ≤ _ ∧ ((TL.spl S k acc r).map (·.length)).sum ≤ _
    rw [List.length_cons]
    omega
theorem mem_sum {ls : List Ln} {x : Ln} (h : x ∈ ls) : x.length ≤ (ls.map (·.length)).sum := by
  induction ls with
  | nil => simp at h
  | cons a r ih =>
    simp only [List.map_cons, List.sum_cons]
    rcases List.mem_cons.mp h with rfl | z
    · omega
    · have := ih z
      omega
theorem spl_mem {S l x : Ln} (h : x ∈ TL.spl S 0 [] l) : x.length ≤ l.length := by
  have h1 := mem_sum h
  have h2 := (spl_lens S l 0 []).2
  rw [List.length_nil, Nat.zero_add] at h2
  exact Nat.le_trans h1 h2
theorem split_list {x y : Str} {l : Ln} {c : Nat} {r : Ln} (hy : TL.tl y = c :: r) (hk : y.cps.all (· < 256) = true) (hx : TL.tl x = l) : (Txt.split x y) = (TL.spl (c :: r) 0 [] l).map S := by
  refine TL.map_tl_inj ?_
  rw [TL.split_spl x y (by rw [hy]; simp) (TL.kind_ok hk), hy, hx, List.map_map]
  exact (List.map_id _).symm
theorem numL_len : ∀ n : Nat, (TL.numL n).length ≤ n + 1 := by
  intro n
  induction n using Nat.strongRecOn with
  | ind n ih =>
    by_cases h : n < 10
    · rw [TL.numL_lt h]; simp
    · rw [TL.numL_step (by omega), List.length_append]
      have := ih (n / 10) (by omega)
      simp
      omega
theorem joinS (y : Str) (ws : List Ln) : Txt.join y (ws.map S) = S (TL.joinL (TL.tl y) ws) := by
  refine TL.ext_tl ?_
  rw [TL.join_eq, TL.tl_join, List.map_map]
  show _ = TL.joinL (TL.tl y) ws
  congr 1
  exact List.map_id _
theorem lens_S (ws : List Ln) : ((ws.map S).map (·.length)).sum = (ws.map (·.length)).sum := by
  induction ws with
  | nil => rfl
  | cons a r ih =>
    simp only [List.map_cons, List.sum_cons, ih, S_len]
theorem rep_sum (ps : List Ln) (y z : Ln) (m : Nat) (h : ∀ p, (replL y z p).length ≤ 2 * p.length + 1) : ((ps.map (replL y z)).map (·.length)).sum ≤ 2 * (ps.map (·.length)).sum + ps.length := by
  induction ps with
  | nil => simp
  | cons a r ih =>
    have := h a
    simp only [List.map_cons, List.sum_cons, List.length_cons]
    omega
end KT
set_option Elab.async false
set_option linter.all false
set_option maxRecDepth 100000
set_option maxHeartbeats 4000000
namespace KT
open PySem PySem.Spec PyProof.Rows L2
/-- d.get(e, f), read: d a written dict of texts -/
def tGetK (K : PySem.W.Frag) (d : Addr) (td ty tx : TE) : TE := fun σ H Q => td σ H fun x H1 => x = .ref d ∧ ty σ H1 fun y H2 => tx σ H2 fun f H3 => ∃ (z : Str) (r : Option Value) (v : V), y = .str z ∧ PySem.W.nsIn K d z = some r ∧ (match r with | none => v = f | some u => RelV v u) ∧ Q v H3
section
variable {X : Cx} {d : Addr} {es : Array DictEntry} {n : Nat} {o e f : Expr} {apos cpos : Pos} {td ty tx : TE}
theorem pe_getK (D : KDict X.K X.w d es n) (ho : PE X o td) (he : PE X e ty) (hf : PE X f tx) (m : M2 X o "get" apos e f cpos) : PE X (.Call (.Attribute o "get" apos) [e, f] [] cpos) (tGetK X.K d td ty tx) := by
  refine ⟨fun pins s σ H Q I h => ?_⟩
  have typ : ∀ {σ : L2.St} {H : Hp} {s : Shared}, Inv X pins σ H s → s.TypeIs (.ref d) "dict" := fun I => ⟨_, I.kIn _ _ D.at_, rfl⟩
  refine wpAny_Call_method m.base m.few m.line PySem.F.plainAttrs_dict PySem.F.slot_dict_get PySem.F.type_dict_get (thn (ho.run pins s σ H _ I h) fun u s1 got => ?_)
  obtain ⟨x, H1, I1, rx, ex, q1⟩ := got
  subst ex
  obtain rfl : u = Value.ref d := rx
  refine ⟨typ I1, fun b eb => by cases eb; exact ⟨_, I1.kIn _ _ D.at_, rfl⟩, ?_⟩
  rw [m.trees]
  refine Calls.callWith_builtin rfl (Calls.evalArgs_plain (Calls.spliced_cons (thn (he.run pins s1 σ H1 _ I1 q1) fun yv s2 gotY => ?_)))
  obtain ⟨y, H2, I2, ry, q2⟩ := gotY
  refine Calls.spliced_cons (thn (hf.run pins s2 σ H2 _ I2 q2) fun fv s3 gotF => Calls.spliced_nil ?_)
  obtain ⟨fx, H3, I3, rf, z, r, v, ey, en, hr, q3⟩ := gotF
  subst ey
  obtain ⟨t, rfl⟩ := ry
  refine call_meetsIn PySem.F.slot_dict_get (typ I3) PySem.F.entry_dict_get (PySem.F.args_dict_get_3 _ _ _) (meets_dict_get_default (strKind X.prog X.w) d (PySem.strKind_is X.prog X.w z t) D.low fv) ⟨_, PySem.W.mapOf_K (prog := X.prog) I3.kIn D.at_ D.lit, ?_⟩
  rw [PySem.W.find_K D.at_ en]
  refine ⟨v, H3, I3.tok _, ?_, q3⟩
  cases r with
  | none => rw [show v = fx from hr]; exact rf
  | some u => exact hr
end
end KT
set_option Elab.async false
set_option linter.all false
set_option maxRecDepth 100000
set_option maxHeartbeats 4000000
namespace KT
open PySem PySem.Spec PyProof.Rows L2 GxR
variable [GT]
theorem lit_split (x : Str) (l : Ln) (hx : TL.tl x = l) : Txt.split x (Str.ofString "~~") = (TL.spl [126, 126] 0 [] l).map S ∧ Txt.split x (Str.ofString " ") = (TL.spl [32] 0 [] l).map S ∧ Txt.split x (Str.ofString "\n") = (TL.spl [10] 0 [] l).map S :=
  ⟨split_list (by decide +kernel) (by decide +kernel) hx, split_list (by decide +kernel) (by decide +kernel) hx, split_list (by decide +kernel) (by decide +kernel) hx⟩
theorem lit_rep (p : Ln) : Txt.replace (S p) (Str.ofString "~_") (Str.ofString " ") = S (StrLaws.replL [126, 95] [32] p) := by
  refine TL.ext_tl ?_
  show (Txt.replace _ _ _).cps.toList = _
  rw [StrLaws.replace_list (by decide +kernel), show (Str.ofString "~_").cps.toList = [126, 95] by decide +kernel, show (Str.ofString " ").cps.toList = [32] by decide +kernel]
theorem rep_len (p : Ln) : (StrLaws.replL [126, 95] [32] p).length ≤ 2 * p.length + 1 := by
  have h := TK.replace_len (S p) (Str.ofString "~_") (Str.ofString " ")
  rw [lit_rep, S_len, S_len, show (Str.ofString " ").length = 1 by decide +kernel] at h
  omega
section
variable {P : Program} {w : World} {K : PySem.W.Frag} {mg : Str → Option Value} {base : Heap}
def sp_signs_of (K : PySem.W.Frag) : Sp := fun vs H Q _ => ∃ l : Ln, vs = [.str (S l)] ∧ l.length ≤ 100000 ∧ ∀ H', Kq [] H H' → Q (optS (lu l)) H'
theorem sc_signs_of : FnScope ["word", "part", "parts"] ["word"] (defScope s_signs_of) := ⟨rfl, rfl, rfl, by decide +kernel, rfl, by decide +kernel, by decide +kernel⟩
theorem ok_signs_of (T : Tx w K mg) : Fk P w K mg base 1 (Ad K d_signs_of.at_) ["word"] (sp_signs_of K) := by
  refine mkFT T.f_signs_of sc_signs_of rfl (by decide +kernel) (by decide) (fun _ _ _ _ _ _ us hl => match us, hl with | [_], _ => rfl) (fun vs H Q E h => by obtain ⟨_, rfl, _⟩ := h; rfl) (fun cdv A outer s H vs Q E hcd hcode hr h => ?_)
  refine ⟨_, (psst_cons (pst_setLc (i := 2) (own := [("part", 1)]) rfl sc_signs_of.nd rfl rfl (sw_true rfl rfl rfl (by decide +kernel)) (pi_list (pe_split (pv 0) pe_str)) (blkOk_by (own := [("part", 1)]) (N := ["word", "part", "parts"]) (sc := defScope s_signs_of) (by decide +kernel)) (fun _ _ _ _ _ => (pg_name (i := 1) sc_signs_of.nd rfl (.inl rfl))) (fun _ _ _ _ _ => (CwR.pet_replC (pv 1)))) (PSsT.of (pss_cons (ps_if (pt_cmpR op_in_sign pe_str (pe_join pe_str (pv 2)) (by rfl)) (pss_one (ps_ret pe_non)) pss_nil) (pss_one (ps_ret (pe_join pe_str (pv 2))))))), ?_⟩
  obtain ⟨l, rfl, hl, kQ⟩ := h
  have hsz : sizeLine = 16777216 := sizeLine_eq
  refine ⟨_, rfl, ⟨_, rfl⟩, _, Str.ofString "~~", rfl, rfl, by decide +kernel, by rw [S_len]; omega, fun L nL => ?_⟩
  rw [(lit_split (S l) l rfl).1]
  generalize hps : TL.spl [126, 126] 0 [] l = ps
  have hlens := spl_lens [126, 126] l 0 []
  rw [hps, List.length_nil, Nat.zero_add] at hlens
  have hmem : ∀ p ∈ ps, p.length ≤ l.length := fun p hp => Nat.le_trans (mem_sum hp) hlens.2
  have kL : Kq [] H (upd H L (.lst ((ps.map S).map V.str))) := Kq.alloc nL
  have gL : (upd H L (.lst ((ps.map S).map V.str))) L = some (.lst ((ps.map S).map V.str)) := upd_same
  generalize (upd H L (.lst ((ps.map S).map V.str))) = H1 at kL gL ⊢
  refine ⟨L, rfl, ⟨_, SqL.of gL⟩, fun D nD => ?_⟩
  refine lc_list (K := K) (a := L) (xs := (ps.map S).map V.str) (fun i H' => Kq [] H1 H' ∧ H' D = some (.lst (((ps.take i).map (StrLaws.replL [126, 95] [32])).map strW))) ⟨Kq.alloc nD, upd_same⟩ (fun i H' _ z => SqL.of (z.1.get gL)) ?_ ?_
  · rintro i x H' hx ⟨k1, gD⟩
    rw [List.map_map, List.getElem?_map] at hx
    obtain ⟨p, hp, rfl⟩ := Option.map_eq_some_iff.mp hx
    have hi : i < ps.length := (List.getElem?_eq_some_iff.mp hp).1
    refine ⟨rfl, ?_⟩
    unfold tYes
    dsimp only
    rw [if_pos rfl]
    have hpl := hmem p (List.mem_of_getElem? hp)
    refine ⟨_, rfl, S p, rfl, ?_, _, gD, ?_, k1.writeF nD gD, ?_⟩
    · rw [S_len, show (Str.ofString " ").length = 1 by decide +kernel]
      omega
    · rw [List.length_map, List.length_map, List.length_take]
      omega
    · rw [upd_same, List.take_succ, hp, lit_rep]
      simp [strW]
  · rintro H' ⟨k1, gD⟩
    rw [List.length_map, List.length_map, List.take_length] at gD
    have eD : (ps.map (StrLaws.replL [126, 95] [32])).map strW = ((partsQ l).map S).map V.str := by
      rw [show partsQ l = ps.map (StrLaws.replL [126, 95] [32]) by unfold partsQ; rw [hps]]
      rw [List.map_map, List.map_map, List.map_map]; rfl
    rw [eD] at gD
    have hn : (partsQ l).length = ps.length := by unfold partsQ; rw [hps, List.length_map]
    have hs : ((partsQ l).map (·.length)).sum ≤ 2 * (ps.map (·.length)).sum + ps.length := by
      unfold partsQ
      rw [hps]
      exact rep_sum ps _ _ 0 rep_len
    have hs2 : (ps.map (·.length)).sum ≤ l.length := hlens.2
    have hs3 : ps.length ≤ l.length + 1 := hlens.1
    refine ⟨⟨_, rfl⟩, _, rfl, Str.ofString "", D, (partsQ l).map S, rfl, rfl, .inl (SqL.of gD), ?_, ?_⟩
    · rw [lens_S, List.length_map, show (Str.ofString "").length = 0 by decide +kernel]
      omega
    rw [joinS, show TL.tl (Str.ofString "") = [] by decide +kernel]
    refine ⟨126, _, by decide +kernel, rfl, _, rfl, ?_⟩
    have he : optS (lu l) = optS (unq l) := by rw [unq_lu]
    rw [he] at kQ
    unfold unq at kQ
    show if (decide (126 ∈ TL.joinL [] (partsQ l))) = true then _ else _
    by_cases hm : 126 ∈ TL.joinL [] (partsQ l)
    · rw [decide_eq_true hm]
      rw [if_pos hm] at kQ
      exact iteT (kQ H' (kL.trans k1))
    · rw [decide_eq_false hm]
      rw [if_neg hm] at kQ
      refine iteF ?_
      refine ⟨⟨_, rfl⟩, _, rfl, Str.ofString "~", D, (partsQ l).map S, rfl, rfl, .inl (SqL.of gD), ?_, ?_⟩
      · rw [lens_S, List.length_map, show (Str.ofString "~").length = 1 by decide +kernel]
        omega
      rw [joinS, show TL.tl (Str.ofString "~") = [126] by decide +kernel]
      exact kQ H' (kL.trans k1)
end
end KT
set_option Elab.async false
set_option linter.all false
set_option maxRecDepth 100000
set_option maxHeartbeats 4000000
namespace KT
open PySem PySem.Spec PyProof.Rows L2
/-! slices of lists by numbers -/
theorem cut_take (xs : List V) {i : Int} {n : Nat} (e : i = (n : Int)) : cutV xs none (some i) = xs.take n := by
  subst e
  unfold cutV
  rw [show HT.sIx xs.length 0 none = 0 from rfl, HT.sIx_nat]
  rw [List.drop_zero, Nat.sub_zero]
  by_cases h : n ≤ xs.length
  · rw [Nat.min_eq_left h]
  · rw [Nat.min_eq_right (by omega), List.take_length, List.take_of_length_le (by omega)]
theorem cut_drop (xs : List V) {i : Int} {n : Nat} (e : i = (n : Int)) : cutV xs (some i) none = xs.drop n := by
  subst e
  unfold cutV
  rw [show HT.sIx xs.length xs.length none = xs.length from rfl, HT.sIx_nat]
  by_cases h : n ≤ xs.length
  · rw [Nat.min_eq_left h, List.take_of_length_le (by rw [List.length_drop]; exact Nat.le_refl _)]
  · rw [Nat.min_eq_right (by omega), List.drop_length, List.drop_of_length_le (by omega), List.take_nil]
theorem cut_both (xs : List V) {i j : Int} {a b : Nat} (ea : i = (a : Int)) (eb : j = (b : Int)) : cutV xs (some i) (some j) = (xs.drop a).take (b - a) := by
  subst ea eb
  unfold cutV
  rw [HT.sIx_nat, HT.sIx_nat]
  by_cases h1 : a ≤ xs.length
  · rw [Nat.min_eq_left h1]
    by_cases h2 : b ≤ xs.length
    · rw [Nat.min_eq_left h2]
    · rw [Nat.min_eq_right (by omega), List.take_of_length_le (by rw [List.length_drop]; exact Nat.le_refl _), List.take_of_length_le (by rw [List.length_drop]; omega)]
  · rw [Nat.min_eq_right (by omega : xs.length ≤ a), List.drop_length, List.drop_of_length_le (by omega : xs.length ≤ a), List.take_nil, List.take_nil]
end KT
set_option Elab.async false
set_option linter.all false
set_option maxRecDepth 100000
set_option maxHeartbeats 4000000
namespace KT
open PySem PySem.Spec PyProof.Rows L2 GxR
variable [GT]
theorem numW_none {l : Ln} (h : ∀ j, j < 9 → l ≠ [49 + j]) : numW l = none := by
  unfold numW
  split
  · rename_i c
    split
    · rename_i z
      have := h (c - 49) (by omega)
      exact absurd (by rw [show 49 + (c - 49) = c by omega]) this
    · rfl
  · rfl
theorem numW_some {j : Nat} (h : j < 9) : numW [49 + j] = some (j + 1) := by
  show (if 49 ≤ 49 + j ∧ 49 + j ≤ 57 then some (49 + j - 48) else none) = _
  rw [if_pos (by omega)]
  congr 1
  omega
section
variable {P : Program} {w : World} {K : PySem.W.Frag} {mg : Str → Option Value} {base : Heap}
def sp_number_of : Sp := fun vs H Q _ => ∃ l : Ln, vs = [.str (S l)] ∧ Q (optN (numW l)) H
theorem sc_number_of : FnScope ["word", "number"] ["word"] (defScope s_number_of) := ⟨rfl, rfl, rfl, by decide +kernel, rfl, by decide +kernel, by decide +kernel⟩
theorem ok_number_of (T : Tx w K mg) : Fk P w K mg base 1 (Ad K d_number_of.at_) ["word"] sp_number_of := by
  obtain ⟨t_MOST_TIMES, h_MOST_TIMES⟩ := T.i_MOST_TIMES
  refine mkF T.f_number_of sc_number_of rfl (fun _ _ _ _ _ _ us hl => match us, hl with | [_], _ => rfl) (fun vs H Q E h => by obtain ⟨_, rfl, _⟩ := h; rfl) (fun cdv A outer s H vs Q E hcd hcode hr h => ?_)
  have po : PassesOwn (model P w) (CxD P w K mg base ["word", "number"] d_number_of cdv A outer s H E).A (CxD P w K mg base ["word", "number"] d_number_of cdv A outer s H E).env (CxD P w K mg base ["word", "number"] d_number_of cdv A outer s H E).xe := passes_of rfl
  refine ⟨_, (pss_cons (ps_for po rfl (pi_range2 (by rfl) T.n_range (pa_cons pe_int (pa_cons (pe_op op_add (pe_glob (v := .int 9) (by rfl) h_MOST_TIMES ⟨_, rfl⟩) pe_int) pa_nil))) (pg_name (i := 1) sc_number_of.nd rfl (.inl rfl)) (pss_one (ps_if (pt_cmpR op_eq (pv 0) (pe_callTy call_str_int (by rfl) T.n_str (by decide +kernel) (pa_cons (pv 1) pa_nil)) (nomark _)) (pss_one (ps_ret (pv 1))) pss_nil)))
      (pss_one (ps_ret pe_non))), ?_⟩
  obtain ⟨l, rfl, kQ⟩ := h
  refine ⟨_, _, rfl, rfl, 1, 10, rfl, ⟨by omega, by omega, by omega, by omega⟩, ?_⟩
  refine for_range (lo := 1) (n := ((10 : Int) - 1).toNat) (fun i σ H' => H' = H ∧ (∀ j, j < i → l ≠ [49 + j]) ∧ ∃ v, σ = [some (.str (S l)), v]) ⟨rfl, (fun j h => by omega), none, rfl⟩ ?_ ?_
  · rintro i σ H' hi ⟨rfl, hj, v, rfl⟩
    have hi : i < 9 := hi
    have e1 : (1 : Int) + (i : Int) = ((i + 1 : Nat) : Int) := by omega
    have e2 : ((toString ((1 : Int) + (i : Int)) : String) : Str) = S [49 + i] := by
      rw [e1, num_str ⟨i + 1, by omega⟩]
      show S [48 + (i + 1)] = _
      rw [show 48 + (i + 1) = 49 + i by omega]
    refine ⟨_, rfl, _, rfl, _, rfl, ?_, rfl, ?_⟩
    · rw [e1, Int.natAbs_natCast]
      exact Nat.lt_of_le_of_lt (Nat.log2_le_self _) (by omega)
    rw [e2]
    refine ⟨_, rfl, iteD (fun e => ?_) (fun e => ?_)⟩
    · have e : l = [49 + i] := S_inj (V.str.inj e)
      refine ⟨_, rfl, ?_⟩
      rw [e, numW_some hi] at kQ
      show Q (.int ((1 : Int) + (i : Int))) _
      rw [e1]
      exact kQ
    · refine ⟨rfl, fun j hji => ?_, _, rfl⟩
      by_cases z : j = i
      · subst z; exact fun y => e (by rw [y])
      · exact hj j (by omega)
  · rintro σ H' ⟨rfl, hj, v, rfl⟩
    rw [numW_none hj] at kQ
    exact kQ
def sp_key_of (K : PySem.W.Frag) : Sp := fun vs H Q _ => ∃ L ws, vs = [.ref L] ∧ H L = some (.lst (ws.map strW)) ∧ ws.length ≤ 3 ∧ (∀ x ∈ ws, x.length ≤ 100000) ∧ ∀ q H', Kq [] H H' → SqT K H' q (keyW ws) → Q (.ref q) H'
theorem sc_key_of : FnScope ["words"] ["words"] (defScope s_key_of) := ⟨rfl, rfl, rfl, by decide +kernel, rfl, by decide +kernel, by decide +kernel⟩
theorem ok_key_of (T : Tx w K mg) : Fk P w K mg base 2 (Ad K d_key_of.at_) ["words"] (sp_key_of K) := by
  have F_number_of := ok_number_of (P := P) (base := base) T
  have F_signs_of := ok_signs_of (P := P) (base := base) T
  refine mkF T.f_key_of sc_key_of rfl (fun _ _ _ _ _ _ us hl => match us, hl with | [_], _ => rfl) (fun vs H Q E h => by obtain ⟨_, _, rfl, _⟩ := h; rfl) (fun cdv A outer s H vs Q E hcd hcode hr h => ?_)
  refine ⟨_, (pss_cons (ps_if ((pw_and (pt_cmpR op_eq (pe_callB call_len_seq (by rfl) T.n_len (by decide +kernel) (pa_cons (pv 0) pa_nil)) pe_int (nomark _)) (pw_and1 (pt_cmpR op_in_seq (pe_ix ix_list (pv 0) pe_int (fun _ _ => rfl)) (pe_glob (v := .ref (He.ga K "WITH_SIGNS")) (by rfl) T.g_WITH_SIGNS rfl) (by rfl))))).pt (pss_one (ps_ret (pe_tup (pa_cons (pe_ix ix_list (pv 0) pe_int (fun _ _ => rfl)) (pa_cons (pe_cF F_signs_of (hr.mono (by decide)) T.g_signs_of px (pa_cons (pe_ix ix_list (pv 0) pe_int (fun _ _ => rfl)) pa_nil)) pa_nil))))) pss_nil)
      (pss_cons (ps_if (pt_cmpR op_eq (pe_callB call_len_seq (by rfl) T.n_len (by decide +kernel) (pa_cons (pv 0) pa_nil)) pe_int (nomark _)) (pss_one (ps_ret (pe_tup (pa_cons (pe_ix ix_list (pv 0) pe_int (fun _ _ => rfl)) (pa_cons (pe_ix ix_list (pv 0) pe_int (fun _ _ => rfl)) (pa_cons (pe_cF F_number_of (hr.mono (by decide)) T.g_number_of px (pa_cons (pe_ix ix_list (pv 0) pe_int (fun _ _ => rfl)) pa_nil)) pa_nil)))))) pss_nil)
      (pss_one (ps_ret (pe_callTy call_tuple_of (by rfl) T.n_tuple (by decide +kernel) (pa_cons (pv 0) pa_nil)))))), ?_⟩
  obtain ⟨L, ws, rfl, hL, h3, hw, kQ⟩ := h
  have at_ : ∀ (j : Nat) (x : Ln), ws[j]? = some x → (ws.map strW)[j]? = some (strW x) := fun j x e => by rw [List.getElem?_map, e]; rfl
  have tupl : ∀ H', Kq [] H H' → ws.map strW = keyW ws → ∃ p xs, ([V.ref L] : List V) = [V.ref p] ∧ ((SqL K H' p xs ∧ ∀ l, H' l = none → Q (.ref l) (upd H' l (.tup xs))) ∨ (SqT K H' p xs ∧ Q (.ref p) H')) := fun H' k e =>
    ⟨L, _, rfl, .inl ⟨SqL.of (k.get hL), fun l nl => kQ l _ (k.trans (Kq.alloc nl)) (by rw [← e]; exact SqT.of upd_same)⟩⟩
  match ws, hL, h3, hw, kQ, at_, tupl with
  | [], hL, _, _, kQ, _, tupl =>
    refine ⟨_, rfl, L, _, rfl, .inl (SqL.of hL), rfl, _, rfl, iteD (fun h => absurd (V.int.inj h) (by simp)) (fun _ => ?_)⟩
    refine ⟨_, rfl, L, _, rfl, .inl (SqL.of hL), rfl, _, rfl, iteD (fun h => absurd (V.int.inj h) (by simp)) (fun _ => ?_)⟩
    exact ⟨_, rfl, tupl H Kq.refl rfl⟩
  | [a], hL, _, _, kQ, _, tupl =>
    refine ⟨_, rfl, L, _, rfl, .inl (SqL.of hL), rfl, _, rfl, iteD (fun h => absurd (V.int.inj h) (by simp)) (fun _ => ?_)⟩
    refine ⟨_, rfl, L, _, rfl, .inl (SqL.of hL), rfl, _, rfl, iteD (fun h => absurd (V.int.inj h) (by simp)) (fun _ => ?_)⟩
    exact ⟨_, rfl, tupl H Kq.refl rfl⟩
  | [a, b], hL, _, hw, kQ, at_, tupl =>
    refine ⟨_, rfl, L, _, rfl, .inl (SqL.of hL), rfl, _, rfl, iteD (fun _ => ?_) (fun h => absurd rfl h)⟩
    refine ⟨_, rfl, L, _, _, strW a, rfl, rfl, SqL.of hL, at_of (j := 0) rfl rfl, _, _, rfl, .inr (T.withs H), rfl, by decide +kernel, _, rfl, ?_⟩
    have ek : keyW [a, b] = if inV (strW a) withV = true then [strW a, optS (lu b)] else [strW a, strW b] := rfl
    cases hin : inV (strW a) withV with
    | true =>
      rw [hin, if_pos rfl] at ek
      refine ite_yesO rfl ?_
      refine ⟨_, rfl, L, _, _, strW a, rfl, rfl, SqL.of hL, at_of (j := 0) rfl rfl, _, rfl, L, _, _, strW b, rfl, rfl, SqL.of hL, at_of (j := 1) rfl rfl, b, rfl, hw b (by simp), fun H1 k1 => ⟨line16 (by show 2 ≤ 1000000; decide), fun q nq => ?_⟩⟩
      exact kQ q _ (k1.trans (Kq.alloc nq)) (by rw [ek]; exact SqT.of upd_same)
    | false =>
      rw [hin, if_neg (by decide)] at ek
      refine ite_noO rfl ?_
      refine ⟨_, rfl, L, _, rfl, .inl (SqL.of hL), rfl, _, rfl, iteD (fun h => absurd (V.int.inj h) (by simp)) (fun _ => ?_)⟩
      exact ⟨_, rfl, tupl H Kq.refl ek.symm⟩
  | [a, b, c], hL, _, hw, kQ, at_, tupl =>
    refine ⟨_, rfl, L, _, rfl, .inl (SqL.of hL), rfl, _, rfl, iteD (fun h => absurd (V.int.inj h) (by simp)) (fun _ => ?_)⟩
    refine ⟨_, rfl, L, _, rfl, .inl (SqL.of hL), rfl, _, rfl, iteD (fun _ => ?_) (fun h => absurd rfl h)⟩
    refine ⟨_, rfl, L, _, _, strW a, rfl, rfl, SqL.of hL, at_of (j := 0) rfl rfl, _, rfl, L, _, _, strW b, rfl, rfl, SqL.of hL, at_of (j := 1) rfl rfl, _, rfl, L, _, _, strW c, rfl, rfl, SqL.of hL, at_of (j := 2) rfl rfl, c, rfl, line16 (by show 3 ≤ 1000000; decide), fun q nq => ?_⟩
    exact kQ q _ (Kq.alloc nq) (SqT.of upd_same)
  | _ :: _ :: _ :: _ :: _, _, h3, _, _, _, _ => simp at h3
end
end KT
set_option Elab.async false
set_option linter.all false
set_option maxRecDepth 100000
set_option maxHeartbeats 4000000
namespace KT
open PySem PySem.Spec PyProof.Rows L2 GxR
variable [GT]
theorem lu_len : ∀ (l s : Ln), lu l = some s → s.length ≤ l.length
  | [], s, h => by cases h; exact Nat.le_refl _
  | [c], s, h => by
    have h : (if c = 126 then none else some [c]) = some s := h
    split at h
    · cases h
    · cases h; exact Nat.le_refl _
  | c :: d :: r, s, h => by
    have h : (if c = 126 then (if d = 126 then (lu r).map (126 :: ·) else if d = 95 then (lu r).map (32 :: ·) else none) else (lu (d :: r)).map (c :: ·)) = some s := h
    split at h
    · split at h
      · obtain ⟨t, ht, rfl⟩ := Option.map_eq_some_iff.mp h
        have := lu_len r t ht
        simp only [List.length_cons]; omega
      · split at h
        · obtain ⟨t, ht, rfl⟩ := Option.map_eq_some_iff.mp h
          have := lu_len r t ht
          simp only [List.length_cons]; omega
        · cases h
    · obtain ⟨t, ht, rfl⟩ := Option.map_eq_some_iff.mp h
      have := lu_len (d :: r) t ht
      simp only [List.length_cons] at this ⊢; omega
theorem smallN_str {l : Ln} (h : l.length ≤ 100000) : smallN (strW l) := by
  show (S l).length ≤ 1000000
  rw [S_len]; omega
theorem smallN_keyW {ws : List Ln} (h3 : ws.length ≤ 3) (h : ∀ x ∈ ws, x.length ≤ 100000) : ∀ v ∈ keyW ws, smallN v := by
  have so : ∀ b : Ln, b.length ≤ 100000 → smallN (optS (lu b)) := fun b hb => by
    cases e : lu b with
    | none => trivial
    | some s =>
      have := lu_len b s e
      exact smallN_str (l := s) (by omega)
  have sn : ∀ o : Option Nat, smallN (optN o) := fun o => by cases o <;> trivial
  match ws, h3, h with
  | [], _, _ => intro v hv; simp [keyW] at hv
  | [a], _, h => intro v hv; simp only [keyW, List.map_cons, List.map_nil, List.mem_singleton] at hv; rw [hv]; exact smallN_str (h a (by simp))
  | [a, b], _, h =>
    intro v hv
    have hv : v ∈ (if inV (strW a) withV = true then [strW a, optS (lu b)] else [strW a, strW b]) := hv
    split at hv
    · simp only [List.mem_cons, List.not_mem_nil, or_false] at hv
      rcases hv with rfl | rfl
      · exact smallN_str (h a (by simp))
      · exact so b (h b (by simp))
    · simp only [List.mem_cons, List.not_mem_nil, or_false] at hv
      rcases hv with rfl | rfl
      · exact smallN_str (h a (by simp))
      · exact smallN_str (h b (by simp))
  | [a, b, c], _, h =>
    intro v hv
    simp only [keyW, List.mem_cons, List.not_mem_nil, or_false] at hv
    rcases hv with rfl | rfl | rfl
    · exact smallN_str (h a (by simp))
    · exact smallN_str (h b (by simp))
    · exact sn _
  | _ :: _ :: _ :: _ :: _, h3, _ => simp at h3
theorem keyW_one {ws : List Ln} (h3 : ws.length ≤ 3) {k : V} (e : keyW ws = [k]) : ∃ z : Str, k = .str z := by
  match ws, h3, e with
  | [], _, e => cases e
  | [a], _, e => cases e; exact ⟨_, rfl⟩
  | [a, b], _, e =>
    have e : (if inV (strW a) withV = true then [strW a, optS (lu b)] else [strW a, strW b]) = [k] := e
    split at e <;> cases e
  | [a, b, c], _, e => cases e
  | _ :: _ :: _ :: _ :: _, h3, _ => simp at h3
section
variable {P : Program} {w : World} {K : PySem.W.Frag} {mg : Str → Option Value} {base : Heap}
theorem Tx.tabW (T : Tx w K mg) : ∃ es n, KDict K w (He.ga K "WORDS") es n := by
  obtain ⟨_, _, _, c⟩ := T.ex
  exact c.t.tab 1
theorem Tx.many (T : Tx w K mg) (x : Ln) : ∃ r : Option Value, PySem.W.nsIn K (He.ga K "WORDS") (S x) = some r ∧ match r with | none => (V.int (manyW x : Nat)) = V.int 1 | some u => RelV (.int (manyW x : Nat)) u := by
  have h := intsAre_ok T.intsAre (S x)
  unfold manyW
  have h : (match wordsI.lookup (S x) with
    | some i => ∃ t, PySem.W.nsIn K (He.ga K "WORDS") (S x) = some (some (.int i t))
    | none => PySem.W.nsIn K (He.ga K "WORDS") (S x) = some none) := h
  cases hl : wordsI.lookup (S x) with
  | none =>
    rw [hl] at h
    exact ⟨none, h, rfl⟩
  | some i =>
    rw [hl] at h
    obtain ⟨t, h⟩ := h
    refine ⟨_, h, t, ?_⟩
    have hm := PySem.mem_of_lookup hl
    have hp : 0 ≤ i := by
      simp only [wordsI, List.mem_cons, Prod.mk.injEq, List.not_mem_nil, or_false] at hm
      rcases hm with ⟨_, rfl⟩ | ⟨_, rfl⟩ | ⟨_, rfl⟩ | ⟨_, rfl⟩ <;> decide
    show Value.int i t = .int ((i.toNat : Nat) : Int) t
    rw [Int.toNat_of_nonneg hp]
theorem TupsAt.kf {S : List Addr} {H H1 : Hp} {as : List Addr} {xss : List (List V)} (h : TupsAt K H as xss) (k : Kf S H H1) : TupsAt K H1 as xss := by
  induction h with
  | nil => exact .nil
  | cons h _ ih => exact .cons (k.tup h) ih
theorem TupsAt.snoc {H : Hp} {as : List Addr} {xss : List (List V)} {a : Addr} {xs : List V} (h : TupsAt K H as xss) (g : SqT K H a xs) : TupsAt K H (as ++ [a]) (xss ++ [xs]) := by
  induction h with
  | nil => exact .cons g .nil
  | cons h _ ih => exact .cons h ih
/-- what stands while keys are read -/
def KeysInv (K : PySem.W.Frag) (H : Hp) (ws : List Ln) (L D : Addr) (m : Nat) (σ : L2.St) (H' : Hp) : Prop := Kq [] H H' ∧ ∃ (i : Nat) (as : List Addr) (xss : List (List V)) (v3 v4 : Option V), σ = [some (.ref L), some (.ref D), some (.int (i : Nat)), v3, v4] ∧ H' D = some (.lst (as.map V.ref)) ∧ TupsAt K H' as xss ∧ xss.length ≤ i ∧ keysV ws = (keysV (ws.drop i)).map (xss ++ ·) ∧ m = ws.length - i
def sp_keys_of (K : PySem.W.Frag) : Sp := fun vs H Q _ => ∃ L ws, vs = [.ref L] ∧ H L = some (.lst (ws.map strW)) ∧ ws.length ≤ 100001 ∧ (∀ x ∈ ws, x.length ≤ 100000) ∧ TabG H (tS K) ∧ (tapeV ws = none → ∀ H', Kq [] H H' → Q .non H') ∧
  ∀ xss T as H', tapeV ws = some xss → Kq [] H H' → SqT K H' T (as.map V.ref) → TupsAt K H' as xss → Q (.ref T) H'
theorem sc_keys_of : FnScope ["words", "keys", "at", "many", "key"] ["words"] (defScope s_keys_of) := ⟨rfl, rfl, rfl, by decide +kernel, rfl, by decide +kernel, by decide +kernel⟩
theorem ok_keys_of (T : Tx w K mg) (B : TabB base mg (cS K) (tS K)) : Fk P w K mg base 4 (Ad K d_keys_of.at_) ["words"] (sp_keys_of K) := by
  obtain ⟨t_MOST_KEYS, h_MOST_KEYS⟩ := T.i_MOST_KEYS
  obtain ⟨_, _, DW⟩ := T.tabW
  have F_is_key := ok_is_keyN (P := P) (base := base) T B
  have F_key_of := ok_key_of (P := P) (base := base) T
  refine mkF T.f_keys_of sc_keys_of rfl (fun _ _ _ _ _ _ us hl => match us, hl with | [_], _ => rfl) (fun vs H Q E h => by obtain ⟨_, _, rfl, _⟩ := h; rfl) (fun cdv A outer s H vs Q E hcd hcode hr h => ?_)
  have po : PassesOwn (model P w) (CxD P w K mg base ["words", "keys", "at", "many", "key"] d_keys_of cdv A outer s H E).A (CxD P w K mg base ["words", "keys", "at", "many", "key"] d_keys_of cdv A outer s H E).env (CxD P w K mg base ["words", "keys", "at", "many", "key"] d_keys_of cdv A outer s H E).xe := passes_of rfl
  refine ⟨_, (pss_cons (ps_asg (pe_lst pa_nil) (pg_name (i := 1) sc_keys_of.nd rfl (.inl rfl)))
      (pss_cons (ps_asg pe_int (pg_name (i := 2) sc_keys_of.nd rfl (.inl rfl)))
      (pss_cons (ps_while po (pt_cmpR op_lt (pv 2) (pe_callB call_len_seq (by rfl) T.n_len (by decide +kernel) (pa_cons (pv 0) pa_nil)) (nomark _)) (pss_cons (ps_asg (pe_getK DW (pe_glob (v := .ref (He.ga K "WORDS")) (by rfl) T.g_WORDS rfl) (pe_ix ix_list (pv 0) (pv 2) (fun _ _ => rfl)) pe_int ⟨rfl, rfl, rfl, rfl⟩) (pg_name (i := 3) sc_keys_of.nd rfl (.inl rfl)))
      (pss_cons (ps_asg (pe_cF F_key_of (hr.mono (by decide)) T.g_key_of px (pa_cons (pe_slice sl_list (pv 0) (po_some (pv 2)) (po_some (pe_op op_add (pv 2) (pv 3)))) pa_nil)) (pg_name (i := 4) sc_keys_of.nd rfl (.inl rfl)))
      (pss_cons (ps_if (pt_not (pt_val (pe_cF F_is_key (hr.mono (by decide)) T.g_is_key px (pa_cons (pv 4) pa_nil)))) (pss_one (ps_ret pe_non)) pss_nil)
      (pss_cons (ps_expr (pe_bm PySem.F.plainAttrs_list PySem.F.slot_list_append PySem.F.type_list_append mt_append (pv 1) (pa_cons (pv 4) pa_nil)))
      (pss_one (ps_aug (i := 2) sc_keys_of.nd rfl (.inl rfl) (pv 3) ip_add)))))))
      (pss_cons (ps_if ((pw_or (pt_cmpR op_eq (pe_callB call_len_seq (by rfl) T.n_len (by decide +kernel) (pa_cons (pv 1) pa_nil)) pe_int (nomark _)) (pw_or1 (pt_cmpR op_gt (pe_callB call_len_seq (by rfl) T.n_len (by decide +kernel) (pa_cons (pv 1) pa_nil)) (pe_glob (v := .int 30) (by rfl) h_MOST_KEYS ⟨_, rfl⟩) (nomark _))))).pt (pss_one (ps_ret pe_non)) pss_nil)
      (pss_one (ps_ret (pe_callTy call_tuple_of (by rfl) T.n_tuple (by decide +kernel) (pa_cons (pv 1) pa_nil)))))))), ?_⟩
  obtain ⟨L, ws, rfl, hL, hlen, hx, hT, kN, kS⟩ := h
  have hsz : sizeLine = 16777216 := sizeLine_eq
  refine ⟨line16 (by show 0 ≤ 1000000; decide), fun D nD => ?_⟩
  have kD : Kq [] H (upd H D (.lst [])) := Kq.alloc nD
  refine ⟨KeysInv K H ws L D, ⟨_, kD, 0, [], [], none, none, rfl, upd_same, .nil, Nat.zero_le _, by rw [List.drop_zero]; cases keysV ws <;> rfl, rfl⟩, ?_⟩
  rintro m σ H' ⟨k1, i, as, xss, v3, v4, rfl, gD, hts, hxi, hkv, rfl⟩
  have hL1 := k1.get hL
  refine ⟨_, rfl, _, rfl, L, _, rfl, .inl (SqL.of hL1), _, _, rfl, rfl, _, rfl, ?_⟩
  rw [List.length_map]
  refine iteD (fun hlt => ?_) (fun hge => ?_)
  · have hlt : i < ws.length := by omega
    have hat : (ws.map strW)[i]? = some (strW ws[i]) := by rw [List.getElem?_map, List.getElem?_eq_getElem hlt]; rfl
    obtain ⟨r, hr1, hr2⟩ := T.many ws[i]
    obtain ⟨hm1, hm3⟩ := manyW_in ws[i]
    have ed : ws.drop i = ws[i] :: ws.drop (i + 1) := List.drop_eq_getElem_cons hlt
    refine ⟨fun σ' H2 => ∃ m', m' < ws.length - i ∧ KeysInv K H ws L D m' σ' H2, fun σ' H2 z => z, ?_⟩
    refine ⟨rfl, _, rfl, _, rfl, L, _, _, strW ws[i], rfl, rfl, SqL.of hL1, at_of rfl hat, S ws[i], r, .int (manyW ws[i] : Nat), rfl, hr1, hr2, ?_⟩
    refine ⟨_, rfl, _, rfl, _, rfl, _, rfl, _, rfl, _, _, rfl, rfl, _, rfl, L, _, rfl, SqL.of hL1, fun p np => ?_⟩
    have ec : cutV (ws.map strW) (some (i : Int)) (some ((i : Int) + (manyW ws[i] : Nat))) = ((ws.drop i).take (manyW ws[i])).map strW := by
      rw [cut_both _ (a := i) (b := i + manyW ws[i]) rfl (by omega), Nat.add_sub_cancel_left, ← List.map_drop, ← List.map_take]
    rw [ec]
    have kp : Kq [] H' (upd H' p (.lst (((ws.drop i).take (manyW ws[i])).map strW))) := Kq.alloc np
    have gp : (upd H' p (.lst (((ws.drop i).take (manyW ws[i])).map strW))) p = some (.lst (((ws.drop i).take (manyW ws[i])).map strW)) := upd_same
    generalize (upd H' p (.lst (((ws.drop i).take (manyW ws[i])).map strW))) = H2 at kp gp ⊢
    generalize eps : (ws.drop i).take (manyW ws[i]) = ps at gp
    have hp3 : ps.length ≤ 3 := by rw [← eps, List.length_take]; omega
    have hpx : ∀ x ∈ ps, x.length ≤ 100000 := fun x hx' => hx x (List.mem_of_mem_drop (List.mem_of_mem_take (by rw [eps]; exact hx')))
    refine ⟨p, ps, rfl, gp, hp3, hpx, fun q H3 k3 hq => ?_⟩
    have k13 := (k1.trans kp).trans k3
    refine ⟨_, rfl, q, _, rfl, hq, smallN_keyW hp3 hpx, k13.tab _ hT, fun k e => ?_, fun H4 k4 => ⟨_, rfl, ?_⟩⟩
    · obtain ⟨z, rfl⟩ := keyW_one hp3 e
      exact T.anyAct z
    have k14 := k13.trans k4
    have hkv' : keysV (ws.drop i) = if keyB actB (keyW ps) = true then (keysV (ws.drop (i + manyW ws[i]))).map (keyW ps :: ·) else none := by
      rw [ed, keysV_cons, ← ed, eps, List.drop_drop]
    cases hb : keyB actB (keyW ps) with
    | false =>
      rw [hb, if_neg (by decide)] at hkv'
      rw [hkv'] at hkv
      exact iteT (kN (by unfold tapeV; rw [hkv]; rfl) H4 k14)
    | true =>
      rw [hb, if_pos rfl] at hkv'
      refine iteF ?_
      have gD4 := ((kp.trans k3).trans k4).get gD
      have hts4 := hts.kq ((kp.trans k3).trans k4)
      have hq4 := k4.tup hq
      have hl := hts.len
      refine ⟨_, rfl, .inl ⟨rfl, _, SqL.of gD4⟩, _, rfl, D, _, _, rfl, rfl, gD4, by rw [List.length_map]; omega, ?_⟩
      refine ⟨_, rfl, _, rfl, _, _, rfl, rfl, ws.length - (i + manyW ws[i]), by omega, k14.writeF nD gD4, i + manyW ws[i], as ++ [q], xss ++ [keyW ps], _, _, rfl, ?_, ?_, ?_, ?_, rfl⟩
      · rw [upd_same, List.map_append]; rfl
      · have kw : Kf [D] H4 (upd H4 D (.lst (as.map V.ref ++ [.ref q]))) := Kf.one gD4
        exact (hts4.kf kw).snoc (kw.tup hq4)
      · rw [List.length_append, List.length_singleton]; omega
      · rw [hkv, hkv']
        cases keysV (ws.drop (i + manyW ws[i])) with
        | none => rfl
        | some r => simp
  · have hdrop : ws.drop i = [] := List.drop_of_length_le (by omega)
    rw [hdrop, keysV_nil] at hkv
    have hkv : keysV ws = some xss := by rw [hkv]; simp
    have hl := hts.len
    refine ⟨_, rfl, D, _, rfl, .inl (SqL.of gD), rfl, _, rfl, ?_⟩
    rw [List.length_map, hl]
    refine iteD (fun e => ?_) (fun e => ?_)
    · have e : (xss.length : Int) = 0 := V.int.inj e
      exact kN (by unfold tapeV; rw [hkv]; dsimp only; rw [if_pos (.inl (by omega))]) H' k1
    · have e : ¬ (xss.length : Int) = 0 := fun z => e (by rw [z])
      refine ⟨_, rfl, D, _, rfl, .inl (SqL.of gD), _, _, rfl, rfl, _, rfl, ?_⟩
      rw [List.length_map, hl]
      refine iteD (fun h30 => ?_) (fun h30 => ?_)
      · exact kN (by unfold tapeV; rw [hkv]; dsimp only; rw [if_pos (.inr (by omega))]) H' k1
      · refine ⟨_, rfl, D, _, rfl, .inl ⟨SqL.of gD, fun T_ nT => ?_⟩⟩
        have kT : Kq [] H' (upd H' T_ (.tup (as.map V.ref))) := Kq.alloc nT
        exact kS xss T_ as _ (by unfold tapeV; rw [hkv]; dsimp only; rw [if_neg (by omega)]) (k1.trans kT) (SqT.of upd_same) (hts.kq kT)
end
end KT
set_option Elab.async false
set_option linter.all false
set_option maxRecDepth 100000
set_option maxHeartbeats 4000000
namespace KT
open PySem PySem.Spec PyProof.Rows L2 GxR
variable [GT]
/-- a loop over enumerate of a list -/
theorem for_enumL {K : PySem.W.Frag} {a : Addr} {xs : List V} {g : TG} {tb : TS} {D : Ends} {σ : L2.St} {H : Hp} (Pv : Nat → L2.St → Hp → Prop) (h0 : Pv 0 σ H) (hq : ∀ i σ H, Pv i σ H → SqL K H a xs)
    (hs : ∀ (i : Nat) (x : V) (T : Addr) (σ : L2.St) (H : Hp), xs[i]? = some x → Pv i σ H → H T = none → g (.ref T) σ (upd H T (.tup [.int (i : Nat), x])) fun σ2 H2 => tb { D with nx := Pv (i + 1), ct := Pv (i + 1), bk := D.nx } σ2 H2) (hd : ∀ σ H, Pv xs.length σ H → D.nx σ H) :
    ∃ W : Nat → Nat → L2.St → Hp → Prop, (∃ m, W 0 m σ H) ∧ ∀ i m σ H, W i m σ H →
      ((Ite K a).stop i H ∧ D.nx σ H) ∨ ((Ite K a).go i H ∧ ∃ N : L2.St → Hp → Prop, (∀ σ' H', N σ' H' → ∃ m', m' < m ∧ W (i + 1) m' σ' H') ∧ ∀ v H', (Ite K a).yld i H v H' → g v σ H' fun σ2 H2 => tb { D with nx := N, ct := N, bk := D.nx } σ2 H2) := by
  refine ⟨fun i m σ H => m = xs.length - i ∧ i ≤ xs.length ∧ Pv i σ H, ⟨_, rfl, Nat.zero_le _, h0⟩, ?_⟩
  rintro i m σ H ⟨rfl, hi, p⟩
  have q := hq i σ H p
  by_cases hlt : i < xs.length
  · refine .inr ⟨⟨xs, _, q, List.getElem?_eq_getElem hlt⟩, Pv (i + 1), fun σ' H' p' => ⟨_, by omega, rfl, hlt, p'⟩, ?_⟩
    rintro v H' ⟨T, x, rfl, hT, rfl, f⟩
    exact hs i x T σ H (f xs q) p hT
  · have e : i = xs.length := by omega
    subst e
    exact .inl ⟨⟨xs, q, Nat.le_refl _⟩, hd σ H p⟩
theorem num_big {z : Str} (hz : z.length ≤ 100) {i : Nat} (h : i ≤ 200000) : ((i : Nat) : Int).natAbs.log2 < 1920 ∧ (z ++ toString ((i : Nat) : Int)).length ≤ sizeLine := by
  constructor
  · rw [Int.natAbs_natCast]
    by_cases e : i = 0
    · subst e; decide
    · exact (Nat.log2_lt e).mpr (Nat.lt_of_le_of_lt h (by decide +kernel))
  · have e1 : (z ++ toString ((i : Nat) : Int)).length = z.length + (TL.numL i).length := by
      rw [TL.len_tl, TL.tl_append, List.length_append, ← TL.len_tl]
      congr 1
      exact congrArg List.length (TL.tl_num i)
    have := numL_len i
    rw [e1, sizeLine_eq]
    omega
theorem RowsAt.kf {K : PySem.W.Frag} {S : List Addr} {H H1 : Hp} {ps : List Addr} {r : List (Str × List (List V))} (h : RowsAt K H ps r) (k : Kf S H H1) : RowsAt K H1 ps r := by
  induction h with
  | nil => exact .nil
  | cons h ha hx _ ih => exact .cons (k.tup h) (k.tup ha) (hx.kf k) ih
theorem RowsAt.snoc {K : PySem.W.Frag} {H : Hp} {ps : List Addr} {r : List (Str × List (List V))} {p t : Addr} {as : List Addr} {z : Str} {xss : List (List V)} (h : RowsAt K H ps r) (g1 : SqT K H p [.str z, .ref t]) (g2 : SqT K H t (as.map V.ref)) (g3 : TupsAt K H as xss) : RowsAt K H (ps ++ [p]) (r ++ [(z, xss)]) := by
  induction h with
  | nil => exact .cons g1 g2 g3 .nil
  | cons h ha hx _ ih => exact .cons h ha hx ih
def preR (done : List (Str × List (List V))) : Nat ⊕ List (Str × List (List V)) → Nat ⊕ List (Str × List (List V))
  | .inl e => .inl e
  | .inr rs => .inr (done ++ rs)
theorem preR_pre (a b : List (Str × List (List V))) (r : Nat ⊕ List (Str × List (List V))) : preR a (preR b r) = preR (a ++ b) r := by
  cases r with
  | inl e => rfl
  | inr rs => show Sum.inr _ = Sum.inr _; rw [List.append_assoc]
theorem rows_cons {u : Str} {i : Nat} {row z : Ln} {ws r : List Ln} (h : TL.spl [32] 0 [] row = z :: ws) : rowsV' u i (row :: r) = match tapeV ws with
    | none => .inl i
    | some xss => if risesB (S z) u = true then preR [(S z, xss)] (rowsV' (S z) (i + 1) r) else .inl i := by
  have e : rowsV' u i (row :: r) = (match TL.spl [32] 0 [] row with
    | [] => .inl i
    | z :: ws => match tapeV ws with
      | none => .inl i
      | some xss => if risesB (S z) u = true then (match rowsV' (S z) (i + 1) r with
        | .inl e => .inl e
        | .inr rs => .inr ((S z, xss) :: rs)) else .inl i) := rfl
  rw [e, h]
  dsimp only
  generalize rowsV' (S z) (i + 1) r = q
  cases tapeV ws with
  | none => rfl
  | some xss =>
    dsimp only
    cases q <;> rfl
section
variable {P : Program} {w : World} {K : PySem.W.Frag} {mg : Str → Option Value} {base : Heap}
def sp_read (K : PySem.W.Frag) : Sp := fun vs H Q E => ∃ l : Ln, vs = [.str (S l)] ∧ l.length ≤ 100000 ∧ TabG H (tS K) ∧
  (∀ rs L ps H', readV l = .inr rs → Kq [] H H' → H L = none → H' L = some (.lst (ps.map V.ref)) → RowsAt K H' ps rs → Q (.ref L) H') ∧
  ∀ i, readV l = .inl i → ∀ d H', Kq [] H H' → H' d = none → E (.ref (He.ga K "BadTape")) (some d) (upd H' d (.xd [("line", .int (i : Nat))]))
theorem sc_read : FnScope ["text", "tapes", "above", "line", "row", "words", "keys"] ["text"] (defScope s_read) := ⟨rfl, rfl, rfl, by decide +kernel, rfl, by decide +kernel, by decide +kernel⟩
theorem ok_read (T : Tx w K mg) (hP : SupP P fileS) (B : TabB base mg (cS K) (tS K)) : Fk P w K mg base 5 (Ad K d_read.at_) ["text"] (sp_read K) := by
  have F_keys_of := ok_keys_of (P := P) (base := base) T B
  have F_rises := ok_rises (P := P) (base := base) T
  refine mkF T.f_read sc_read rfl (fun _ _ _ _ _ _ us hl => match us, hl with | [_], _ => rfl) (fun vs H Q E h => by obtain ⟨_, rfl, _⟩ := h; rfl) (fun cdv A outer s H vs Q E hcd hcode hr h => ?_)
  have tk : Takes (CxD P w K mg base ["text", "tapes", "above", "line", "row", "words", "keys"] d_read cdv A outer s H E) (fun cls d _ H => E cls d H) := takes_of rfl rfl rfl rfl
  have po : PassesOwn (model P w) (CxD P w K mg base ["text", "tapes", "above", "line", "row", "words", "keys"] d_read cdv A outer s H E).A (CxD P w K mg base ["text", "tapes", "above", "line", "row", "words", "keys"] d_read cdv A outer s H E).env (CxD P w K mg base ["text", "tapes", "above", "line", "row", "words", "keys"] d_read cdv A outer s H E).xe := passes_of rfl
  refine ⟨_, (pss_cons (ps_asg (pe_lst pa_nil) (pg_name (i := 1) sc_read.nd rfl (.inl rfl)))
      (pss_cons (ps_if (pt_cmpR op_eq (pv 0) pe_str (nomark _)) (pss_one (ps_ret (pv 1))) pss_nil)
      (pss_cons (ps_asg pe_str (pg_name (i := 2) sc_read.nd rfl (.inl rfl)))
      (pss_cons (ps_for po rfl (pi_enum (by rfl) T.n_enumerate (pa_cons (pe_split (pv 0) pe_str) pa_nil)) (pg_tup rfl (pgs_cons (pg_name (i := 3) sc_read.nd rfl (.inl rfl)) (pgs_cons (pg_name (i := 4) sc_read.nd rfl (.inl rfl)) pgs_nil))) (pss_cons (ps_asg (pe_split (pv 4) pe_str) (pg_name (i := 5) sc_read.nd rfl (.inl rfl)))
      (pss_cons (ps_asg (pe_cF F_keys_of (hr.mono (by decide)) T.g_keys_of px (pa_cons (pe_slice sl_list (pv 5) (po_some pe_int) po_none) pa_nil)) (pg_name (i := 6) sc_read.nd rfl (.inl rfl)))
      (pss_cons (ps_if ((pw_or (pt_cmpR op_isN (pv 6) pe_non (nomark _)) (pw_or1 (pt_not (pt_val (pe_cF F_rises (hr.mono (by decide)) T.g_rises px (pa_cons (pe_ix ix_list (pv 5) pe_int (fun _ _ => rfl)) (pa_cons (pv 2) pa_nil)))))))).pt (pss_one (ps_raise rfl tk (pmk_BadTape T hP rfl (hr.mono (by decide)) (pa_cons (pv 3) pa_nil)))) pss_nil)
      (pss_cons (ps_expr (pe_bm PySem.F.plainAttrs_list PySem.F.slot_list_append PySem.F.type_list_append mt_append (pv 1) (pa_cons (pe_tup (pa_cons (pe_ix ix_list (pv 5) pe_int (fun _ _ => rfl)) (pa_cons (pv 6) pa_nil))) pa_nil)))
      (pss_one (ps_asg (pe_ix ix_list (pv 5) pe_int (fun _ _ => rfl)) (pg_name (i := 2) sc_read.nd rfl (.inl rfl)))))))))
      (pss_one (ps_ret (pv 1))))))), ?_⟩
  obtain ⟨l, rfl, hl, hT, kS, kE⟩ := h
  have hsz : sizeLine = 16777216 := sizeLine_eq
  refine ⟨line16 (by show 0 ≤ 1000000; decide), fun D nD => ?_⟩
  have kD : Kq [] H (upd H D (.lst [])) := Kq.alloc nD
  have gD : (upd H D (.lst [])) D = some (.lst []) := upd_same
  generalize (upd H D (.lst [])) = H1 at kD gD ⊢
  refine ⟨_, rfl, rfl, _, rfl, iteD (fun e => ?_) (fun e => ?_)⟩
  · have e0 : l = [] := S_inj (V.str.inj e)
    refine ⟨_, rfl, kS [] D [] H1 ?_ kD nD gD .nil⟩
    unfold readV
    rw [if_pos e0]
  · have e0 : l ≠ [] := fun z => e (by rw [z]; rfl)
    have er : readV l = rowsV' Str.empty 0 (TL.spl [10] 0 [] l) := by unfold readV; rw [if_neg e0]
    refine ⟨_, rfl, ⟨_, rfl⟩, _, Str.ofString "\n", rfl, rfl, by decide +kernel, by rw [S_len]; omega, fun L nL => ?_⟩
    rw [(lit_split (S l) l rfl).2.2]
    have hlens := spl_lens [10] l 0 []
    rw [List.length_nil, Nat.zero_add] at hlens
    generalize hrows : TL.spl [10] 0 [] l = rows at er hlens
    have hrl : ∀ x ∈ rows, x.length ≤ 100000 := fun x hx => Nat.le_trans (mem_sum hx) (Nat.le_trans hlens.2 hl)
    have kL : Kq [] H1 (upd H1 L (.lst ((rows.map S).map V.str))) := Kq.alloc nL
    have gL : (upd H1 L (.lst ((rows.map S).map V.str))) L = some (.lst ((rows.map S).map V.str)) := upd_same
    have gD1 := kL.get gD
    have k01 := kD.trans kL
    generalize (upd H1 L (.lst ((rows.map S).map V.str))) = H2 at kL gL gD1 k01 ⊢
    refine ⟨L, _, rfl, SqL.of gL, ?_⟩
    refine for_enumL (K := K) (a := L) (xs := (rows.map S).map V.str) (fun i σ H' => Kq [] H H' ∧ H' L = some (.lst ((rows.map S).map V.str)) ∧ ∃ (u : Str) (done : List (Str × List (List V))) (ps : List Addr) (v3 v4 v5 v6 : Option V), σ = [some (.str (S l)), some (.ref D), some (.str u), v3, v4, v5, v6] ∧ H' D = some (.lst (ps.map V.ref)) ∧ RowsAt K H' ps done ∧ done.length = i ∧ readV l = preR done (rowsV' u i (rows.drop i)))
      ⟨k01, gL, Str.ofString "", [], [], none, none, none, none, rfl, gD1, .nil, rfl, ?_⟩ (fun i σ H' z => SqL.of z.2.1) ?_ ?_
    · rw [er, List.drop_zero, empty_str]
      cases rowsV' Str.empty 0 rows <;> rfl
    · rintro i x Tq σ H' hx ⟨k1, gL1, u, done, ps, v3, v4, v5, v6, rfl, gD2, hR, hdl, hrv⟩ nT
      rw [List.map_map, List.getElem?_map] at hx
      obtain ⟨row, hrow, ex⟩ := Option.map_eq_some_iff.mp hx
      have ex : x = .str (S row) := ex.symm
      subst ex
      have hi : i < rows.length := (List.getElem?_eq_some_iff.mp hrow).1
      have hrowm := hrl row (List.mem_of_getElem? hrow)
      have ed : rows.drop i = row :: rows.drop (i + 1) := by
        rw [List.drop_eq_getElem_cons hi]
        rw [List.getElem?_eq_getElem hi] at hrow
        rw [Option.some.inj hrow]
      rw [ed] at hrv
      have kT : Kq [] H' (upd H' Tq (.tup [.int (i : Nat), .str (S row)])) := Kq.alloc nT
      have gT : SqT K (upd H' Tq (.tup [.int (i : Nat), .str (S row)])) Tq [.int (i : Nat), .str (S row)] := SqT.of upd_same
      refine ⟨Tq, _, rfl, gT, rfl, _, _, rfl, _, _, rfl, rfl, ?_⟩
      generalize (upd H' Tq (.tup [.int (i : Nat), .str (S row)])) = H3 at kT ⊢
      refine ⟨_, rfl, ⟨_, rfl⟩, _, Str.ofString " ", rfl, rfl, by decide +kernel, by rw [S_len]; omega, fun W nW => ?_⟩
      rw [(lit_split (S row) row rfl).2.1]
      obtain ⟨z, ws, hzw⟩ : ∃ z ws, TL.spl [32] 0 [] row = z :: ws := by
        cases hh : TL.spl [32] 0 [] row with
        | nil => exact absurd hh (spl_ne _ _ _ _)
        | cons z ws => exact ⟨z, ws, rfl⟩
      have hwlen := (spl_lens [32] row 0 []).1
      have hwm : ∀ x ∈ TL.spl [32] 0 [] row, x.length ≤ 100000 := fun x hx' => Nat.le_trans (spl_mem hx') hrowm
      rw [hzw] at hwlen hwm ⊢
      have kW : Kq [] H3 (upd H3 W (.lst (((z :: ws).map S).map V.str))) := Kq.alloc nW
      have gW : (upd H3 W (.lst (((z :: ws).map S).map V.str))) W = some (.lst (((z :: ws).map S).map V.str)) := upd_same
      have k13 := k1.trans (kT.trans kW)
      have kH := kT.trans kW
      generalize (upd H3 W (.lst (((z :: ws).map S).map V.str))) = H4 at kW gW k13 kH ⊢
      refine ⟨_, rfl, _, rfl, W, _, rfl, SqL.of gW, fun p np => ?_⟩
      have ec : cutV (((z :: ws).map S).map V.str) (some 1) none = ws.map strW := by
        refine (cut_drop _ (i := 1) (n := 1) rfl).trans ?_
        rw [List.map_map]
        rfl
      rw [ec]
      have kp : Kq [] H4 (upd H4 p (.lst (ws.map strW))) := Kq.alloc np
      have gp : (upd H4 p (.lst (ws.map strW))) p = some (.lst (ws.map strW)) := upd_same
      have k14 := k13.trans kp
      have kH5 := kH.trans kp
      have gW5 := kp.get gW
      generalize (upd H4 p (.lst (ws.map strW))) = H5 at kp gp k14 kH5 gW5 ⊢
      rw [rows_cons hzw] at hrv
      have bad : ∀ H6, Kq [] H H6 → readV l = .inl i → ∀ d, H6 d = none → E (.ref (He.ga K "BadTape")) (some d) (upd H6 d (.xd [("line", .int (i : Nat))])) := fun H6 k6 e d nd => kE i e d H6 k6 nd
      have small := num_big (z := "no tape in row ") (by decide +kernel) (i := i) (by omega)
      refine ⟨p, ws, rfl, gp, by simp only [List.length_cons] at hwlen; omega, fun x hx' => hwm x (List.mem_cons_of_mem _ hx'), k14.tab _ hT, fun hn H6 k6 => ?_, fun xss T_ as H6 hsome k6 hT6 hts6 => ?_⟩
      · rw [hn] at hrv
        have k16 := k14.trans k6
        refine ⟨_, rfl, rfl, _, rfl, iteT ?_⟩
        exact ⟨_, rfl, mk_sup rfl small.1 small.2 fun d nd => bad H6 k16 hrv d nd⟩
      · rw [hsome] at hrv
        dsimp only at hrv
        have k16 := k14.trans k6
        have gW6 := k6.get gW5
        refine ⟨_, rfl, rfl, _, rfl, iteF ?_⟩
        refine ⟨_, rfl, W, _, _, strW z, rfl, rfl, SqL.of gW6, at_of (j := 0) rfl rfl, _, rfl, S z, u, rfl, _, rfl, ?_⟩
        cases hr : risesB (S z) u with
        | false =>
          rw [hr, if_neg (by decide)] at hrv
          exact iteT ⟨_, rfl, mk_sup rfl small.1 small.2 fun d nd => bad H6 k16 hrv d nd⟩
        | true =>
          rw [hr, if_pos rfl] at hrv
          refine iteF ?_
          have gD6 := (kH5.trans k6).get gD2
          have hR6 := hR.kq (kH5.trans k6)
          have gL6 := (kH5.trans k6).get gL1
          refine ⟨_, rfl, .inl ⟨rfl, _, SqL.of gD6⟩, _, rfl, W, _, _, strW z, rfl, rfl, SqL.of gW6, at_of (j := 0) rfl rfl, _, rfl, line16 (by show 2 ≤ 1000000; decide), fun q nq => ?_⟩
          have kq : Kq [] H6 (upd H6 q (.tup [strW z, .ref T_])) := Kq.alloc nq
          have gq : SqT K (upd H6 q (.tup [strW z, .ref T_])) q [strW z, .ref T_] := SqT.of upd_same
          have gD7 := kq.get gD6
          have gW7 := kq.get gW6
          have gL7 := kq.get gL6
          have k17 := k16.trans kq
          have hR7 := (hR6.kq kq).snoc gq (kq.tup hT6) (hts6.kq kq)
          generalize (upd H6 q (.tup [strW z, .ref T_])) = H7 at kq gq gD7 gW7 gL7 k17 hR7 ⊢
          have hpl := hR.len
          refine ⟨D, _, _, rfl, rfl, gD7, by rw [List.length_map]; omega, ?_⟩
          have kw : Kf [D] H7 (upd H7 D (.lst (ps.map V.ref ++ [.ref q]))) := Kf.one gD7
          have neD : ∀ {b : Addr}, H b = none → H1 b ≠ none → b ≠ D → b ∉ [D] := fun _ _ h => by simpa using h
          have nLD : L ≠ D := fun e => by rw [e, gD] at nL; cases nL
          have nWD : W ≠ D := fun e => by
            have := gD7
            rw [← e, gW7] at this
            injection this with this
            injection this with this
            cases ps with
            | nil => cases this
            | cons a r => cases this
          refine ⟨_, rfl, W, _, _, strW z, rfl, rfl, SqL.of (kw.q.gets gW7 (by simp [nWD])), at_of (j := 0) rfl rfl, ?_⟩
          refine ⟨k17.writeF nD gD7, kw.q.gets gL7 (by simp [nLD]), S z, done ++ [(S z, xss)], ps ++ [q], _, _, _, _, rfl, ?_, hR7.kf kw, ?_, ?_⟩
          · rw [upd_same, List.map_append]; rfl
          · rw [List.length_append, hdl]; rfl
          · rw [hrv, preR_pre]
    · rintro σ H' ⟨k1, gL1, u, done, ps, v3, v4, v5, v6, rfl, gD2, hR, hdl, hrv⟩
      refine ⟨_, rfl, kS done D ps H' ?_ k1 nD gD2 hR⟩
      have : rows.drop ((rows.map S).map V.str).length = [] := List.drop_of_length_le (by rw [List.length_map, List.length_map]; exact Nat.le_refl _)
      rw [hrv, this]
      show Sum.inr (done ++ []) = _
      rw [List.append_nil]
end
end KT
set_option Elab.async false
set_option linter.all false
set_option maxRecDepth 100000
set_option maxHeartbeats 4000000
namespace KT
open PySem PySem.Spec PyProof.Rows L2 StrLaws
variable [GT]
/-! ### what is written is read to the same -/
def wordsL (ky : Ky) : List Ln := (wordsS ky).map TL.tl
theorem strW_tl (z : Str) : strW (TL.tl z) = .str z := by show V.str (S (TL.tl z)) = _; rw [S_tl]
theorem keyB_act {ky : Ky} (h : ky.Ok) : keyB actB (keyV ky) = true := by
  have g := keyB_ok h
  cases ky with
  | put s => exact g
  | find s => exact g
  | play n m => exact g
  | till n => exact g
  | _ => decide +kernel
theorem many_lits : manyW (TL.tl "put") = 2 ∧ manyW (TL.tl "find") = 2 ∧ manyW (TL.tl "play") = 3 ∧ manyW (TL.tl "till") = 2 ∧ ∀ z ∈ actWords, manyW (TL.tl z) = 1 := by decide +kernel
theorem inV_lits : inV (strW (TL.tl "put")) withV = true ∧ inV (strW (TL.tl "find")) withV = true ∧ inV (strW (TL.tl "till")) withV = false := by decide +kernel
theorem wordsL_key {ky : Ky} (h : ky.Ok) (r : List Ln) : ∃ w ws, wordsL ky ++ r = w :: ws ∧ keyW ((w :: ws).take (manyW w)) = keyV ky ∧ (w :: ws).drop (manyW w) = r := by
  obtain ⟨m1, m2, m3, m4, m5⟩ := many_lits
  obtain ⟨i1, i2, i3⟩ := inV_lits
  have one : ∀ z : Str, z ∈ actWords → ∃ w ws, [TL.tl z] ++ r = w :: ws ∧ keyW ((w :: ws).take (manyW w)) = [.str z] ∧ (w :: ws).drop (manyW w) = r := fun z hz => by
    refine ⟨TL.tl z, r, rfl, ?_, ?_⟩
    · rw [m5 z hz]
      show [strW (TL.tl z)] = _
      rw [strW_tl]
    · rw [m5 z hz]; rfl
  cases ky with
  | put s =>
    refine ⟨TL.tl "put", quote s :: r, rfl, ?_, by rw [m1]; rfl⟩
    rw [m1]
    show (if inV (strW (TL.tl "put")) withV = true then [strW (TL.tl "put"), optS (lu (quote s))] else [strW (TL.tl "put"), strW (quote s)]) = _
    rw [if_pos i1, lu_quote, strW_tl]; rfl
  | find s =>
    refine ⟨TL.tl "find", quote s :: r, rfl, ?_, by rw [m2]; rfl⟩
    rw [m2]
    show (if inV (strW (TL.tl "find")) withV = true then [strW (TL.tl "find"), optS (lu (quote s))] else [strW (TL.tl "find"), strW (quote s)]) = _
    rw [if_pos i2, lu_quote, strW_tl]; rfl
  | play n m =>
    obtain ⟨h1, h2, h3⟩ : n < 8 ∧ 1 ≤ m ∧ m ≤ 9 := h
    have em : TL.tl ((toString ((m : Nat) : Int) : String) : Str) = [49 + (m - 1)] := by
      rw [num_str ⟨m, by omega⟩]
      show [48 + m] = _
      rw [show 48 + m = 49 + (m - 1) by omega]
    refine ⟨TL.tl "play", TL.tl (nameS n) :: TL.tl ((toString ((m : Nat) : Int) : String) : Str) :: r, rfl, ?_, by rw [m3]; rfl⟩
    rw [m3]
    show [strW (TL.tl "play"), strW (TL.tl (nameS n)), optN (numW (TL.tl ((toString ((m : Nat) : Int) : String) : Str)))] = _
    rw [em, numW_some (by omega), strW_tl, strW_tl, show m - 1 + 1 = m by omega]; rfl
  | till n =>
    refine ⟨TL.tl "till", TL.tl (nameS n) :: r, rfl, ?_, by rw [m4]; rfl⟩
    rw [m4]
    show (if inV (strW (TL.tl "till")) withV = true then [strW (TL.tl "till"), optS (lu (TL.tl (nameS n)))] else [strW (TL.tl "till"), strW (TL.tl (nameS n))]) = _
    rw [if_neg (by rw [i3]; decide), strW_tl, strW_tl]; rfl
  | brk => exact one "break" (by decide +kernel)
  | rub => exact one "rub" (by decide +kernel)
  | left => exact one "left" (by decide +kernel)
  | right => exact one "right" (by decide +kernel)
  | up => exact one "up" (by decide +kernel)
  | down => exact one "down" (by decide +kernel)
  | home => exact one "home" (by decide +kernel)
  | end_ => exact one "end" (by decide +kernel)
  | take => exact one "take" (by decide +kernel)
  | lay => exact one "lay" (by decide +kernel)
theorem keysV_words : ∀ {ks : List Ky}, (∀ k ∈ ks, k.Ok) → keysV (ks.flatMap wordsL) = some (ks.map keyV)
  | [], _ => keysV_nil
  | k :: ks, h => by
    have ih := keysV_words (ks := ks) fun x hx => h x (by simp [hx])
    obtain ⟨w, ws, e, e1, e2⟩ := wordsL_key (h k (by simp)) (ks.flatMap wordsL)
    rw [List.flatMap_cons, e, keysV_cons, e1, e2, keyB_act (h k (by simp)), if_pos rfl, ih]
    rfl
theorem tapeV_words {ks : List Ky} (h : ∀ k ∈ ks, k.Ok) (h30 : ks.length ≤ 30) (ne : ks ≠ []) : tapeV (ks.flatMap wordsL) = some (ks.map keyV) := by
  unfold tapeV
  rw [keysV_words h]
  dsimp only
  rw [if_neg]
  rw [List.length_map]
  have : 0 < ks.length := List.length_pos_iff.mpr ne
  omega
/-- no blank, no line end -/
def bareW (l : Ln) : Prop := 32 ∉ l ∧ 10 ∉ l
theorem quote_bare {s : Ln} (h : ∀ c ∈ s, okSign c) : bareW (quote s) := ⟨(quote_no s).1, (quote_no s).2 fun h10 => by have := (h 10 h10).1; omega⟩
theorem lits_bare : ∀ z ∈ (["put", "find", "play", "till"] : List Str) ++ actWords, bareW (TL.tl z) := by unfold bareW; decide +kernel
theorem name_bare {n : Nat} (h : n < 8) : bareW (TL.tl (nameS n)) := by
  show 32 ∉ [97 + n] ∧ 10 ∉ [97 + n]
  constructor <;> (intro z; rw [List.mem_singleton] at z; omega)
theorem wordsL_bare {ky : Ky} (h : ky.Ok) : ∀ w ∈ wordsL ky, bareW w := by
  have lit : ∀ z, z ∈ (["put", "find", "play", "till"] : List Str) ++ actWords → bareW (TL.tl z) := lits_bare
  have one : ∀ z : Str, z ∈ actWords → ∀ w ∈ [TL.tl z], bareW w := fun z hz w hw => by
    rw [List.mem_singleton.mp hw]; exact lit z (List.mem_append_right _ hz)
  intro w hw
  cases ky with
  | put s =>
    rcases List.mem_cons.mp (show w ∈ [TL.tl "put", quote s] from hw) with rfl | z
    · exact lit _ (by decide +kernel)
    · rw [List.mem_singleton.mp z]; exact quote_bare h.2
  | find s =>
    rcases List.mem_cons.mp (show w ∈ [TL.tl "find", quote s] from hw) with rfl | z
    · exact lit _ (by decide +kernel)
    · rw [List.mem_singleton.mp z]; exact quote_bare h.2.2
  | play n m =>
    obtain ⟨h1, h2, h3⟩ : n < 8 ∧ 1 ≤ m ∧ m ≤ 9 := h
    rcases List.mem_cons.mp (show w ∈ [TL.tl "play", TL.tl (nameS n), TL.tl ((toString ((m : Nat) : Int) : String) : Str)] from hw) with rfl | z
    · exact lit _ (by decide +kernel)
    · rcases List.mem_cons.mp z with rfl | z
      · exact name_bare h1
      · rw [List.mem_singleton.mp z, num_str ⟨m, by omega⟩]
        show 32 ∉ [48 + m] ∧ 10 ∉ [48 + m]
        constructor <;> (intro z; rw [List.mem_singleton] at z; omega)
  | till n =>
    rcases List.mem_cons.mp (show w ∈ [TL.tl "till", TL.tl (nameS n)] from hw) with rfl | z
    · exact lit _ (by decide +kernel)
    · rw [List.mem_singleton.mp z]; exact name_bare h
  | brk => exact one "break" (by decide +kernel) w hw
  | rub => exact one "rub" (by decide +kernel) w hw
  | left => exact one "left" (by decide +kernel) w hw
  | right => exact one "right" (by decide +kernel) w hw
  | up => exact one "up" (by decide +kernel) w hw
  | down => exact one "down" (by decide +kernel) w hw
  | home => exact one "home" (by decide +kernel) w hw
  | end_ => exact one "end" (by decide +kernel) w hw
  | take => exact one "take" (by decide +kernel) w hw
  | lay => exact one "lay" (by decide +kernel) w hw
def rowL (n : Nat) (ks : List Ky) : List Ln := [97 + n] :: ks.flatMap wordsL
theorem rowW_tl (n : Nat) (ks : List Ky) : (rowW n ks).map TL.tl = rowL n ks := by
  unfold rowW rowL
  rw [List.map_cons, List.map_flatMap]
  rfl
theorem rowS_tl (n : Nat) (ks : List Ky) : TL.tl (rowS n ks) = TL.joinL [32] (rowL n ks) := by
  unfold rowS
  rw [TL.join_eq, TL.tl_join, rowW_tl]
  congr 1
theorem rowL_bare {n : Nat} {ks : List Ky} (hn : n < 8) (h : ∀ k ∈ ks, k.Ok) : ∀ w ∈ rowL n ks, bareW w := by
  intro w hw
  rcases List.mem_cons.mp hw with rfl | z
  · exact name_bare hn
  · obtain ⟨k, hk, hw⟩ := List.mem_flatMap.mp z
    exact wordsL_bare (h k hk) w hw
theorem join_no {s c : Nat} (hs : s ≠ c) : ∀ {ps : List Ln}, (∀ p ∈ ps, c ∉ p) → c ∉ TL.joinL [s] ps
  | [], _ => by simp [TL.joinL]
  | [p], h => h p (by simp)
  | p :: q :: r, h => by
    have ih := join_no hs (ps := q :: r) fun x hx => h x (by simp [hx])
    show c ∉ p ++ ([s] ++ TL.joinL [s] (q :: r))
    simp only [List.mem_append, List.mem_singleton, not_or]
    exact ⟨h p (by simp), fun e => hs e.symm, ih⟩
theorem row_split {n : Nat} {ks : List Ky} (hn : n < 8) (h : ∀ k ∈ ks, k.Ok) : TL.spl [32] 0 [] (TL.joinL [32] (rowL n ks)) = rowL n ks :=
  TL.spl_join (by unfold rowL; simp) fun p hp => (rowL_bare hn h p hp).1
theorem S_name (n : Nat) : S [97 + n] = nameS n := rfl
theorem rows_read : ∀ (d : Tps) (u : Str) (i : Nat), (∀ p ∈ d, p.1 < 8 ∧ p.2.length ≤ 30 ∧ ∀ k ∈ p.2, k.Ok) → (∀ p ∈ d, p.2 ≠ []) → riseAll u ((rowsT d).map (·.1)) = true → rowsV' u i (d.map fun p => TL.joinL [32] (rowL p.1 p.2)) = .inr (rowsT d)
  | [], _, _, _, _, _ => rfl
  | (n, ks) :: d, u, i, ok, ne, hr => by
    obtain ⟨o1, o2, o3⟩ := ok (n, ks) (by simp)
    have hr : (risesB (nameS n) u && riseAll (nameS n) ((rowsT d).map (·.1))) = true := hr
    simp only [Bool.and_eq_true] at hr
    have ih := rows_read d (nameS n) (i + 1) (fun p hp => ok p (by simp [hp])) (fun p hp => ne p (by simp [hp])) hr.2
    rw [List.map_cons, rows_cons (z := [97 + n]) (ws := ks.flatMap wordsL) (row_split o1 o3), tapeV_words o3 o2 (ne (n, ks) (by simp))]
    dsimp only
    rw [S_name, hr.1, if_pos rfl, ih]
    rfl
theorem text_tl (d : Tps) : TL.tl (textT d) = TL.joinL [10] (d.map fun p => TL.joinL [32] (rowL p.1 p.2)) := by
  unfold textT
  rw [TL.join_eq, TL.tl_join, List.map_map]
  have : (TL.tl ∘ fun (p : Nat × List Ky) => rowS p.1 p.2) = fun p => TL.joinL [32] (rowL p.1 p.2) := funext fun p => rowS_tl p.1 p.2
  rw [this]
  rw [show TL.tl nS = [10] by decide +kernel]
theorem read_text {d : Tps} (ok : TpsOk d) (ne : ∀ p ∈ d, p.2 ≠ []) (hr : riseAll Str.empty ((rowsT d).map (·.1)) = true) : readV (TL.tl (textT d)) = .inr (rowsT d) := by
  unfold readV
  rw [text_tl]
  cases d with
  | nil => rfl
  | cons p d =>
    have hne : TL.joinL [10] ((p :: d).map fun p => TL.joinL [32] (rowL p.1 p.2)) ≠ [] := by
      have h0 : ∀ ps : List Ln, TL.joinL [10] (((97 + p.1) :: (TL.joinL [32] (rowL p.1 p.2)).tail) :: ps) ≠ [] := fun ps => by rw [joinL_head]; simp
      have h1 : TL.joinL [32] (rowL p.1 p.2) = (97 + p.1) :: (TL.joinL [32] (rowL p.1 p.2)).tail := by
        unfold rowL
        rw [show [97 + p.1] = (97 + p.1) :: [] from rfl, joinL_head]
        rfl
      rw [List.map_cons, h1]
      exact h0 _
    rw [if_neg hne, TL.spl_join (by simp) fun q hq => ?_]
    · exact rows_read (p :: d) Str.empty 0 ok.2 ne hr
    · obtain ⟨x, hx, rfl⟩ := List.mem_map.mp hq
      obtain ⟨o1, o2, o3⟩ := ok.2 x hx
      exact join_no (by decide) fun w hw => (rowL_bare o1 o3 w hw).2
theorem chk_ok : ∀ {d : Tps}, (∀ p ∈ d, p.2.length ≤ 30 ∧ ∀ k ∈ p.2, k.Ok) → (∀ p ∈ d, p.2 ≠ []) → chkT ((rowsT d).map (·.2)) = .ok
  | [], _, _ => rfl
  | (n, ks) :: d, ok, ne => by
    have ih := chk_ok (d := d) (fun p hp => ok p (by simp [hp])) (fun p hp => ne p (by simp [hp]))
    obtain ⟨o2, o3⟩ : ks.length ≤ 30 ∧ ∀ k ∈ ks, k.Ok := ok (n, ks) (by simp)
    show (match firstBad 30 (keyB actB) 0 (ks.map keyV) with
      | some i => Chk.keys i
      | none => if ks.map keyV = [] then .names else chkT ((rowsT d).map fun (q : Str × List (List V)) => q.2)) = .ok
    rw [firstBad_of 0 _ fun j hj => ?_]
    · dsimp only
      rw [if_neg (fun z => ne (n, ks) (by simp) (List.map_eq_nil_iff.mp z)), ih]
    · have hj' : j < ks.length := by rw [List.length_map] at hj; exact hj
      rw [List.getElem_map]
      exact ⟨by omega, keyB_act (o3 _ (List.getElem_mem hj'))⟩
theorem rises_name {n : Nat} (h : n < 8) {u : Str} (hu : u = Str.empty ∨ ∃ m, m < n ∧ u = nameS m) : risesB (nameS n) u = true := by
  unfold risesB
  have h1 : inV (.str (nameS n)) namesV = true := nameB_ok h
  rw [h1, Bool.true_and]
  rcases hu with rfl | ⟨m, hm, rfl⟩
  · refine decide_eq_true ?_
    show ([] : List Nat) < [97 + n]
    exact List.nil_lt_cons ..
  · refine decide_eq_true ?_
    show [97 + m] < [97 + n]
    exact (one_lt _ _).mpr (by omega)
theorem rise_of : ∀ {d : Tps} {u : Str}, (∀ p ∈ d, p.1 < 8) → d.Pairwise (fun a b => a.1 < b.1) → (∀ p ∈ d, u = Str.empty ∨ ∃ m, m < p.1 ∧ u = nameS m) → riseAll u ((rowsT d).map (·.1)) = true
  | [], _, _, _, _ => rfl
  | (n, ks) :: d, u, h8, hp, hu => by
    rw [List.pairwise_cons] at hp
    have ih := rise_of (d := d) (u := nameS n) (fun p hq => h8 p (by simp [hq])) hp.2 fun p hq => .inr ⟨n, hp.1 p hq, rfl⟩
    show (risesB (nameS n) u && riseAll (nameS n) ((rowsT d).map (·.1))) = true
    rw [ih, rises_name (h8 (n, ks) (by simp)) (hu (n, ks) (by simp))]
    rfl
end KT
set_option Elab.async false
set_option linter.all false
set_option maxRecDepth 100000
set_option maxHeartbeats 4000000
namespace KT
open PySem PySem.Spec PyProof.Rows L2 GxR
variable [GT]
theorem str_dec (a b : Ln) : decide (V.str (S a) = V.str (S b)) = decide (a = b) := by
  by_cases e : a = b
  · rw [e]; simp
  · rw [decide_eq_false e, decide_eq_false]
    intro z
    exact e (S_inj (V.str.inj z))
theorem eqV_S (a b : Ln) : eqV (.str (S a)) (.str (S b)) = decide (a = b) := by
  show (S a == S b) = _
  by_cases e : a = b
  · rw [e, decide_eq_true rfl]; exact beq_self_eq_true _
  · rw [decide_eq_false e]
    exact beq_eq_false_iff_ne.mpr fun z => e (S_inj z)
def unqD : List (Key × V) := [(.inr (S [126, 126]), .str (S [126])), (.inr (S [126, 95]), .str (S [32]))]
theorem unqD_merge : mergeK [] unqD = unqD := by kernel_rfl
theorem unqD_1 : valV unqD (.inr (S [126, 126])) = some (.str (S [126])) := by kernel_rfl
theorem unqD_2 : valV unqD (.inr (S [126, 95])) = some (.str (S [32])) := by kernel_rfl
theorem lit_sp : Str.ofString " " = S [32] := by decide +kernel
theorem lit_tt : Str.ofString "~" = S [126] := by decide +kernel
theorem lit_ttt : Str.ofString "~~" = S [126, 126] := by decide +kernel
theorem lit_tu : Str.ofString "~_" = S [126, 95] := by decide +kernel
theorem lit_e : Str.ofString "" = S [] := by decide +kernel
theorem lu_hit (r : Ln) : lu (126 :: 126 :: r) = (lu r).map (126 :: ·) := by rw [lu]; rfl
theorem lu_sp (r : Ln) : lu (126 :: 95 :: r) = (lu r).map (32 :: ·) := by rw [lu]; rfl
theorem lu_no {d : Nat} (r : Ln) (h1 : d ≠ 126) (h2 : d ≠ 95) : lu (126 :: d :: r) = none := by
  rw [lu, if_pos rfl, if_neg h1, if_neg h2]
theorem lu_plain {c : Nat} (r : Ln) (h : c ≠ 126) : lu (c :: r) = (lu r).map (c :: ·) := by
  cases r with
  | nil =>
    show (if c = 126 then none else some [c]) = _
    rw [if_neg h]
    rfl
  | cons d r => rw [lu, if_neg h]
section
variable {P : Program} {w : World} {K : PySem.W.Frag} {mg : Str → Option Value} {base : Heap}
def sp_unq (K : PySem.W.Frag) : Sp := fun vs H Q _ => ∃ l : Ln, vs = [.str (S l)] ∧ l.length ≤ 100000 ∧ ∀ H', Kq [] H H' → Q (optS (lu l)) H'
theorem sc__law_unquoted : FnScope ["_law_word", "_law_found", "_law_left"] ["_law_word"] (defScope s__law_unquoted) := ⟨rfl, rfl, rfl, by decide +kernel, rfl, by decide +kernel, by decide +kernel⟩
theorem ok__law_unquoted (T : Tx w K mg) : Fk P w K mg base 1 (Ad K d__law_unquoted.at_) ["_law_word"] (sp_unq K) := by
  refine mkF T.f__law_unquoted sc__law_unquoted rfl (fun _ _ _ _ _ _ us hl => match us, hl with | [_], _ => rfl) (fun vs H Q E h => by obtain ⟨_, rfl, _⟩ := h; rfl) (fun cdv A outer s H vs Q E hcd hcode hr h => ?_)
  have po : PassesOwn (model P w) (CxD P w K mg base ["_law_word", "_law_found", "_law_left"] d__law_unquoted cdv A outer s H E).A (CxD P w K mg base ["_law_word", "_law_found", "_law_left"] d__law_unquoted cdv A outer s H E).env (CxD P w K mg base ["_law_word", "_law_found", "_law_left"] d__law_unquoted cdv A outer s H E).xe := passes_of rfl
  refine ⟨_, (pss_cons (ps_asg pe_str (pg_name (i := 1) sc__law_unquoted.nd rfl (.inl rfl)))
      (pss_cons (ps_asg (pv 0) (pg_name (i := 2) sc__law_unquoted.nd rfl (.inl rfl)))
      (pss_cons (ps_while po (pt_cmpR op_ne (pv 2) pe_str (nomark _)) (pss_one (ps_if (pt_cmpR op_eq (pe_ix ix_str (pv 2) pe_int (fun _ _ => rfl)) pe_str (nomark _)) (pss_cons (ps_if (pt_cmpR op_notIn_seq (pe_slice sl_str (pv 2) po_none (po_some pe_int)) (pe_tup (pa_cons pe_str (pa_cons pe_str pa_nil))) (by rfl)) (pss_one (ps_ret pe_non)) pss_nil)
      (pss_cons (ps_asg (pe_op op_add_str (pv 1) (pe_dget (hu_of hr) (pe_disp (pps_cons pe_str pe_str (pps_cons pe_str pe_str pps_nil)) (by rfl) (by rfl) (fun z => by cases z) (by decide)) (pe_slice sl_str (pv 2) po_none (po_some pe_int)) (fun _ _ => rfl))) (pg_name (i := 1) sc__law_unquoted.nd rfl (.inl rfl)))
      (pss_one (ps_asg (pe_slice sl_str (pv 2) (po_some pe_int) po_none) (pg_name (i := 2) sc__law_unquoted.nd rfl (.inl rfl)))))) (pss_one (ps_par (i := 1) (j := 2) (by rfl) sc__law_unquoted.nd rfl rfl (by decide) rfl rfl (pa_cons (pe_op op_add_str (pv 1) (pe_ix ix_str (pv 2) pe_int (fun _ _ => rfl))) (pa_cons (pe_slice sl_str (pv 2) (po_some pe_int) po_none) pa_nil)) (by rfl))))))
      (pss_one (ps_ret (pv 1)))))), ?_⟩
  obtain ⟨l, rfl, hl, kQ⟩ := h
  have hsz : sizeLine = 16777216 := sizeLine_eq
  refine ⟨_, rfl, ?_⟩
  refine ⟨fun m σ H' => ∃ f r : Ln, m = r.length ∧ σ = [some (.str (S l)), some (.str (S f)), some (.str (S r))] ∧ Kq [] H H' ∧ f.length + r.length ≤ l.length ∧ lu l = (lu r).map (f ++ ·), ⟨l.length, [], l, rfl, by rw [lit_e]; rfl, Kq.refl, by simp, by cases lu l <;> rfl⟩, ?_⟩
  rintro m σ H' ⟨f, r, rfl, rfl, k1, hlen, hlu⟩
  refine ⟨_, rfl, rfl, _, rfl, ?_⟩
  rw [lit_e, str_dec]
  cases r with
  | nil =>
    refine iteF ?_
    refine ⟨_, rfl, ?_⟩
    have e : lu l = some f := by
      rw [hlu]
      show some (f ++ []) = some f
      rw [List.append_nil]
    rw [e] at kQ
    exact kQ H' k1
  | cons c r =>
    refine iteT ?_
    refine ⟨fun σ' H'' => ∃ f' r' : Ln, r'.length < (c :: r).length ∧ σ' = [some (.str (S l)), some (.str (S f')), some (.str (S r'))] ∧ Kq [] H H'' ∧ f'.length + r'.length ≤ l.length ∧ lu l = (lu r').map (f' ++ ·), fun σ' H'' ⟨f', r', h1, h2, h3, h4, h5⟩ => ⟨_, h1, f', r', rfl, h2, h3, h4, h5⟩, ?_⟩
    have hcr : (S (c :: r)).length ≤ sizeLine := by rw [S_len]; omega
    refine ⟨_, rfl, S (c :: r), 0, c, rfl, rfl, hcr, cps_at (j := 0) rfl rfl, ?_⟩
    refine ⟨rfl, _, rfl, ?_⟩
    rw [lit_tt, lit_ttt, lit_tu, lit_sp, show (V.str ⟨#[c]⟩) = .str (S [c]) from rfl, str_dec]
    by_cases hc : c = 126
    · subst hc
      rw [decide_eq_true rfl]
      refine iteT ?_
      have c2 : ∀ (r : Ln), cutS (S (126 :: r)) none (some 2) = S ((126 :: r).take 2) := fun r => cut_to _ rfl
      refine ⟨_, rfl, _, rfl, S (126 :: r), rfl, hcr, line16 (by show 2 ≤ 1000000; decide), fun w1 nw1 => ?_⟩
      have kw : Kq [] H' (upd H' w1 (.tup [.str (S [126, 126]), .str (S [126, 95])])) := Kq.alloc nw1
      have gw : SqT K (upd H' w1 (.tup [.str (S [126, 126]), .str (S [126, 95])])) w1 [.str (S [126, 126]), .str (S [126, 95])] := SqT.of upd_same
      generalize (upd H' w1 (.tup [.str (S [126, 126]), .str (S [126, 95])])) = H2 at kw gw ⊢
      refine ⟨w1, _, rfl, .inr gw, rfl, rfl, _, rfl, ?_⟩
      rw [c2]
      have dget : ∀ (x : Nat) (H2 : Hp) (D : Addr) (e : Nat), valV unqD (.inr (S [126, x])) = some (.str (S [e])) → DGet (upd H2 D (.dK unqD)) D (.str (S [126, x])) (some (.str (S [e]))) := fun x H2 D e he => .inl ⟨unqD, .inr (S [126, x]), .inl upd_same, rfl, he.symm⟩
      have hno : ∀ r' : Ln, (inV (.str (S (List.take 2 (126 :: r')))) [.str (S [126, 126]), .str (S [126, 95])]) = decide (List.take 2 (126 :: r') = [126, 126] ∨ List.take 2 (126 :: r') = [126, 95]) := fun r' => by
        unfold inV
        simp only [List.any_cons, List.any_nil, Bool.or_false]
        rw [eqV_S, eqV_S]
        rw [Bool.decide_or]
        congr 1 <;> exact decide_eq_decide.mpr eq_comm
      rw [hno]
      cases r with
      | nil =>
        refine iteT ?_
        have e : lu l = none := by rw [hlu]; rfl
        rw [e] at kQ
        exact kQ _ (k1.trans kw)
      | cons d r =>
        by_cases hd : d = 126 ∨ d = 95
        · have ht : List.take 2 (126 :: d :: r) = [126, d] := rfl
          rw [ht, decide_eq_true (by rcases hd with rfl | rfl <;> simp)]
          refine iteF ?_
          obtain ⟨e, he, hle⟩ : ∃ e, valV unqD (.inr (S [126, d])) = some (.str (S [e])) ∧ lu (126 :: d :: r) = (lu r).map (e :: ·) := by
            rcases hd with rfl | rfl
            · exact ⟨126, unqD_1, lu_hit r⟩
            · exact ⟨32, unqD_2, lu_sp r⟩
          refine ⟨_, rfl, fun D nD => ?_⟩
          refine ⟨upd_same, unqD, rfl, by decide, ?_⟩
          rw [unqD_merge]
          have kD : Kq [] H2 (upd (upd H2 D (.dK [])) D (.dK unqD)) := (Kq.alloc nD).writeF nD upd_same
          refine ⟨_, rfl, _, rfl, S (126 :: d :: r), rfl, hcr, D, .str (S [e]), rfl, ?_, ?_⟩
          · rw [c2]
            exact dget d _ D e he
          refine ⟨S f, S [e], rfl, rfl, ?_, _, rfl, _, rfl, S (126 :: d :: r), rfl, hcr, f ++ [e], r, ?_, ?_, ?_, ?_, ?_⟩
          · rw [S_len, S_len]
            show f.length + 1 ≤ _
            rw [List.length_cons] at hlen
            omega
          · show r.length < r.length + 1 + 1
            omega
          · rw [show cutS (S (126 :: d :: r)) (some 2) none = S r from cut_from (126 :: d :: r) (n := 2) rfl, S_app]
            rfl
          · exact (k1.trans kw).trans kD
          · rw [List.length_append]
            rw [List.length_cons, List.length_cons] at hlen
            show f.length + 1 + r.length ≤ _
            omega
          · rw [hlu, hle]
            cases lu r with
            | none => rfl
            | some s => show some _ = some _; simp
        · have ht : List.take 2 (126 :: d :: r) = [126, d] := rfl
          rw [ht, decide_eq_false (by simpa using hd)]
          refine iteT ?_
          have e : lu l = none := by rw [hlu, lu_no r (fun z => hd (.inl z)) (fun z => hd (.inr z))]; rfl
          rw [e] at kQ
          exact kQ _ (k1.trans kw)
    · rw [decide_eq_false (by simpa using hc)]
      refine iteF ?_
      refine ⟨_, rfl, _, rfl, S (c :: r), 0, c, rfl, rfl, hcr, cps_at (j := 0) rfl rfl, S f, ⟨#[c]⟩, rfl, rfl, ?_, _, rfl, _, rfl, S (c :: r), rfl, hcr, _, _, rfl, f ++ [c], r, Nat.lt_succ_self _, ?_, k1, ?_, ?_⟩
      · rw [S_len]
        show f.length + 1 ≤ _
        rw [List.length_cons] at hlen
        omega
      · rw [show cutS (S (c :: r)) (some 1) none = S r from cut_from (c :: r) (n := 1) rfl, show (⟨#[c]⟩ : Str) = S [c] from rfl, S_app]
        rfl
      · rw [List.length_append]
        rw [List.length_cons] at hlen
        show f.length + 1 + r.length ≤ _
        omega
      · rw [hlu, lu_plain r hc]
        cases lu r with
        | none => rfl
        | some s => show some _ = some _; simp
end
end KT
set_option Elab.async false
set_option linter.all false
set_option maxRecDepth 100000
set_option maxHeartbeats 4000000
namespace KT
open PySem PySem.Spec PyProof.Rows L2 GxR
variable [GT]
def signsL (z : Str) : List V := z.cps.toList.map fun c => .str ⟨#[c]⟩
def rListS : List V → Hp → VK → Prop := fun xs H Q => ∃ z, xs = [.str z] ∧ z.length ≤ sizeLine ∧ ∀ q, H q = none → Q (.ref q) (upd H q (.lst (signsL z)))
theorem vals_signsL {z : Str} {acc : Array Value} (h : ItemsOf (SignAt z) acc z.cps.size) : Vals (signsL z) acc.toList := by
  refine vals_of_at ?_ fun j x u h1 h2 => ?_
  · unfold signsL
    rw [List.length_map, Array.length_toList, Array.length_toList, h.1]
  · unfold signsL at h1
    rw [List.getElem?_map] at h1
    obtain ⟨c, hc, rfl⟩ := Option.map_eq_some_iff.mp h1
    obtain ⟨d, t, hd, rfl⟩ := h.2 j u (by rw [← h2, Array.getElem?_toList])
    rw [Array.getElem?_toList] at hc
    rw [hc] at hd
    cases hd
    exact ⟨t, rfl⟩
/-- list of a text -/
theorem call_listS {X : Cx} (hc : X.calm = true) : CallR X (.type "list") rListS := by
  intro pins s σ H xs us Q I r h
  obtain ⟨z, rfl, hz, q⟩ := h
  obtain ⟨u, rfl, rx⟩ := vals1 r
  obtain ⟨t, rfl⟩ := rx
  refine PySem.call_list_str (I.ok.hd hc) z t (hn := hz) fun h' tk acc' c' hk e' hi => ?_
  refine ⟨.ref s.heap.objs.size, upd H s.heap.objs.size (.lst (signsL z)), I.laid hk (Nat.le_refl _) (show ObjOk X.prog X.w _ _ _ (.lst (signsL z)) from ⟨?_, acc'.toList, c', vals_signsL hi, ?_⟩), rfl, q _ (I.hok.fresh (Nat.le_refl _))⟩
  · unfold signsL; rw [List.length_map, Array.length_toList]; exact hz
  · rw [Array.toArray_toList]; exact e'
end KT
set_option Elab.async false
set_option linter.all false
set_option maxRecDepth 100000
set_option maxHeartbeats 4000000
namespace KT
open PySem PySem.Spec PyProof.Rows L2
variable [GT]
/-! ### k13's own reader's steps -/
theorem lu_ok : ∀ (l s : Ln), (∀ c ∈ l, okSign c) → lu l = some s → ∀ c ∈ s, okSign c
  | [], s, _, h => by cases h; simp
  | [c], s, hc, h => by
    have h : (if c = 126 then none else some [c]) = some s := h
    split at h
    · cases h
    · cases h; exact hc
  | c :: d :: r, s, hc, h => by
    have h : (if c = 126 then (if d = 126 then (lu r).map (126 :: ·) else if d = 95 then (lu r).map (32 :: ·) else none) else (lu (d :: r)).map (c :: ·)) = some s := h
    split at h
    · split at h
      · obtain ⟨t, ht, rfl⟩ := Option.map_eq_some_iff.mp h
        have := lu_ok r t (fun x hx => hc x (by simp [hx])) ht
        intro x hx
        rcases List.mem_cons.mp hx with rfl | z
        · exact ⟨by decide, by decide⟩
        · exact this x z
      · split at h
        · obtain ⟨t, ht, rfl⟩ := Option.map_eq_some_iff.mp h
          have := lu_ok r t (fun x hx => hc x (by simp [hx])) ht
          intro x hx
          rcases List.mem_cons.mp hx with rfl | z
          · exact ⟨by decide, by decide⟩
          · exact this x z
        · cases h
    · obtain ⟨t, ht, rfl⟩ := Option.map_eq_some_iff.mp h
      have := lu_ok (d :: r) t (fun x hx => hc x (List.mem_cons_of_mem _ hx)) ht
      intro x hx
      rcases List.mem_cons.mp hx with rfl | z
      · exact hc _ (by simp)
      · exact this x z
theorem lu_nil : ∀ {l : Ln}, lu l = some [] → l = []
  | [], _ => rfl
  | c :: r, h => by
    by_cases hc : c = 126
    · subst hc
      cases r with
      | nil => cases h
      | cons d r =>
        by_cases h1 : d = 126
        · subst h1; rw [lu_hit] at h; obtain ⟨t, _, e⟩ := Option.map_eq_some_iff.mp h; cases e
        · by_cases h2 : d = 95
          · subst h2; rw [lu_sp] at h; obtain ⟨t, _, e⟩ := Option.map_eq_some_iff.mp h; cases e
          · rw [lu_no r h1 h2] at h; cases h
    · rw [lu_plain r hc] at h; obtain ⟨t, _, e⟩ := Option.map_eq_some_iff.mp h; cases e
theorem lu_one {l : Ln} {x : Nat} (h1 : x ≠ 126) (h2 : x ≠ 32) (h : lu l = some [x]) : l = [x] := by
  cases l with
  | nil => cases h
  | cons c r =>
    by_cases hc : c = 126
    · subst hc
      cases r with
      | nil => cases h
      | cons d r =>
        by_cases h3 : d = 126
        · subst h3; rw [lu_hit] at h; obtain ⟨t, _, e⟩ := Option.map_eq_some_iff.mp h; cases e; exact absurd rfl h1
        · by_cases h4 : d = 95
          · subst h4; rw [lu_sp] at h; obtain ⟨t, _, e⟩ := Option.map_eq_some_iff.mp h; cases e; exact absurd rfl h2
          · rw [lu_no r h3 h4] at h; cases h
    · rw [lu_plain r hc] at h
      obtain ⟨t, ht, e⟩ := Option.map_eq_some_iff.mp h
      cases e
      rw [lu_nil ht]
theorem lu_self {x : Nat} (h : x ≠ 126) : lu [x] = some [x] := by
  show (if x = 126 then none else some [x]) = _
  rw [if_neg h]
theorem names_signs : signsL (Str.ofString "abcdefgh") = namesV := by decide +kernel
theorem in_signs (s : Str) (l : Ln) : inV (strW l) (signsL s) = true ↔ ∃ c ∈ s.cps.toList, l = [c] := by
  unfold inV signsL
  rw [List.any_eq_true]
  constructor
  · rintro ⟨y, hy, e⟩
    obtain ⟨c, hc, rfl⟩ := List.mem_map.mp hy
    have e : eqV (.str (S [c])) (.str (S l)) = true := e
    rw [eqV_S] at e
    exact ⟨c, hc, (of_decide_eq_true e).symm⟩
  · rintro ⟨c, hc, rfl⟩
    refine ⟨_, List.mem_map.mpr ⟨c, hc, rfl⟩, ?_⟩
    show eqV (.str (S [c])) (.str (S [c])) = true
    rw [eqV_S]; exact decide_eq_true rfl
theorem names_cps : (Str.ofString "abcdefgh").cps.toList = [97, 98, 99, 100, 101, 102, 103, 104] := by decide +kernel
theorem digits_cps : (Str.ofString "123456789").cps.toList = [49, 50, 51, 52, 53, 54, 55, 56, 57] := by decide +kernel
/-- a name is no other word's text -/
theorem lu_name {b s : Ln} (h : lu b = some s) : inV (strW s) namesV = inV (strW b) namesV := by
  rw [← names_signs]
  refine Bool.eq_iff_iff.mpr ?_
  rw [in_signs, in_signs, names_cps]
  constructor
  · rintro ⟨c, hc, rfl⟩
    have h2 : c ≠ 126 ∧ c ≠ 32 := by
      simp only [List.mem_cons, List.not_mem_nil, or_false] at hc
      omega
    exact ⟨c, hc, lu_one h2.1 h2.2 h⟩
  · rintro ⟨c, hc, rfl⟩
    have h2 : c ≠ 126 := by
      simp only [List.mem_cons, List.not_mem_nil, or_false] at hc
      omega
    rw [lu_self h2] at h
    cases h
    exact ⟨c, hc, rfl⟩
theorem name_len {s : Ln} (h : inV (strW s) namesV = true) : s.length = 1 := by
  rw [← names_signs] at h
  obtain ⟨c, _, rfl⟩ := (in_signs _ _).mp h
  rfl
/-- a digit of a number of times -/
theorem num_digit (c : Ln) : (numW c).isSome = inV (strW c) (signsL (Str.ofString "123456789")) := by
  refine Bool.eq_iff_iff.mpr ?_
  rw [in_signs, digits_cps]
  constructor
  · intro h
    match c, h with
    | [d], h =>
      have h : (if 49 ≤ d ∧ d ≤ 57 then some (d - 48) else none).isSome = true := h
      split at h
      · rename_i hd
        refine ⟨d, ?_, rfl⟩
        simp only [List.mem_cons, List.not_mem_nil, or_false]
        omega
      · cases h
    | [], h => cases h
    | _ :: _ :: _, h => cases h
  · rintro ⟨d, hd, rfl⟩
    have hd2 : 49 ≤ d ∧ d ≤ 57 := by
      simp only [List.mem_cons, List.not_mem_nil, or_false] at hd
      omega
    show (if 49 ≤ d ∧ d ≤ 57 then some (d - 48) else none).isSome = true
    rw [if_pos hd2]; rfl
theorem num_int : ∀ {c : Ln} {n : Nat}, numW c = some n → intText? (S c) = some (n : Int) ∧ 1 ≤ n ∧ n ≤ 9 ∧ c.length = 1 ∧ lu c = some c
  | [d], n, h => by
    have h : (if 49 ≤ d ∧ d ≤ 57 then some (d - 48) else none) = some n := h
    split at h
    · rename_i hd
      cases h
      have key : ∀ i : Fin 9, intText? (S [49 + i.1]) = some ((i.1 + 1 : Nat) : Int) := by decide +kernel
      have k := key ⟨d - 49, by omega⟩
      have e1 : 49 + (d - 49) = d := by omega
      have e2 : d - 49 + 1 = d - 48 := by omega
      rw [e1, e2] at k
      exact ⟨k, by omega, by omega, rfl, lu_self (by omega)⟩
    · cases h
  | [], n, h => by cases h
  | _ :: _ :: _, n, h => by cases h
/-! the five ways -/
theorem many_ways (w : Ln) : (S w = Str.ofString "put" ∧ manyW w = 2) ∨ (S w = Str.ofString "find" ∧ manyW w = 2) ∨ (S w = Str.ofString "play" ∧ manyW w = 3) ∨ (S w = Str.ofString "till" ∧ manyW w = 2) ∨
    (S w ≠ Str.ofString "put" ∧ S w ≠ Str.ofString "find" ∧ S w ≠ Str.ofString "play" ∧ S w ≠ Str.ofString "till" ∧ manyW w = 1) := by
  unfold manyW
  by_cases h1 : S w = Str.ofString "put"
  · rw [h1]; exact .inl ⟨rfl, by decide +kernel⟩
  by_cases h2 : S w = Str.ofString "find"
  · rw [h2]; exact .inr (.inl ⟨rfl, by decide +kernel⟩)
  by_cases h3 : S w = Str.ofString "play"
  · rw [h3]; exact .inr (.inr (.inl ⟨rfl, by decide +kernel⟩))
  by_cases h4 : S w = Str.ofString "till"
  · rw [h4]; exact .inr (.inr (.inr (.inl ⟨rfl, by decide +kernel⟩)))
  refine .inr (.inr (.inr (.inr ⟨h1, h2, h3, h4, ?_⟩)))
  have e : wordsI.lookup (S w) = none := by
    unfold wordsI
    rw [List.lookup_cons, List.lookup_cons, List.lookup_cons, List.lookup_cons, List.lookup_nil]
    rw [beq_eq_false_iff_ne.mpr h1, beq_eq_false_iff_ne.mpr h2, beq_eq_false_iff_ne.mpr h3, beq_eq_false_iff_ne.mpr h4]
  rw [e]
def manyD : List (Key × V) := [(.inr (Str.ofString "put"), .int 2), (.inr (Str.ofString "find"), .int 2), (.inr (Str.ofString "play"), .int 3), (.inr (Str.ofString "till"), .int 2)]
theorem manyD_merge : mergeK [] manyD = manyD := by kernel_rfl
theorem manyD_get (w : Ln) : (valV manyD (.inr (S w))).getD (.int 1) = .int (manyW w : Nat) := by
  rcases many_ways w with ⟨e, m⟩ | ⟨e, m⟩ | ⟨e, m⟩ | ⟨e, m⟩ | ⟨h1, h2, h3, h4, m⟩
  · rw [e, m]; kernel_rfl
  · rw [e, m]; kernel_rfl
  · rw [e, m]; kernel_rfl
  · rw [e, m]; kernel_rfl
  · rw [m]
    unfold manyD
    have ne : ∀ {a b : Str}, a ≠ b → ¬ ((Sum.inr b : Key) = .inr a) := fun h e => h (Sum.inr.inj e).symm
    rw [valV_neg (ne h1), valV_neg (ne h2), valV_neg (ne h3), valV_neg (ne h4)]
    rfl
theorem strW_eq {w : Ln} {z : Str} (h : S w = z) : strW w = .str z := by unfold strW; rw [h]
theorem keyW_with {w b : Ln} (h : S w = Str.ofString "put" ∨ S w = Str.ofString "find") : keyW [w, b] = [strW w, optS (lu b)] := by
  show (if inV (strW w) withV = true then _ else _) = _
  rw [if_pos]
  rcases h with h | h <;> rw [strW_eq h] <;> decide +kernel
theorem keyW_else {w b : Ln} (h1 : S w ≠ Str.ofString "put") (h2 : S w ≠ Str.ofString "find") : keyW [w, b] = [strW w, strW b] := by
  show (if inV (strW w) withV = true then _ else _) = _
  rw [if_neg]
  unfold inV withV strW
  simp only [List.any_cons, List.any_nil, Bool.or_false, Bool.or_eq_true, not_or]
  exact ⟨fun e => h1 (eq_of_beq e).symm, fun e => h2 (eq_of_beq e).symm⟩
theorem keyB_with {w : Ln} {z : Str} {n : Nat} (h : (S w = Str.ofString "put" ∧ n = 1) ∨ (S w = Str.ofString "find" ∧ n = 4)) (x : V) : keyB actB [strW w, x] = wordB n x := by
  rcases h with ⟨h, rfl⟩ | ⟨h, rfl⟩
  · rw [strW_eq h]
    show (if (V.str "put") = .str "put" then wordB 1 x else if (V.str "put") = .str "find" then wordB 4 x else if (V.str "put") = .str "till" then nameB x else false) = _
    rw [if_pos rfl]
  · rw [strW_eq h]
    show (if (V.str "find") = .str "put" then wordB 1 x else if (V.str "find") = .str "find" then wordB 4 x else if (V.str "find") = .str "till" then nameB x else false) = _
    rw [if_neg (by decide +kernel), if_pos rfl]
theorem keyB_till {w : Ln} (h : S w = Str.ofString "till") (x : V) : keyB actB [strW w, x] = nameB x := by
  rw [strW_eq h]
  show (if (V.str "till") = .str "put" then wordB 1 x else if (V.str "till") = .str "find" then wordB 4 x else if (V.str "till") = .str "till" then nameB x else false) = _
  rw [if_neg (by decide +kernel), if_neg (by decide +kernel), if_pos rfl]
theorem keyB_play {w : Ln} (h : S w = Str.ofString "play") (x y : V) : keyB actB [strW w, x, y] = (nameB x && timesB y) ∧ keyB actB [strW w, x] = false := by
  rw [strW_eq h]
  constructor
  · show (if (V.str "play") = .str "play" then nameB x && timesB y else false) = _
    rw [if_pos rfl]
  · show (if (V.str "play") = .str "put" then wordB 1 x else if (V.str "play") = .str "find" then wordB 4 x else if (V.str "play") = .str "till" then nameB x else false) = _
    rw [if_neg (by decide +kernel), if_neg (by decide +kernel), if_neg (by decide +kernel)]
theorem keyB_lone {w : Ln} (h : S w = Str.ofString "put" ∨ S w = Str.ofString "find" ∨ S w = Str.ofString "play" ∨ S w = Str.ofString "till") : keyB actB (keyW [w]) = false := by
  show actB (strW w) = false
  rcases h with h | h | h | h <;> rw [strW_eq h] <;> decide +kernel
theorem wordB_ok {n : Nat} {s : Ln} (h : ∀ c ∈ s, okSign c) : wordB n (.str (S s)) = (decide (1 ≤ s.length) && decide (s.length ≤ n)) := by
  show (decide (1 ≤ (S s).length) && (decide ((S s).length ≤ n) && (S s).cps.toList.all signB)) = _
  have e : (S s).cps.toList.all signB = true := by
    show s.all signB = true
    exact List.all_eq_true.mpr fun c hc => by rw [signB_eq]; exact decide_eq_true (h c hc)
  rw [e, Bool.and_true, S_len]
theorem timesB_num (c : Ln) : timesB (optN (numW c)) = (numW c).isSome := by
  cases h : numW c with
  | none => rfl
  | some n =>
    obtain ⟨_, h1, h9, _⟩ := num_int h
    show (decide ((1 : Int) ≤ (n : Int)) && decide ((n : Int) ≤ 9)) = true
    rw [decide_eq_true (by omega), decide_eq_true (by omega)]; rfl
theorem inV_strs (z : Str) (zs : List Str) : inV (.str z) (zs.map V.str) = zs.contains z := by
  induction zs with
  | nil => rfl
  | cons y r ih =>
    show (eqV (.str y) (.str z) || inV (.str z) (r.map V.str)) = _
    rw [ih, List.contains_cons]
    congr 1
    show (y == z) = (z == y)
    exact Bool.eq_iff_iff.mpr ⟨fun e => by rw [eq_of_beq e]; exact beq_self_eq_true _, fun e => by rw [eq_of_beq e]; exact beq_self_eq_true _⟩
theorem actB_in (w : Ln) : inV (strW w) (actWords.map V.str) = actB (strW w) := inV_strs _ _
/-- too few words -/
theorem step_short {w : Ln} {r : List Ln} (h : r.length + 1 < manyW w) : keyB actB (keyW ((w :: r).take (manyW w))) = false := by
  rcases many_ways w with ⟨e, m⟩ | ⟨e, m⟩ | ⟨e, m⟩ | ⟨e, m⟩ | ⟨_, _, _, _, m⟩ <;> rw [m] at h ⊢
  · have : r = [] := List.length_eq_zero_iff.mp (by omega)
    subst this
    exact keyB_lone (.inl e)
  · have : r = [] := List.length_eq_zero_iff.mp (by omega)
    subst this
    exact keyB_lone (.inr (.inl e))
  · match r, h with
    | [], _ => exact keyB_lone (.inr (.inr (.inl e)))
    | [b], _ =>
      show keyB actB (keyW [w, b]) = false
      rw [keyW_else (by rw [e]; decide +kernel) (by rw [e]; decide +kernel)]
      exact (keyB_play e _ (.int 0)).2
    | _ :: _ :: _, h => simp only [List.length_cons] at h; omega
  · have : r = [] := List.length_eq_zero_iff.mp (by omega)
    subst this
    exact keyB_lone (.inr (.inr (.inr e)))
  · omega
theorem nameB_lu {b : Ln} (h : lu b = none) : nameB (strW b) = false := by
  cases hb : nameB (strW b) with
  | false => rfl
  | true =>
    have hb : inV (strW b) namesV = true := hb
    rw [← names_signs] at hb
    obtain ⟨c, hc, rfl⟩ := (in_signs _ _).mp hb
    rw [names_cps] at hc
    simp only [List.mem_cons, List.not_mem_nil, or_false] at hc
    rw [lu_self (by omega)] at h
    cases h
/-- a word that is no text's -/
theorem step_none {w : Ln} {r : List Ln} (h : manyW w ≤ r.length + 1) {b : Ln} (hb : b ∈ r.take (manyW w - 1)) (hn : lu b = none) : keyB actB (keyW ((w :: r).take (manyW w))) = false := by
  rcases many_ways w with ⟨e, m⟩ | ⟨e, m⟩ | ⟨e, m⟩ | ⟨e, m⟩ | ⟨_, _, _, _, m⟩ <;> rw [m] at h hb ⊢
  · match r, h, hb with
    | c :: r, _, hb =>
      have hb : b ∈ [c] := hb
      rw [List.mem_singleton.mp hb] at hn
      show keyB actB (keyW [w, c]) = false
      rw [keyW_with (.inl e), keyB_with (z := "put") (.inl ⟨e, rfl⟩), hn]; rfl
    | [], h, _ => simp at h
  · match r, h, hb with
    | c :: r, _, hb =>
      have hb : b ∈ [c] := hb
      rw [List.mem_singleton.mp hb] at hn
      show keyB actB (keyW [w, c]) = false
      rw [keyW_with (.inr e), keyB_with (z := "find") (.inr ⟨e, rfl⟩), hn]; rfl
    | [], h, _ => simp at h
  · match r, h, hb with
    | c :: d :: r, _, hb =>
      have hb : b ∈ [c, d] := hb
      show keyB actB [strW w, strW c, optN (numW d)] = false
      rw [(keyB_play e _ _).1]
      simp only [List.mem_cons, List.not_mem_nil, or_false] at hb
      rcases hb with rfl | rfl
      · rw [nameB_lu hn]; rfl
      · rw [timesB_num]
        cases hd : numW b with
        | none => simp
        | some k =>
          obtain ⟨_, _, _, _, h5⟩ := num_int hd
          rw [hn] at h5; cases h5
    | [], h, _ => simp at h
    | [_], h, _ => simp at h
  · match r, h, hb with
    | c :: r, _, hb =>
      have hb : b ∈ [c] := hb
      rw [List.mem_singleton.mp hb] at hn
      show keyB actB (keyW [w, c]) = false
      rw [keyW_else (by rw [e]; decide +kernel) (by rw [e]; decide +kernel), keyB_till e, nameB_lu hn]
    | [], h, _ => simp at h
  · simp at hb
/-- how long a word's text may be -/
def longW (w : Ln) : Nat := if S w = Str.ofString "find" then 4 else 1
theorem step4_bad {w b s : Ln} {r : List Ln} (h : manyW w ≤ (b :: r).length + 1) (h1 : 1 < manyW w) (hs : lu b = some s) (hok : ∀ c ∈ s, okSign c) (hl : ¬ (1 ≤ s.length ∧ s.length ≤ longW w)) : keyB actB (keyW ((w :: b :: r).take (manyW w))) = false := by
  unfold longW at hl
  have name : S w ≠ Str.ofString "find" → nameB (strW b) = false := fun e => by
    rw [if_neg e] at hl
    cases hb : nameB (strW b) with
    | false => rfl
    | true =>
      have hb : inV (strW b) namesV = true := hb
      rw [← lu_name hs] at hb
      have := name_len hb
      omega
  rcases many_ways w with ⟨e, m⟩ | ⟨e, m⟩ | ⟨e, m⟩ | ⟨e, m⟩ | ⟨_, _, _, _, m⟩
  · rw [m]
    rw [if_neg (by rw [e]; decide +kernel)] at hl
    show keyB actB (keyW [w, b]) = false
    rw [keyW_with (.inl e), keyB_with (z := "put") (.inl ⟨e, rfl⟩), hs]
    show wordB 1 (.str (S s)) = false
    rw [wordB_ok hok, ← Bool.decide_and]
    exact decide_eq_false hl
  · rw [m]
    rw [if_pos e] at hl
    show keyB actB (keyW [w, b]) = false
    rw [keyW_with (.inr e), keyB_with (z := "find") (.inr ⟨e, rfl⟩), hs]
    show wordB 4 (.str (S s)) = false
    rw [wordB_ok hok, ← Bool.decide_and]
    exact decide_eq_false hl
  · rw [m] at h ⊢
    match r, h with
    | c :: r, _ =>
      show keyB actB [strW w, strW b, optN (numW c)] = false
      rw [(keyB_play e _ _).1, name (by rw [e]; decide +kernel)]; rfl
    | [], h => simp only [List.length_cons, List.length_nil] at h; omega
  · rw [m]
    show keyB actB (keyW [w, b]) = false
    rw [keyW_else (by rw [e]; decide +kernel) (by rw [e]; decide +kernel), keyB_till e, name (by rw [e]; decide +kernel)]
  · omega
theorem step5_bad {w b s : Ln} {r : List Ln} (h : manyW w ≤ (b :: r).length + 1) (hw : S w = Str.ofString "play" ∨ S w = Str.ofString "till") (hs : lu b = some s) (hn : inV (strW s) namesV = false) : keyB actB (keyW ((w :: b :: r).take (manyW w))) = false := by
  have name : nameB (strW b) = false := by rw [← hn, lu_name hs]; rfl
  rcases many_ways w with ⟨e, m⟩ | ⟨e, m⟩ | ⟨e, m⟩ | ⟨e, m⟩ | ⟨_, _, h3, h4, m⟩
  · rcases hw with z | z <;> rw [e] at z <;> exact absurd z (by decide +kernel)
  · rcases hw with z | z <;> rw [e] at z <;> exact absurd z (by decide +kernel)
  · rw [m] at h ⊢
    match r, h with
    | c :: r, _ =>
      show keyB actB [strW w, strW b, optN (numW c)] = false
      rw [(keyB_play e _ _).1, name]; rfl
    | [], h => simp only [List.length_cons, List.length_nil] at h; omega
  · rw [m]
    show keyB actB (keyW [w, b]) = false
    rw [keyW_else (by rw [e]; decide +kernel) (by rw [e]; decide +kernel), keyB_till e, name]
  · rcases hw with z | z
    · exact absurd z h3
    · exact absurd z h4
theorem step6_bad {w b c : Ln} {r : List Ln} (e : S w = Str.ofString "play") (hn : numW c = none) : keyB actB (keyW ((w :: b :: c :: r).take (manyW w))) = false := by
  rcases many_ways w with ⟨z, m⟩ | ⟨z, m⟩ | ⟨z, m⟩ | ⟨z, m⟩ | ⟨_, _, h3, h4, m⟩
  · rw [e] at z; exact absurd z (by decide +kernel)
  · rw [e] at z; exact absurd z (by decide +kernel)
  · rw [m]
    show keyB actB [strW w, strW b, optN (numW c)] = false
    rw [(keyB_play e _ _).1, timesB_num, hn]; simp
  · rw [e] at z; exact absurd z (by decide +kernel)
  · exact absurd e h3
theorem step3_bad {w : Ln} {r : List Ln} (m : manyW w = 1) (ha : actB (strW w) = false) : keyB actB (keyW ((w :: r).take (manyW w))) = false := by
  rw [m]
  exact ha
/-- a name's text is itself -/
theorem lu_name_eq {b s : Ln} (h : lu b = some s) (hn : inV (strW s) namesV = true) : s = b := by
  rw [← names_signs] at hn
  obtain ⟨c, hc, rfl⟩ := (in_signs _ _).mp hn
  rw [names_cps] at hc
  simp only [List.mem_cons, List.not_mem_nil, or_false] at hc
  exact (lu_one (by omega) (by omega) h).symm
theorem step_ok {w : Ln} {r : List Ln} (h : manyW w ≤ r.length + 1) (h2 : ∀ b ∈ r.take (manyW w - 1), ∃ s, lu b = some s ∧ ∀ c ∈ s, okSign c) (h3 : manyW w = 1 → actB (strW w) = true)
    (h4 : ∀ b s, r[0]? = some b → 1 < manyW w → lu b = some s → 1 ≤ s.length ∧ s.length ≤ longW w) (h5 : S w = Str.ofString "play" ∨ S w = Str.ofString "till" → ∀ b s, r[0]? = some b → lu b = some s → inV (strW s) namesV = true)
    (h6 : S w = Str.ofString "play" → ∀ c, r[1]? = some c → (numW c).isSome = true) :
    keyB actB (keyW ((w :: r).take (manyW w))) = true ∧ keyW ((w :: r).take (manyW w)) = strW w :: (((r.take (manyW w - 1)).map fun b => optS (lu b)).take 1 ++ (if S w = Str.ofString "play" then [optN (numW (r.getD 1 []))] else [])) := by
  rcases many_ways w with ⟨e, m⟩ | ⟨e, m⟩ | ⟨e, m⟩ | ⟨e, m⟩ | ⟨n1, n2, n3, n4, m⟩ <;> rw [m] at h h2 h3 h4 ⊢
  · match r, h, h2, h4 with
    | b :: r, _, h2, h4 =>
      obtain ⟨s, hs, hok⟩ := h2 b (by simp)
      have hl := h4 b s rfl (by decide) hs
      unfold longW at hl
      rw [if_neg (by rw [e]; decide +kernel)] at hl
      rw [if_neg (by rw [e]; decide +kernel)]
      constructor
      · show keyB actB (keyW [w, b]) = true
        rw [keyW_with (.inl e), keyB_with (z := "put") (.inl ⟨e, rfl⟩), hs]
        show wordB 1 (.str (S s)) = true
        rw [wordB_ok hok, decide_eq_true hl.1, decide_eq_true hl.2]; rfl
      · show keyW [w, b] = _
        rw [keyW_with (.inl e)]; rfl
    | [], h, _, _ => simp at h
  · match r, h, h2, h4 with
    | b :: r, _, h2, h4 =>
      obtain ⟨s, hs, hok⟩ := h2 b (by simp)
      have hl := h4 b s rfl (by decide) hs
      unfold longW at hl
      rw [if_pos e] at hl
      rw [if_neg (by rw [e]; decide +kernel)]
      constructor
      · show keyB actB (keyW [w, b]) = true
        rw [keyW_with (.inr e), keyB_with (z := "find") (.inr ⟨e, rfl⟩), hs]
        show wordB 4 (.str (S s)) = true
        rw [wordB_ok hok, decide_eq_true hl.1, decide_eq_true hl.2]; rfl
      · show keyW [w, b] = _
        rw [keyW_with (.inr e)]; rfl
    | [], h, _, _ => simp at h
  · match r, h, h2, h5, h6 with
    | b :: c :: r, _, h2, h5, h6 =>
      obtain ⟨s, hs, hok⟩ := h2 b (by simp)
      have hn := h5 (.inl e) b s rfl hs
      have hc := h6 e c rfl
      have es := lu_name_eq hs hn
      subst es
      rw [if_pos e]
      constructor
      · show keyB actB [strW w, strW s, optN (numW c)] = true
        rw [(keyB_play e _ _).1, timesB_num, hc, show nameB (strW s) = true from hn]; rfl
      · show [strW w, strW s, optN (numW c)] = strW w :: ([optS (lu s)] ++ [optN (numW c)])
        rw [hs]; rfl
    | [], h, _, _, _ => simp at h
    | [_], h, _, _, _ => simp at h
  · match r, h, h2, h5 with
    | b :: r, _, h2, h5 =>
      obtain ⟨s, hs, hok⟩ := h2 b (by simp)
      have hn := h5 (.inr e) b s rfl hs
      have es := lu_name_eq hs hn
      subst es
      rw [if_neg (by rw [e]; decide +kernel)]
      constructor
      · show keyB actB (keyW [w, s]) = true
        rw [keyW_else (by rw [e]; decide +kernel) (by rw [e]; decide +kernel), keyB_till e]
        exact hn
      · show keyW [w, s] = strW w :: ([optS (lu s)] ++ [])
        rw [keyW_else (by rw [e]; decide +kernel) (by rw [e]; decide +kernel), hs]; rfl
    | [], h, _, _ => simp at h
  · rw [if_neg n3]
    exact ⟨h3 rfl, rfl⟩
end KT
set_option Elab.async false
set_option linter.all false
set_option maxRecDepth 100000
set_option maxHeartbeats 4000000
namespace KT
open PySem PySem.Spec PyProof.Rows L2 GxR
variable [GT]
def rNeE (K : PySem.W.Frag) : R2 := fun x y H Q => ∃ (a b : Addr) (xs : List V), x = .ref a ∧ y = .ref b ∧ SqL K H a xs ∧ SqL K H b [] ∧ Q (.bl (!xs.isEmpty)) H
/-- a list != [], whatever it holds -/
theorem op_neE {X : Cx} (hu : X.A.units < cLine) : OpR X (compareOp .NotEq) (rNeE X.K) := by
  intro pins s σ H x y v u Q I rx ry h
  obtain ⟨a, b, xs, e1, e2, ha, hb, k⟩ := h
  subst e1 e2
  cases rx
  cases ry
  obtain ⟨is1, v1, t1, _⟩ := I.list ha
  obtain ⟨is2, v2, t2, _⟩ := I.list hb
  have l1 := v1.length
  have l2 := v2.length
  cases xs with
  | nil =>
    refine PySem.SeqAt.RcNeAt.lists (e := fun _ => true) t1.isList t2.isList (by simp at l1 l2 ⊢; omega) hu (fun i h1 h2 => ?_) _ _ _ _ ⟨.bl false, H, I, ?_, k⟩
    · simp at l1; simp at h1; omega
    · have h0 : is1.toArray.size = 0 := by rw [List.size_toArray]; simpa using l1.symm
      rw [h0]; rfl
  | cons x xs =>
    exact PySem.SeqAt.RcNeAt.lists_lengths t1.isList t2.isList (by simp at l1 l2 ⊢; omega) hu _ _ _ _ ⟨.bl true, H, I, rfl, k⟩
end KT
set_option Elab.async false
set_option linter.all false
set_option maxRecDepth 100000
set_option maxHeartbeats 4000000
namespace KT
open PySem PySem.Spec PyProof.Rows L2
def repS (z : Str) (k : Nat) : Str := ⟨(List.replicate k z.cps).foldl (· ++ ·) #[]⟩
def rMulS : R2 := fun x y H Q => ∃ (z : Str) (k : Nat), x = .str z ∧ y = .int (k : Int) ∧ 2 ≤ k ∧ k ≤ 1000 ∧ 1 ≤ z.length ∧ z.length ≤ 1000 ∧ Q (.str (repS z k)) H
/-- a text so many times, two at least -/
theorem op_mulS {X : Cx} : OpR X (binaryOp .Mult) rMulS := by
  intro pins s σ H x y v u Q I rx ry h
  obtain ⟨z, k, ex, ey, h2, hk, h1, hz, q⟩ := h
  subst ex ey
  obtain ⟨t, rfl⟩ := rx
  obtain ⟨t', rfl⟩ := ry
  refine PySem.P.mul_str (by rw [decide_eq_false (by omega), decide_eq_false (by omega)]; rfl) (fun _ _ => ?_) (fun _ _ => ?_) ?_
  · intro hg
    have h3 : (1000 : Int) ≤ (2 ^ 63 - 1) / (k : Int) := by
      rw [Int.le_ediv_iff_mul_le (by omega)]
      have : (1000 : Int) * (k : Int) ≤ 1000 * 1000 := Int.mul_le_mul_of_nonneg_left (by omega) (by decide)
      omega
    omega
  · rw [Int.toNat_natCast]
    have : z.length * k ≤ 1000 * 1000 := Nat.mul_le_mul hz hk
    exact decide_eq_false (by rw [sizeLine_eq]; omega)
  · have hc : ((k : Int) == 1 || z.length == 0) = false := by
      have a1 : ((k : Int) == 1) = false := beq_eq_false_iff_ne.mpr (by omega)
      have a2 : (z.length == 0) = false := beq_eq_false_iff_ne.mpr (by omega)
      rw [a1, a2]; rfl
    rw [if_neg (by omega), hc, if_neg (by decide), Int.toNat_natCast]
    have hlen : ∀ n : Nat, ∀ acc : Array Nat, ((List.replicate n z.cps).foldl (· ++ ·) acc).size = acc.size + n * z.length := by
      intro n
      induction n with
      | zero => intro acc; simp
      | succ n ih => intro acc; rw [List.replicate_succ, List.foldl_cons, ih, Array.size_append, Nat.succ_mul]; show _ + z.cps.size + _ = _; have : z.length = z.cps.size := rfl; omega
    refine ⟨?_, .str (repS z k), H, I.tok _, ⟨_, rfl⟩, q⟩
    have e := hlen k #[]
    have : k * z.length ≤ 1000 * 1000 := Nat.mul_le_mul hk hz
    show ((List.replicate k z.cps).foldl (· ++ ·) #[]).size ≤ sizeLine
    rw [e, sizeLine_eq]
    simp only [Array.size_empty] at *
    omega
end KT
set_option Elab.async false
set_option linter.all false
set_option maxRecDepth 100000
set_option maxHeartbeats 4000000
namespace KT
open PySem PySem.Spec PyProof.Rows L2 GxR
variable [GT]
def OddT (K : PySem.W.Frag) (H : Hp) (a : Addr) : Prop := ∃ xs, SqT K H a xs ∧ OddOk K xs ∧ keyB actB xs = false
theorem OddT.kq {K : PySem.W.Frag} {H H1 : Hp} {a : Addr} (h : OddT K H a) (k : Kq [] H H1) : OddT K H1 a := by obtain ⟨xs, h1, h2⟩ := h; exact ⟨xs, k.tup h1, h2⟩
theorem OddT.kf {K : PySem.W.Frag} {H H1 : Hp} {a : Addr} {S : List Addr} (h : OddT K H a) (k : Kf S H H1) : OddT K H1 a := by obtain ⟨xs, h1, h2⟩ := h; exact ⟨xs, k.tup h1, h2⟩
inductive AllOdd (K : PySem.W.Frag) (H : Hp) : List Addr → Prop where
  | nil : AllOdd K H []
  | co {a : Addr} {as : List Addr} : OddT K H a → AllOdd K H as → AllOdd K H (a :: as)
theorem AllOdd.cons {K : PySem.W.Frag} {H : Hp} {a : Addr} {as : List Addr} (h : AllOdd K H as) (g : OddT K H a) : AllOdd K H (a :: as) := .co g h
theorem AllOdd.kq {K : PySem.W.Frag} {H H1 : Hp} {as : List Addr} (h : AllOdd K H as) (k : Kq [] H H1) : AllOdd K H1 as := by
  induction h with
  | nil => exact .nil
  | co g _ ih => exact .co (g.kq k) ih
theorem AllOdd.at_ {K : PySem.W.Frag} {H : Hp} {as : List Addr} (h : AllOdd K H as) {a : Addr} (ha : a ∈ as) : OddT K H a := by
  induction h with
  | nil => simp at ha
  | co g _ ih => rcases List.mem_cons.mp ha with rfl | z; exact g; exact ih z
theorem dr_some {H : Hp} {h l : Addr} (hD : DrAt H h l) : ∀ b ∈ [h, l], H b ≠ none := by
  obtain ⟨a, c, xs, h1, h2, _⟩ := hD
  intro b hb
  simp only [List.mem_cons, List.not_mem_nil, or_false] at hb
  rcases hb with rfl | rfl
  · rw [h1]; simp
  · rw [h2]; simp
def smallVB : V → Bool
  | .str z => decide (z.length ≤ 1000)
  | .int _ => true
  | _ => false
theorem smallVB_ok {v : V} (h : smallVB v = true) : smallV v := by
  cases v with
  | str z => exact (of_decide_eq_true (show decide (z.length ≤ 1000) = true from h) : z.length ≤ 1000)
  | int i => trivial
  | _ => cases h
theorem odd_const {K : PySem.W.Frag} {xs : List V} (h1 : xs.all smallVB = true) (h2 : xs.length ≠ 1) (h3 : keyB actB xs = false) : OddOk K xs ∧ keyB actB xs = false :=
  ⟨⟨fun x hx => smallVB_ok (List.all_eq_true.mp h1 x hx), fun k e => absurd (by rw [e]; rfl) h2⟩, h3⟩
theorem odd_one {K : PySem.W.Frag} {v : V} (h1 : smallVB v = true) (h2 : ActIs K v false) (h4 : actB v = false) (h3 : keyB actB [v] = false) : OddOk K [v] ∧ keyB actB [v] = false :=
  ⟨⟨fun x hx => by rw [List.mem_singleton.mp hx]; exact smallVB_ok h1, fun k e => by injection e with e _; subst e; rw [h4]; exact h2⟩, h3⟩
theorem repS_len (z : Str) (k : Nat) : (repS z k).length = k * z.length := by
  have hlen : ∀ n : Nat, ∀ acc : Array Nat, ((List.replicate n z.cps).foldl (· ++ ·) acc).size = acc.size + n * z.length := by
    intro n
    induction n with
    | zero => intro acc; simp
    | succ n ih => intro acc; rw [List.replicate_succ, List.foldl_cons, ih, Array.size_append, Nat.succ_mul]; show _ + z.cps.size + _ = _; have : z.length = z.cps.size := rfl; omega
  have := hlen k #[]
  simpa [repS, Str.length] using this
theorem odd_find {K : PySem.W.Frag} {k : Nat} (h1 : 5 ≤ k) (h2 : k ≤ 1000) : OddOk K [.str "find", .str (repS "a" k)] ∧ keyB actB [.str "find", .str (repS "a" k)] = false := by
  have hl : (repS "a" k).length = k := by rw [repS_len]; show k * 1 = k; omega
  refine ⟨⟨fun x hx => ?_, fun k e => by simp at e⟩, ?_⟩
  · simp only [List.mem_cons, List.not_mem_nil, or_false] at hx
    rcases hx with rfl | rfl
    · show Str.length "find" ≤ 1000; decide
    · show (repS "a" k).length ≤ 1000; omega
  · show (if V.str "find" = .str "put" then wordB 1 (.str (repS "a" k)) else if V.str "find" = .str "find" then wordB 4 (.str (repS "a" k)) else if V.str "find" = .str "till" then nameB (.str (repS "a" k)) else false) = false
    rw [if_neg (by decide), if_pos rfl]
    show (decide (1 ≤ (repS "a" k).length) && (decide ((repS "a" k).length ≤ 4) && (repS "a" k).cps.toList.all signB)) = false
    rw [hl, decide_eq_false (show ¬ k ≤ 4 by omega)]
    simp
theorem odd_play {K : PySem.W.Frag} {i : Int} (h : i < 1 ∨ 9 < i) : OddOk K [.str "play", .str "a", .int i] ∧ keyB actB [.str "play", .str "a", .int i] = false := by
  refine ⟨⟨fun x hx => ?_, fun k e => by simp at e⟩, ?_⟩
  · simp only [List.mem_cons, List.not_mem_nil, or_false] at hx
    rcases hx with rfl | rfl | rfl
    · show Str.length "play" ≤ 1000; decide
    · show Str.length "a" ≤ 1000; decide
    · trivial
  · show (if V.str "play" = .str "play" then (nameB (.str "a") && timesB (.int i)) else false) = false
    rw [if_pos rfl]
    show (nameB (.str "a") && (decide (1 ≤ i) && decide (i ≤ 9))) = false
    rcases h with h | h
    · rw [decide_eq_false (show ¬ 1 ≤ i by omega)]; simp
    · rw [decide_eq_false (show ¬ i ≤ 9 by omega)]; simp
section
variable {P : Program} {w : World} {K : PySem.W.Frag} {mg : Str → Option Value} {base : Heap}
def sp_odd (K : PySem.W.Frag) : Sp := fun vs H Q _ => ∃ (h l : Addr), vs = [.ref h] ∧ DrAt H h l ∧ ∀ q H', Kf [h, l] H H' → DrAt H' h l → OddT K H' q → Q (.ref q) H'
end
end KT
set_option Elab.async false
set_option linter.all false
set_option maxRecDepth 100000
set_option maxHeartbeats 4000000
namespace KT
open PySem PySem.Spec PyProof.Rows L2 GxR
variable [GT]
def LkSt (K : PySem.W.Frag) (H : Hp) (a F Lf D q : Addr) (w : Ln) (n : Nat) (as : List Addr) (done : List (List V)) (r bs : List Ln) (v8 : Option V) (σ : L2.St) (H' : Hp) : Prop :=
  (∃ v1, σ = [some (.ref a), v1, some (.ref F), some (.ref Lf), some (strW w), some (.int (n : Nat)), some (.ref D), some (.ref q), v8]) ∧ Kq [] H H' ∧ H' F = some (.lst (as.map V.ref)) ∧ TupsAt K H' as done ∧ H' Lf = some (.lst ((w :: r).map strW)) ∧ H' D = some (.lst (bs.map fun b => optS (lu b))) ∧ H' q = some (.lst (actWords.map V.str))
theorem LkSt.kq {K : PySem.W.Frag} {H : Hp} {a F Lf D q : Addr} {w : Ln} {n : Nat} {as : List Addr} {done : List (List V)} {r bs : List Ln} {v8 : Option V} {σ : L2.St} {H1 H2 : Hp} (h : LkSt K H a F Lf D q w n as done r bs v8 σ H1) (k : Kq [] H1 H2) : LkSt K H a F Lf D q w n as done r bs v8 σ H2 := by
  obtain ⟨h0, h1, h2, h3, h4, h5, h6⟩ := h
  exact ⟨h0, h1.trans k, k.get h2, h3.kq k, k.get h4, k.get h5, k.get h6⟩
section
variable {P : Program} {w : World} {K : PySem.W.Frag} {mg : Str → Option Value} {base : Heap}
def sp_lkeys (K : PySem.W.Frag) : Sp := fun vs H Q _ => ∃ (a : Addr) (ws : List Ln), vs = [.ref a] ∧ H a = some (.lst (ws.map strW)) ∧ ws.length ≤ 100001 ∧ (∀ x ∈ ws, x.length ≤ 100000 ∧ ∀ c ∈ x, okSign c) ∧
  (∀ xss q as H', tapeV ws = some xss → Kq [] H H' → SqT K H' q (as.map V.ref) → TupsAt K H' as xss → Q (.ref q) H') ∧ (tapeV ws = none → ∀ H', Kq [] H H' → Q .non H')
theorem sc__law_keys : FnScope ["_law_words", "_law_one", "_law_found", "_law_left", "_law_word", "_law_many", "_law_parts", "_law_bare", "_law_more"] ["_law_words"] (defScope s__law_keys) := ⟨rfl, rfl, rfl, by decide +kernel, rfl, by decide +kernel, by decide +kernel⟩
theorem ok__law_keys (T : Tx w K mg) : Fk P w K mg base 3 (Ad K d__law_keys.at_) ["_law_words"] (sp_lkeys K) := by
  have F__law_unquoted := ok__law_unquoted (P := P) (base := base) T
  refine mkF T.f__law_keys sc__law_keys rfl (fun _ _ _ _ _ _ us hl => match us, hl with | [_], _ => rfl) (fun vs H Q E h => by obtain ⟨_, _, rfl, _⟩ := h; rfl) (fun cdv A outer s H vs Q E hcd hcode hr h => ?_)
  have po : PassesOwn (model P w) (CxD P w K mg base ["_law_words", "_law_one", "_law_found", "_law_left", "_law_word", "_law_many", "_law_parts", "_law_bare", "_law_more"] d__law_keys cdv A outer s H E).A (CxD P w K mg base ["_law_words", "_law_one", "_law_found", "_law_left", "_law_word", "_law_many", "_law_parts", "_law_bare", "_law_more"] d__law_keys cdv A outer s H E).env (CxD P w K mg base ["_law_words", "_law_one", "_law_found", "_law_left", "_law_word", "_law_many", "_law_parts", "_law_bare", "_law_more"] d__law_keys cdv A outer s H E).xe := passes_of rfl
  refine ⟨_, (pss_cons (ps_asg (pe_lst pa_nil) (pg_name (i := 2) sc__law_keys.nd rfl (.inl rfl)))
      (pss_cons (ps_asg (pv 0) (pg_name (i := 3) sc__law_keys.nd rfl (.inl rfl)))
      (pss_cons (ps_while po (pt_cmpR (op_neE hr.units0) (pv 3) (pe_lst pa_nil) (nomark _)) (pss_cons (ps_asg (pe_ix ix_list (pv 3) pe_int (fun _ _ => rfl)) (pg_name (i := 4) sc__law_keys.nd rfl (.inl rfl)))
      (pss_cons (ps_asg (pe_dget2 (hu_of hr) (pe_disp (pps_cons pe_str pe_int (pps_cons pe_str pe_int (pps_cons pe_str pe_int (pps_cons pe_str pe_int pps_nil)))) (by rfl) (by rfl) (fun z => by cases z) (by decide)) (pv 4) pe_int ⟨rfl, rfl, rfl, rfl⟩) (pg_name (i := 5) sc__law_keys.nd rfl (.inl rfl)))
      (pss_cons (ps_setLc (i := 6) (own := [("_law_one", 1)]) (by rfl) sc__law_keys.nd rfl rfl (sw_true rfl rfl rfl (by decide +kernel)) (pi_list (pe_slice sl_list (pv 3) (po_some pe_int) (po_some (pv 5)))) (blkOk_by (own := [("_law_one", 1)]) (N := ["_law_words", "_law_one", "_law_found", "_law_left", "_law_word", "_law_many", "_law_parts", "_law_bare", "_law_more"]) (sc := defScope s__law_keys) (by decide +kernel)) (fun _ _ _ _ _ => (pg_name (i := 1) sc__law_keys.nd rfl (.inl rfl))) (fun _ _ _ _ _ => pts_nil) (fun _ _ _ _ _ => (pe_cF F__law_unquoted (hr.mono (by decide)) T.g__law_unquoted passL (pa_cons (pv 1) pa_nil))))
      (pss_cons (ps_asg (pe_lst (pa_cons pe_str (pa_cons pe_str (pa_cons pe_str (pa_cons pe_str (pa_cons pe_str (pa_cons pe_str (pa_cons pe_str (pa_cons pe_str (pa_cons pe_str (pa_cons pe_str pa_nil))))))))))) (pg_name (i := 7) sc__law_keys.nd rfl (.inl rfl)))
      (C8.pss_cut (ps_if ((pw_or (pt_cmpR op_lt (pe_callB call_len_seq (by rfl) T.n_len (by decide +kernel) (pa_cons (pv 3) pa_nil)) (pv 5) (nomark _)) (pw_or (pt_cmpR op_in_seq pe_non (pv 6) (by rfl)) (pw_or1 ((pw_and (pt_cmpR op_eq (pv 5) pe_int (nomark _)) (pw_and1 (pt_cmpR op_notIn_seq (pv 4) (pv 7) (by rfl))))).pt)))).pt (pss_one (ps_ret pe_non)) pss_nil)
      (C8.pss_cut (ps_if ((pw_and (pt_cmpR op_gt (pv 5) pe_int (nomark _)) (pw_and1 (pt_not (pt_chain op_le op_le pe_int (pe_callB call_len_str (by rfl) T.n_len (by decide +kernel) (pa_cons (pe_ix ix_list (pv 6) pe_int (fun _ _ => rfl)) pa_nil)) (pe_ix ix_list (pe_lst (pa_cons pe_int (pa_cons pe_int pa_nil))) (pe_callTy call_int1 (by rfl) T.n_int (by decide +kernel) (pa_cons (pe_cmpR op_eq (pv 4) pe_str (nomark _)) pa_nil)) (fun _ _ => rfl))))))).pt (pss_one (ps_ret pe_non)) pss_nil)
      (C8.pss_cut (ps_if ((pw_and (pt_cmpR op_in_seq (pv 4) (pe_tup (pa_cons pe_str (pa_cons pe_str pa_nil))) (by rfl)) (pw_and1 (pt_cmpR op_notIn_seq (pe_ix ix_list (pv 6) pe_int (fun _ _ => rfl)) (pe_callTy (call_listS rfl) (by rfl) T.n_list (by decide +kernel) (pa_cons pe_str pa_nil)) (by rfl))))).pt (pss_one (ps_ret pe_non)) pss_nil)
      (C8.pss_cut (ps_if ((pw_and (pt_cmpR op_eq (pv 4) pe_str (nomark _)) (pw_and1 (pt_cmpR op_notIn_seq (pe_ix ix_list (pv 3) pe_int (fun _ _ => rfl)) (pe_callTy (call_listS rfl) (by rfl) T.n_list (by decide +kernel) (pa_cons pe_str pa_nil)) (by rfl))))).pt (pss_one (ps_ret pe_non)) pss_nil)
      (C8.pss_cut (ps_asg (pe_ifExp (pt_cmpR op_eq (pv 4) pe_str (nomark _)) (pe_lst (pa_cons (pe_callTy call_int_str (by rfl) T.n_int (by decide +kernel) (pa_cons (pe_ix ix_list (pv 3) pe_int (fun _ _ => rfl)) pa_nil)) pa_nil)) (pe_lst pa_nil)) (pg_name (i := 8) sc__law_keys.nd rfl (.inl rfl)))
      (pss_cons (ps_expr (pe_bm PySem.F.plainAttrs_list PySem.F.slot_list_append PySem.F.type_list_append mt_append (pv 2) (pa_cons (pe_callTy call_tuple_of (by rfl) T.n_tuple (by decide +kernel) (pa_cons (pe_op op_cat (pe_op op_cat (pe_lst (pa_cons (pv 4) pa_nil)) (pe_slice sl_list (pv 6) po_none (po_some pe_int))) (pv 8)) pa_nil)) pa_nil)))
      (pss_one (ps_asg (pe_slice sl_list (pv 3) (po_some (pv 5)) po_none) (pg_name (i := 3) sc__law_keys.nd rfl (.inl rfl)))))))))))))))
      (pss_one (ps_ret (pe_ifExp (pt_chain op_lt op_lt pe_int (pe_callB call_len_seq (by rfl) T.n_len (by decide +kernel) (pa_cons (pv 2) pa_nil)) pe_int) (pe_callTy call_tuple_of (by rfl) T.n_tuple (by decide +kernel) (pa_cons (pv 2) pa_nil)) pe_non)))))), ?_⟩
  obtain ⟨a, ws, rfl, ha, hl, hok, kS, kN⟩ := h
  have hsz : sizeLine = 16777216 := sizeLine_eq
  refine ⟨line16 (by show 0 ≤ 1000000; decide), fun F nF => ⟨_, rfl, ?_⟩⟩
  have kF : Kq [] H (upd H F (.lst [])) := Kq.alloc nF
  refine ⟨fun m σ H' => ∃ Lf as done rest v1 v4 v5 v6 v7 v8, m = rest.length ∧ σ = [some (.ref a), v1, some (.ref F), some (.ref Lf), v4, v5, v6, v7, v8] ∧ Kq [] H H' ∧ H' F = some (.lst (as.map V.ref)) ∧ TupsAt K H' as done ∧ H' Lf = some (.lst (rest.map strW)) ∧ Lf ≠ F ∧ keysV ws = (keysV rest).map (done ++ ·) ∧ done.length + rest.length ≤ ws.length ∧ ∀ x ∈ rest, x ∈ ws,
    ⟨ws.length, a, [], [], ws, none, none, none, none, none, none, rfl, rfl, kF, upd_same, .nil, kF.get ha, ne_of_none ha nF, by cases keysV ws <;> rfl, by simp, fun x hx => hx⟩, ?_⟩
  rintro m σ H1 ⟨Lf, as, done, rest, v1, v4, v5, v6, v7, v8, rfl, rfl, k1, gF, hT, gL, nLF, hks, hlen, hsub⟩
  refine ⟨_, rfl, line16 (by show 0 ≤ 1000000; decide), fun e0 ne0 => ?_⟩
  have ke : Kq [] H1 (upd H1 e0 (.lst [])) := Kq.alloc ne0
  have ge0 : SqL K (upd H1 e0 (.lst [])) e0 [] := SqL.of upd_same
  have k1 := k1.trans ke
  have gF := ke.get gF
  have hT := hT.kq ke
  have gL := ke.get gL
  generalize (upd H1 e0 (.lst [])) = H2 at ke ge0 k1 gF hT gL ⊢
  clear ke
  refine ⟨Lf, e0, _, rfl, rfl, SqL.of gL, ge0, _, rfl, ?_⟩
  have tl := hT.len
  cases rest with
  | nil =>
    refine iteF ?_
    have ek : keysV ws = some done := by
      rw [hks, keysV_nil]
      show some (done ++ []) = some done
      rw [List.append_nil]
    have et : tapeV ws = if done.length = 0 ∨ 30 < done.length then none else some done := by
      unfold tapeV
      rw [ek]
    refine ⟨_, rfl, F, _, rfl, .inl (SqL.of gF), _, _, rfl, rfl, _, rfl, ?_⟩
    rw [List.length_map, tl]
    by_cases h0 : done.length = 0
    · rw [decide_eq_false (by omega)]
      rw [if_pos (.inl h0)] at et
      exact ⟨_, rfl, iteF (kN et _ k1)⟩
    · rw [decide_eq_true (by omega)]
      refine ⟨_, _, rfl, rfl, _, rfl, ?_⟩
      by_cases h30 : 30 < done.length
      · rw [decide_eq_false (by omega)]
        rw [if_pos (.inr h30)] at et
        exact iteF (kN et _ k1)
      · rw [decide_eq_true (by omega)]
        rw [if_neg (by rintro (z | z); exact h0 z; exact h30 z)] at et
        refine iteT ⟨_, rfl, F, _, rfl, .inl ⟨SqL.of gF, fun q nq => ?_⟩⟩
        have kq : Kq [] H2 (upd H2 q (.tup (as.map V.ref))) := Kq.alloc nq
        exact kS done q as _ et (k1.trans kq) (SqT.of upd_same) (hT.kq kq)
  | cons w r =>
    refine iteT ?_
    refine ⟨fun σ' H'' => ∃ Lf as done rest v1 v4 v5 v6 v7 v8, rest.length < (w :: r).length ∧ σ' = [some (.ref a), v1, some (.ref F), some (.ref Lf), v4, v5, v6, v7, v8] ∧ Kq [] H H'' ∧ H'' F = some (.lst (as.map V.ref)) ∧ TupsAt K H'' as done ∧ H'' Lf = some (.lst (rest.map strW)) ∧ Lf ≠ F ∧ keysV ws = (keysV rest).map (done ++ ·) ∧ done.length + rest.length ≤ ws.length ∧ ∀ x ∈ rest, x ∈ ws,
      fun σ' H'' ⟨Lf, as, done, rest, v1, v4, v5, v6, v7, v8, z1, z2, z3, z4, z5, z6, z7, z8, z9, z10⟩ => ⟨_, z1, Lf, as, done, rest, v1, v4, v5, v6, v7, v8, rfl, z2, z3, z4, z5, z6, z7, z8, z9, z10⟩, ?_⟩
    rw [keysV_cons] at hks
    have hw := hok w (hsub w (by simp))
    refine ⟨_, rfl, Lf, _, _, strW w, rfl, rfl, SqL.of gL, at_of (j := 0) rfl rfl, ?_⟩
    refine fun D0 nD0 => ?_
    have kD : Kq [] H2 (upd (upd H2 D0 (.dK [])) D0 (.dK manyD)) := (Kq.alloc nD0).writeF nD0 upd_same
    refine ⟨upd_same, manyD, rfl, by decide, ?_⟩
    rw [manyD_merge]
    have gD0 : (upd (upd H2 D0 (.dK [])) D0 (.dK manyD)) D0 = some (.dK manyD) := upd_same
    have k1 := k1.trans kD
    have gF := kD.get gF
    have hT := hT.kq kD
    have gL := kD.get gL
    generalize (upd (upd H2 D0 (.dK [])) D0 (.dK manyD)) = H3 at kD gD0 k1 gF hT gL ⊢
    clear kD ge0
    refine ⟨D0, rfl, .inl ⟨manyD, .inl gD0⟩, _, rfl, _, .inl ⟨manyD, .inr (S w), .inl gD0, rfl, rfl⟩, ?_⟩
    rw [manyD_get]
    generalize hn : manyW w = n at hks ⊢
    -- the words behind it
    have ecut : cutV ((w :: r).map strW) (some 1) (some (n : Int)) = (r.take (n - 1)).map strW := by
      rw [show cutV ((w :: r).map strW) (some 1) (some (n : Int)) = (((w :: r).map strW).drop 1).take (n - 1) from cut_both _ (a := 1) (b := n) rfl rfl, List.map_cons, List.drop_succ_cons, List.drop_zero, List.map_take]
    refine ⟨_, rfl, _, rfl, _, rfl, _, rfl, Lf, _, rfl, SqL.of gL, fun p np => ?_⟩
    rw [ecut]
    generalize hbs : r.take (n - 1) = bs
    have hbok : ∀ x ∈ bs, x.length ≤ 100000 ∧ ∀ c ∈ x, okSign c := fun x hx => hok x (hsub x (List.mem_cons_of_mem _ (List.mem_of_mem_take (hbs ▸ hx))))
    have hbl : bs.length ≤ 2 := by
      have := (manyW_in w).2
      rw [← hbs, List.length_take]
      omega
    have kp : Kq [] H3 (upd H3 p (.lst (bs.map strW))) := Kq.alloc np
    have gp : (upd H3 p (.lst (bs.map strW))) p = some (.lst (bs.map strW)) := upd_same
    have k1 := k1.trans kp
    have gF := kp.get gF
    have hT := hT.kq kp
    have gL := kp.get gL
    generalize (upd H3 p (.lst (bs.map strW))) = H4 at kp gp k1 gF hT gL ⊢
    clear kp np gD0
    refine ⟨p, rfl, ⟨_, SqL.of gp⟩, fun D nD => ?_⟩
    have nDF : D ≠ F := (ne_of_none gF nD).symm
    refine lc_list (K := K) (a := p) (xs := bs.map strW) (fun i H' => Kq [] H4 H' ∧ H' D = some (.lst ((bs.take i).map fun b => optS (lu b)))) ⟨Kq.alloc nD, upd_same⟩ (fun i H' _ z => SqL.of (z.1.get gp)) ?_ ?_
    · rintro i x H' hx ⟨k2, gD⟩
      rw [List.getElem?_map] at hx
      obtain ⟨b, hb, rfl⟩ := Option.map_eq_some_iff.mp hx
      refine ⟨rfl, ?_⟩
      unfold tYes
      dsimp only
      rw [if_pos rfl]
      refine ⟨_, rfl, b, rfl, (hbok b (List.mem_of_getElem? hb)).1, fun H2' k3 => ?_⟩
      refine ⟨_, k3.get gD, by rw [List.length_map, List.length_take]; exact small1000 (by omega), (k2.trans k3).writeF nD (k3.get gD), ?_⟩
      rw [upd_same, List.take_succ, hb]
      simp
    rintro H5 ⟨k2, gD⟩
    rw [List.length_map, List.take_length] at gD
    have k1 := k1.trans k2
    have gF := k2.get gF
    have hT := hT.kq k2
    have gL := k2.get gL
    clear k2 gp nD
    refine ⟨line16 (by show 10 ≤ 1000000; decide), fun q nq => ?_⟩
    have kq : Kq [] H5 (upd H5 q (.lst (actWords.map V.str))) := Kq.alloc nq
    have gq : (upd H5 q (.lst (actWords.map V.str))) q = some (.lst (actWords.map V.str)) := upd_same
    have k1 := k1.trans kq
    have gF := kq.get gF
    have hT := hT.kq kq
    have gL := kq.get gL
    have gD := kq.get gD
    show gName 7 _ _ (upd H5 q (.lst (actWords.map V.str))) _
    generalize (upd H5 q (.lst (actWords.map V.str))) = H6 at kq gq k1 gF hT gL gD ⊢
    clear kq nq
    -- what ends it
    have bad : keyB actB (keyW ((w :: r).take n)) = false → tapeV ws = none := fun h => by
      rw [if_neg (by rw [h]; decide)] at hks
      unfold tapeV
      rw [hks]
      rfl
    have wlen : ((w :: r).map strW).length = r.length + 1 := by rw [List.length_map, List.length_cons]
    have hn0 : manyW w = n := hn
    have st0 : LkSt K H a F Lf D q w n as done r bs v8 [some (.ref a), v1, some (.ref F), some (.ref Lf), some (strW w), some (.int (n : Nat)), some (.ref D), some (.ref q), v8] H6 := ⟨⟨v1, rfl⟩, k1, gF, hT, gL, gD, gq⟩
    refine ⟨fun σ' H' => LkSt K H a F Lf D q w n as done r bs v8 σ' H' ∧ n ≤ r.length + 1 ∧ (∀ b ∈ bs, ∃ s, lu b = some s) ∧ (n = 1 → actB (strW w) = true), ?_, ?_⟩
    · refine ⟨_, rfl, Lf, _, rfl, .inl (SqL.of gL), _, rfl, _, _, rfl, rfl, ?_⟩
      rw [wlen]
      refine ⟨_, rfl, ?_⟩
      by_cases c1 : r.length + 1 < n
      · rw [decide_eq_true (by omega)]
        exact iteT (kN (bad (by rw [← hn] at c1 ⊢; exact step_short c1)) _ k1)
      rw [decide_eq_false (by omega)]
      have hflat : ∀ xs : List Ln, (xs.map fun b => optS (lu b)).all flatV = true := fun xs => List.all_eq_true.mpr fun x hx => by
        obtain ⟨b, _, rfl⟩ := List.mem_map.mp hx
        cases lu b <;> rfl
      have hinN : ∀ xs : List Ln, inV .non (xs.map fun b => optS (lu b)) = true ↔ ∃ b ∈ xs, lu b = none := fun xs => by
        unfold inV
        rw [List.any_eq_true]
        constructor
        · rintro ⟨x, hx, e⟩
          obtain ⟨b, hb, rfl⟩ := List.mem_map.mp hx
          refine ⟨b, hb, ?_⟩
          cases h : lu b with
          | none => rfl
          | some s => rw [h] at e; cases e
        · rintro ⟨b, hb, e⟩
          refine ⟨_, List.mem_map.mpr ⟨b, hb, rfl⟩, ?_⟩
          rw [e]; rfl
      refine iteF ?_
      refine ⟨_, rfl, D, _, rfl, .inl (SqL.of gD), rfl, hflat bs, _, rfl, ?_⟩
      cases c2 : inV .non (bs.map fun b => optS (lu b)) with
      | true =>
        obtain ⟨b, hb, hnb⟩ := (hinN bs).mp c2
        refine iteT (kN (bad ?_) _ k1)
        rw [← hn] at c1 ⊢
        rw [← hbs, ← hn] at hb
        exact step_none (by omega) hb hnb
      | false =>
        have hlu : ∀ b ∈ bs, ∃ s, lu b = some s := fun b hb => by
          cases h : lu b with
          | some s => exact ⟨s, rfl⟩
          | none => rw [(hinN bs).mpr ⟨b, hb, h⟩] at c2; cases c2
        refine iteF ?_
        refine ⟨_, rfl, rfl, _, rfl, ?_⟩
        by_cases e1 : n = 1
        · rw [decide_eq_true (by rw [e1]; rfl)]
          refine iteT ?_
          refine ⟨_, rfl, _, rfl, q, _, rfl, .inl (SqL.of gq), rfl, rfl, _, rfl, ?_⟩
          rw [actB_in]
          cases ha : actB (strW w) with
          | true => exact iteF ⟨st0, by omega, hlu, fun _ => rfl⟩
          | false =>
            refine iteT (kN (bad ?_) _ k1)
            rw [← hn] at e1 ⊢
            exact step3_bad e1 ha
        · rw [decide_eq_false (by intro z; exact e1 (by have := V.int.inj z; omega))]
          exact iteF ⟨st0, by omega, hlu, fun z => absurd z e1⟩
    clear st0 gF hT gL gD gq k1
    rintro σ1 H7 ⟨st, hn1, hlu, h3⟩
    -- how long the word's text is
    refine ⟨fun σ' H' => LkSt K H a F Lf D q w n as done r bs v8 σ' H' ∧ (∀ b s, r[0]? = some b → 1 < n → lu b = some s → 1 ≤ s.length ∧ s.length ≤ longW w), ?_, ?_⟩
    · have st' := st
      obtain ⟨⟨v1', rfl⟩, k1, gF, hT, gL, gD, gq⟩ := st'
      refine ⟨_, rfl, _, _, rfl, rfl, _, rfl, ?_⟩
      by_cases e1 : 1 < n
      rotate_left
      · rw [decide_eq_false (by omega)]
        exact iteF ⟨st, fun b s _ z => absurd z e1⟩
      rw [decide_eq_true (by omega)]
      refine iteT ?_
      obtain ⟨b, r', er⟩ : ∃ b r', r = b :: r' := by
        cases r with
        | nil => simp at hn1; omega
        | cons b r' => exact ⟨b, r', rfl⟩
      obtain ⟨bs', ebs⟩ : ∃ bs', bs = b :: bs' := by
        rw [← hbs, er]
        obtain ⟨k, hk⟩ : ∃ k, n - 1 = k + 1 := ⟨n - 2, by omega⟩
        rw [hk]
        exact ⟨_, rfl⟩
      obtain ⟨s, hs⟩ := hlu b (by rw [ebs]; simp)
      have hbk := hbok b (by rw [ebs]; simp)
      have hsl := lu_len b s hs
      have hsok := lu_ok b s hbk.2 hs
      have e0 : (bs.map fun b => optS (lu b))[0]? = some (.str (S s)) := by rw [ebs, List.map_cons, List.getElem?_cons_zero, hs]; rfl
      have fin : (1 ≤ s.length ∧ s.length ≤ longW w) → ∀ H', Kq [] H7 H' → LkSt K H a F Lf D q w n as done r bs v8 [some (.ref a), v1', some (.ref F), some (.ref Lf), some (strW w), some (.int (n : Nat)), some (.ref D), some (.ref q), v8] H' ∧ (∀ b s, r[0]? = some b → 1 < n → lu b = some s → 1 ≤ s.length ∧ s.length ≤ longW w) := fun h H' k => ⟨st.kq k, fun b2 s2 hb2 _ hs2 => by
        rw [er] at hb2
        cases hb2
        rw [hs] at hs2
        cases hs2
        exact h⟩
      have nope : ¬ (1 ≤ s.length ∧ s.length ≤ longW w) → ∀ H', Kq [] H7 H' → Q .non H' := fun h H' k => kN (bad (by
        rw [er] at hn1 ⊢
        rw [← hn] at hn1 e1 ⊢
        exact step4_bad hn1 e1 hs hsok h)) H' (k1.trans k)
      refine ⟨_, rfl, D, _, _, _, rfl, rfl, SqL.of gD, at_of (j := 0) rfl e0, S s, rfl, by rw [S_len]; omega, _, _, rfl, rfl, _, rfl, ?_⟩
      rw [S_len]
      by_cases l1 : 1 ≤ s.length
      rotate_left
      · rw [decide_eq_false (by omega)]
        exact iteF ⟨_, rfl, iteT (nope (fun z => l1 z.1) _ Kq.refl)⟩
      rw [decide_eq_true (by omega)]
      refine iteT ?_
      refine ⟨line16 (by show 2 ≤ 1000000; decide), fun L nL => ?_⟩
      have kL : Kq [] H7 (upd H7 L (.lst [.int 1, .int 4])) := Kq.alloc nL
      have gL2 : (upd H7 L (.lst [.int 1, .int 4])) L = some (.lst [.int 1, .int 4]) := upd_same
      generalize (upd H7 L (.lst [.int 1, .int 4])) = H8 at kL gL2 ⊢
      have hlong : ([.int 1, .int 4] : List V)[if S w = Str.ofString "find" then 1 else 0]? = some (.int (longW w : Nat)) := by
        unfold longW
        split <;> rfl
      have hint : (if (decide (strW w = V.str (Str.ofString "find"))) = true then (1 : Int) else 0) = ((if S w = Str.ofString "find" then 1 else 0 : Nat) : Int) := by
        by_cases z : S w = Str.ofString "find"
        · rw [if_pos z, strW_eq z, if_pos (decide_eq_true rfl)]; rfl
        · rw [if_neg z, if_neg (by simpa [strW] using z)]; rfl
      refine ⟨_, rfl, rfl, .inr ⟨_, rfl, L, _, _, _, rfl, rfl, SqL.of gL2, at_of hint hlong, _, _, rfl, rfl, _, rfl, ?_⟩⟩
      by_cases l2 : s.length ≤ longW w
      · rw [decide_eq_true (by omega)]
        exact iteF (fin ⟨l1, l2⟩ _ kL)
      · rw [decide_eq_false (by omega)]
        exact iteT (nope (fun z => l2 z.2) _ kL)
    clear st
    rintro σ1 H7 ⟨st, h4⟩
    -- a name where one is wanted
    refine ⟨fun σ' H' => LkSt K H a F Lf D q w n as done r bs v8 σ' H' ∧ (S w = Str.ofString "play" ∨ S w = Str.ofString "till" → ∀ b s, r[0]? = some b → lu b = some s → inV (strW s) namesV = true), ?_, ?_⟩
    · have st' := st
      obtain ⟨⟨v1', rfl⟩, k1, gF, hT, gL, gD, gq⟩ := st'
      refine ⟨_, rfl, line16 (by show 2 ≤ 1000000; decide), fun L nL => ?_⟩
      have kL : Kq [] H7 (upd H7 L (.tup [.str "play", .str "till"])) := Kq.alloc nL
      have gL2 : SqT K (upd H7 L (.tup [.str "play", .str "till"])) L [.str "play", .str "till"] := SqT.of upd_same
      have gD2 := kL.get gD
      have k2 := k1.trans kL
      have st2 := st.kq kL
      generalize (upd H7 L (.tup [.str "play", .str "till"])) = H8 at kL gL2 gD2 k2 st2 ⊢
      refine ⟨L, _, rfl, .inr gL2, rfl, rfl, _, rfl, ?_⟩
      have hpt : inV (strW w) [.str "play", .str "till"] = decide (S w = Str.ofString "play" ∨ S w = Str.ofString "till") := by
        show inV (.str (S w)) (([Str.ofString "play", Str.ofString "till"] : List Str).map V.str) = _
        rw [inV_strs]
        by_cases e1 : S w = Str.ofString "play"
        · rw [decide_eq_true (.inl e1), e1]; decide +kernel
        by_cases e2 : S w = Str.ofString "till"
        · rw [decide_eq_true (.inr e2), e2]; decide +kernel
        rw [decide_eq_false (by rintro (z | z); exact e1 z; exact e2 z), List.contains_cons, List.contains_cons, beq_eq_false_iff_ne.mpr e1, beq_eq_false_iff_ne.mpr e2]
        rfl
      show if inV (strW w) [.str "play", .str "till"] = true then _ else _
      rw [hpt]
      by_cases ew : S w = Str.ofString "play" ∨ S w = Str.ofString "till"
      rotate_left
      · rw [decide_eq_false ew]
        exact iteF ⟨st2, fun z => absurd z ew⟩
      rw [decide_eq_true ew]
      refine iteT ?_
      have e1 : 1 < n := by
        rw [← hn]
        rcases many_ways w with ⟨e, m⟩ | ⟨e, m⟩ | ⟨e, m⟩ | ⟨e, m⟩ | ⟨_, _, h3, h4, m⟩
        · omega
        · omega
        · omega
        · omega
        · rcases ew with z | z
          · exact absurd z h3
          · exact absurd z h4
      obtain ⟨b, r', er⟩ : ∃ b r', r = b :: r' := by
        cases r with
        | nil => simp at hn1; omega
        | cons b r' => exact ⟨b, r', rfl⟩
      obtain ⟨bs', ebs⟩ : ∃ bs', bs = b :: bs' := by
        rw [← hbs, er]
        obtain ⟨k, hk⟩ : ∃ k, n - 1 = k + 1 := ⟨n - 2, by omega⟩
        rw [hk]
        exact ⟨_, rfl⟩
      obtain ⟨s, hs⟩ := hlu b (by rw [ebs]; simp)
      have e0 : (bs.map fun b => optS (lu b))[0]? = some (.str (S s)) := by rw [ebs, List.map_cons, List.getElem?_cons_zero, hs]; rfl
      refine ⟨_, rfl, D, _, _, _, rfl, rfl, SqL.of gD2, at_of (j := 0) rfl e0, _, rfl, line16 (by decide +kernel), fun z nz => ?_⟩
      have kz : Kq [] H8 (upd H8 z (.lst namesV)) := Kq.alloc nz
      have gz : (upd H8 z (.lst namesV)) z = some (.lst namesV) := upd_same
      rw [names_signs]
      generalize (upd H8 z (.lst namesV)) = H9 at kz gz ⊢
      refine ⟨z, _, rfl, .inl (SqL.of gz), rfl, by decide +kernel, _, rfl, ?_⟩
      show if (!inV (strW s) namesV) = true then _ else _
      cases hin : inV (strW s) namesV with
      | true => exact iteF ⟨st2.kq kz, fun _ b2 s2 hb2 hs2 => by
          rw [er] at hb2
          cases hb2
          rw [hs] at hs2
          cases hs2
          exact hin⟩
      | false => exact iteT (kN (bad (by
          rw [er] at hn1 ⊢
          rw [← hn] at hn1 ⊢
          exact step5_bad hn1 ew hs hin)) _ (k2.trans kz))
    clear st
    rintro σ1 H7 ⟨st, h5⟩
    -- a number of times
    refine ⟨fun σ' H' => LkSt K H a F Lf D q w n as done r bs v8 σ' H' ∧ (S w = Str.ofString "play" → ∀ c, r[1]? = some c → (numW c).isSome = true), ?_, ?_⟩
    · have st' := st
      obtain ⟨⟨v1', rfl⟩, k1, gF, hT, gL, gD, gq⟩ := st'
      refine ⟨_, rfl, rfl, _, rfl, ?_⟩
      by_cases ew : S w = Str.ofString "play"
      rotate_left
      · rw [decide_eq_false (by simpa [strW] using ew)]
        exact iteF ⟨st, fun z => absurd z ew⟩
      rw [show decide (strW w = V.str (Str.ofString "play")) = true by rw [strW_eq ew]; exact decide_eq_true rfl]
      refine iteT ?_
      have en : n = 3 := by
        rw [← hn]
        rcases many_ways w with ⟨e, m⟩ | ⟨e, m⟩ | ⟨e, m⟩ | ⟨e, m⟩ | ⟨_, _, h3, h4, m⟩
        · rw [ew] at e; exact absurd e (by decide +kernel)
        · rw [ew] at e; exact absurd e (by decide +kernel)
        · exact m
        · rw [ew] at e; exact absurd e (by decide +kernel)
        · exact absurd ew h3
      obtain ⟨b, c, r', er⟩ : ∃ b c r', r = b :: c :: r' := by
        match r, hn1 with
        | [], z => simp at z; omega
        | [_], z => simp at z; omega
        | b :: c :: r', _ => exact ⟨b, c, r', rfl⟩
      have e0 : ((w :: r).map strW)[2]? = some (strW c) := by rw [er]; rfl
      refine ⟨_, rfl, Lf, _, _, _, rfl, rfl, SqL.of gL, at_of (j := 2) rfl e0, _, rfl, line16 (by decide +kernel), fun z nz => ?_⟩
      have kz : Kq [] H7 (upd H7 z (.lst (signsL (Str.ofString "123456789")))) := Kq.alloc nz
      have gz : (upd H7 z (.lst (signsL (Str.ofString "123456789")))) z = some (.lst (signsL (Str.ofString "123456789"))) := upd_same
      generalize (upd H7 z (.lst (signsL (Str.ofString "123456789")))) = H9 at kz gz ⊢
      refine ⟨z, _, rfl, .inl (SqL.of gz), rfl, by decide +kernel, _, rfl, ?_⟩
      show if (!inV (strW c) (signsL (Str.ofString "123456789"))) = true then _ else _
      rw [← num_digit]
      cases hin : (numW c).isSome with
      | true => exact iteF ⟨st.kq kz, fun _ c2 hc2 => by
          rw [er] at hc2
          cases hc2
          exact hin⟩
      | false => exact iteT (kN (bad (by
          rw [er, ← hn]
          exact step6_bad ew (by cases h : numW c with | none => rfl | some k => rw [h] at hin; cases hin))) _ (k1.trans kz))
    clear st
    rintro σ1 H7 ⟨st, h6⟩
    obtain ⟨hB, hkey⟩ := step_ok (w := w) (r := r) (by rw [hn]; exact hn1) (fun b hb => by
      rw [hn, hbs] at hb
      obtain ⟨s, hs⟩ := hlu b hb
      exact ⟨s, hs, lu_ok b s (hbok b hb).2 hs⟩) (by rw [hn]; exact h3) (by rw [hn]; exact h4) h5 h6
    rw [hn] at hB hkey
    rw [hbs] at hkey
    rw [if_pos hB] at hks
    clear bad h3 h4 h5 hlu
    -- what stands behind
    refine ⟨fun σ' H' => ∃ M, LkSt K H a F Lf D q w n as done r bs (some (.ref M)) σ' H' ∧ H' M = some (.lst (if S w = Str.ofString "play" then [optN (numW (r.getD 1 []))] else [])), ?_, ?_⟩
    · have st' := st
      obtain ⟨⟨v1', rfl⟩, k1, gF, hT, gL, gD, gq⟩ := st'
      refine ⟨_, rfl, rfl, _, rfl, ?_⟩
      by_cases ew : S w = Str.ofString "play"
      · rw [strW_eq ew, decide_eq_true rfl]
        refine iteT ?_
        have en : n = 3 := by
          rw [← hn]
          rcases many_ways w with ⟨e, m⟩ | ⟨e, m⟩ | ⟨e, m⟩ | ⟨e, m⟩ | ⟨_, _, h3, h4, m⟩
          · rw [ew] at e; exact absurd e (by decide +kernel)
          · rw [ew] at e; exact absurd e (by decide +kernel)
          · exact m
          · rw [ew] at e; exact absurd e (by decide +kernel)
          · exact absurd ew h3
        obtain ⟨b, c, r', er⟩ : ∃ b c r', r = b :: c :: r' := by
          match r, hn1 with
          | [], z => simp at z; omega
          | [_], z => simp at z; omega
          | b :: c :: r', _ => exact ⟨b, c, r', rfl⟩
        have e0 : ((w :: r).map strW)[2]? = some (strW c) := by rw [er]; rfl
        obtain ⟨k, hk⟩ := Option.isSome_iff_exists.mp (h6 ew c (by rw [er]; rfl))
        obtain ⟨i1, i2, i3, i4, i5⟩ := num_int hk
        refine ⟨_, rfl, Lf, _, _, _, rfl, rfl, SqL.of gL, at_of (j := 2) rfl e0, S c, _, rfl, i1, by rw [S_len]; omega, line16 (by show 1 ≤ 1000000; decide), fun M nM => ?_⟩
        have kM : Kq [] H7 (upd H7 M (.lst [.int k])) := Kq.alloc nM
        refine ⟨M, ?_, ?_⟩
        · obtain ⟨z0, z1, z2, z3, z4, z5, z6⟩ := st.kq kM
          exact ⟨⟨v1', by rw [strW_eq ew]; rfl⟩, z1, z2, z3, z4, z5, z6⟩
        · rw [upd_same, if_pos ew, er]
          show _ = some (HO.lst [optN (numW c)])
          rw [hk]; rfl
      · rw [decide_eq_false (by simpa [strW] using ew)]
        refine iteF ?_
        refine ⟨line16 (by show 0 ≤ 1000000; decide), fun M nM => ?_⟩
        have kM : Kq [] H7 (upd H7 M (.lst [])) := Kq.alloc nM
        refine ⟨M, ?_, ?_⟩
        · obtain ⟨z0, z1, z2, z3, z4, z5, z6⟩ := st.kq kM
          exact ⟨⟨v1', rfl⟩, z1, z2, z3, z4, z5, z6⟩
        · rw [upd_same, if_neg ew]
    clear st
    rintro σ1 H7 ⟨M, ⟨⟨v1', rfl⟩, k1, gF, hT, gL, gD, gq⟩, gM⟩
    generalize hms : (if S w = Str.ofString "play" then [optN (numW (r.getD 1 []))] else []) = ms at gM hkey
    have hml : ms.length ≤ 1 := by rw [← hms]; split <;> simp
    refine ⟨_, rfl, .inl ⟨rfl, _, SqL.of gF⟩, _, rfl, line16 (by show 1 ≤ 1000000; decide), fun l1 nl1 => ?_⟩
    have kl : Kq [] H7 (upd H7 l1 (.lst [strW w])) := Kq.alloc nl1
    have gl : (upd H7 l1 (.lst [strW w])) l1 = some (.lst [strW w]) := upd_same
    have k1 := k1.trans kl
    have gF := kl.get gF
    have hT := hT.kq kl
    have gL := kl.get gL
    have gD := kl.get gD
    have gM := kl.get gM
    generalize (upd H7 l1 (.lst [strW w])) = H8 at kl gl k1 gF hT gL gD gM ⊢
    clear kl nl1 gq
    refine ⟨_, rfl, _, rfl, D, _, rfl, SqL.of gD, fun p1 np1 => ?_⟩
    rw [show cutV (bs.map fun b => optS (lu b)) none (some 1) = (bs.map fun b => optS (lu b)).take 1 from cut_take (n := 1) _ rfl]
    have kp : Kq [] H8 (upd H8 p1 (.lst ((bs.map fun b => optS (lu b)).take 1))) := Kq.alloc np1
    have gp : (upd H8 p1 (.lst ((bs.map fun b => optS (lu b)).take 1))) p1 = some (.lst ((bs.map fun b => optS (lu b)).take 1)) := upd_same
    have k1 := k1.trans kp
    have gF := kp.get gF
    have hT := hT.kq kp
    have gL := kp.get gL
    have gM := kp.get gM
    have gl := kp.get gl
    generalize hps : (bs.map fun b => optS (lu b)).take 1 = ps at kp gp k1 gF hT gL gM gl hkey ⊢
    have hpl : ps.length ≤ 1 := by rw [← hps, List.length_take]; omega
    generalize (upd H8 p1 (.lst ps)) = H9 at kp gp k1 gF hT gL gM gl ⊢
    clear kp np1 gD
    refine ⟨l1, p1, _, _, rfl, rfl, gl, gp, line16 (by show 1 + ps.length ≤ 1000000; omega), fun c1 nc1 => ?_⟩
    have kc : Kq [] H9 (upd H9 c1 (.lst ([strW w] ++ ps))) := Kq.alloc nc1
    have gc : (upd H9 c1 (.lst ([strW w] ++ ps))) c1 = some (.lst ([strW w] ++ ps)) := upd_same
    have k1 := k1.trans kc
    have gF := kc.get gF
    have hT := hT.kq kc
    have gL := kc.get gL
    have gM := kc.get gM
    generalize (upd H9 c1 (.lst ([strW w] ++ ps))) = Ha at kc gc k1 gF hT gL gM ⊢
    clear kc nc1 gl gp
    refine ⟨_, rfl, c1, M, _, _, rfl, rfl, gc, gM, line16 (by rw [List.length_append]; show 1 + ps.length + ms.length ≤ 1000000; omega), fun c2 nc2 => ?_⟩
    have kc : Kq [] Ha (upd Ha c2 (.lst ([strW w] ++ ps ++ ms))) := Kq.alloc nc2
    have gc : (upd Ha c2 (.lst ([strW w] ++ ps ++ ms))) c2 = some (.lst ([strW w] ++ ps ++ ms)) := upd_same
    have k1 := k1.trans kc
    have gF := kc.get gF
    have hT := hT.kq kc
    have gL := kc.get gL
    generalize (upd Ha c2 (.lst ([strW w] ++ ps ++ ms))) = Hb at kc gc k1 gF hT gL ⊢
    clear kc nc2 gM
    refine ⟨c2, _, rfl, .inl ⟨SqL.of gc, fun t nt => ?_⟩⟩
    have kt : Kq [] Hb (upd Hb t (.tup ([strW w] ++ ps ++ ms))) := Kq.alloc nt
    have gt : SqT K (upd Hb t (.tup ([strW w] ++ ps ++ ms))) t (keyW ((w :: r).take n)) := by
      rw [hkey]
      exact SqT.of upd_same
    have k1 := k1.trans kt
    have gF := kt.get gF
    have hT := hT.kq kt
    have gL := kt.get gL
    generalize (upd Hb t (.tup ([strW w] ++ ps ++ ms))) = Hc at kt gt k1 gF hT gL ⊢
    clear kt nt gc
    refine ⟨F, _, _, rfl, rfl, gF, ?_, ?_⟩
    · rw [List.length_map, tl]
      have := hlen
      omega
    have kw : Kf [F] Hc (upd Hc F (.lst (as.map V.ref ++ [.ref t]))) := Kf.one gF
    have gF2 : (upd Hc F (.lst (as.map V.ref ++ [.ref t]))) F = some (.lst ((as ++ [t]).map V.ref)) := by rw [upd_same, List.map_append]; rfl
    have k2 : Kq [] H (upd Hc F (.lst (as.map V.ref ++ [.ref t]))) := k1.writeF nF gF
    have hT2 := (hT.snoc gt).kf kw
    have gL2 := kw.q.gets gL (by simpa using nLF)
    generalize (upd Hc F (.lst (as.map V.ref ++ [.ref t]))) = Hd at gF2 k2 hT2 gL2 ⊢
    clear kw gF k1 hT gL gt
    refine ⟨_, rfl, _, rfl, _, rfl, Lf, _, rfl, SqL.of gL2, fun L2 nL2 => ?_⟩
    rw [show cutV ((w :: r).map strW) (some (n : Int)) none = ((w :: r).drop n).map strW by rw [show cutV ((w :: r).map strW) (some (n : Int)) none = ((w :: r).map strW).drop n from cut_drop (n := n) _ rfl, List.map_drop]]
    have kz : Kq [] Hd (upd Hd L2 (.lst (((w :: r).drop n).map strW))) := Kq.alloc nL2
    have n1 : 1 ≤ n := by rw [← hn]; exact (manyW_in w).1
    refine ⟨L2, as ++ [t], done ++ [keyW ((w :: r).take n)], (w :: r).drop n, _, _, _, _, _, _, ?_, rfl, k2.trans kz, kz.get gF2, hT2.kq kz, upd_same, (ne_of_none gF2 nL2).symm, ?_, ?_, fun x hx => hsub x (List.mem_of_mem_drop hx)⟩
    · rw [List.length_drop, List.length_cons]; omega
    · rw [hks]
      cases keysV ((w :: r).drop n) with
      | none => rfl
      | some ks => show some _ = some _; simp
    · rw [List.length_append, List.length_drop]
      rw [List.length_cons] at hlen
      show done.length + 1 + ((w :: r).length - n) ≤ _
      rw [List.length_cons]
      omega
end
end KT
set_option Elab.async false
set_option linter.all false
set_option maxRecDepth 100000
set_option maxHeartbeats 4000000
namespace KT
open PySem PySem.Spec PyProof.Rows L2
variable [GT]
theorem pre_one (s c : Nat) (r : Ln) : TL.pre [s] (c :: r) = decide (c = s) := by
  unfold TL.pre
  by_cases h : c = s
  · rw [h, decide_eq_true rfl]; simp
  · rw [decide_eq_false h]
    refine beq_eq_false_iff_ne.mpr fun e => h ?_
    have e : [c] = [s] := e
    simpa using e
theorem spl_sign (s : Nat) : ∀ (l acc x : Ln), x ∈ TL.spl [s] 0 acc l → ∀ c ∈ x, c ∈ acc ∨ (c ∈ l ∧ c ≠ s)
  | [], acc, x, h, c, hc => by
    rw [TL.spl_nil] at h
    rw [List.mem_singleton.mp h] at hc
    exact .inl hc
  | d :: r, acc, x, h, c, hc => by
    by_cases e : d = s
    · have hp : TL.pre [s] (d :: r) = true := by rw [pre_one, decide_eq_true e]
      rw [TL.spl_hit hp] at h
      rcases List.mem_cons.mp h with z | z
      · rw [z] at hc; exact .inl hc
      · have z : x ∈ TL.spl [s] 0 [] r := z
        rcases spl_sign s r [] x z c hc with y | y
        · cases y
        · exact .inr ⟨List.mem_cons_of_mem _ y.1, y.2⟩
    · have hp : TL.pre [s] (d :: r) = false := by rw [pre_one, decide_eq_false e]
      rw [TL.spl_miss hp] at h
      rcases spl_sign s r _ x h c hc with y | y
      · rcases List.mem_append.mp y with z | z
        · exact .inl z
        · rw [List.mem_singleton.mp z]
          exact .inr ⟨by simp, e⟩
      · exact .inr ⟨List.mem_cons_of_mem _ y.1, y.2⟩
theorem spl_in {s : Nat} {l x : Ln} (h : x ∈ TL.spl [s] 0 [] l) : ∀ c ∈ x, c ∈ l ∧ c ≠ s := fun c hc => by
  rcases spl_sign s l [] x h c hc with y | y
  · cases y
  · exact y
/-! names, one behind the other -/
theorem name_lt {m n : Nat} (hm : m < 8) (hn : n < 8) : decide ((nameS m).cps.toList < (nameS n).cps.toList) = decide (m < n) := by
  have key : ∀ m n : Fin 8, decide ((nameS m.1).cps.toList < (nameS n.1).cps.toList) = decide (m.1 < n.1) := by decide +kernel
  exact key ⟨m, hm⟩ ⟨n, hn⟩
theorem name_in {n : Nat} (h : n < 8) : inV (.str (nameS n)) namesV = true := by
  have key : ∀ n : Fin 8, inV (.str (nameS n.1)) namesV = true := by decide +kernel
  exact key ⟨n, h⟩
theorem name_of {l : Ln} (h : inV (strW l) namesV = true) : ∃ n, n < 8 ∧ S l = nameS n := by
  rw [← names_signs] at h
  obtain ⟨c, hc, rfl⟩ := (in_signs _ _).mp h
  rw [names_cps] at hc
  simp only [List.mem_cons, List.not_mem_nil, or_false] at hc
  refine ⟨c - 97, by omega, ?_⟩
  show S [c] = S [97 + (c - 97)]
  congr 2
  omega
theorem rises_two {m n : Nat} (hm : m < 8) (hn : n < 8) : risesB (nameS n) (nameS m) = decide (m < n) := by
  unfold risesB
  rw [name_in hn, Bool.true_and, name_lt hm hn]
theorem rises_first {n : Nat} (hn : n < 8) : risesB (nameS n) Str.empty = true := rises_name hn (.inl rfl)
/-- what stands above: the last name, and the largest -/
def AboveIs (done : List (Str × List (List V))) (u : Str) : Prop := (done = [] ∧ u = Str.empty) ∨ ∃ n0, n0 < 8 ∧ u = nameS n0 ∧ (∃ r ∈ done, r.1 = nameS n0) ∧ ∀ r ∈ done, ∃ n, n ≤ n0 ∧ r.1 = nameS n
theorem above_rises {done : List (Str × List (List V))} {u : Str} (h : AboveIs done u) {n : Nat} (hn : n < 8) : risesB (nameS n) u = decide (∀ r ∈ done, decide (r.1.cps.toList < (nameS n).cps.toList) = true) := by
  rcases h with ⟨rfl, rfl⟩ | ⟨n0, h0, rfl, ⟨r0, hr0, e0⟩, hall⟩
  · rw [rises_first hn]; simp
  · rw [rises_two h0 hn]
    refine decide_eq_decide.mpr ⟨fun h r hr => ?_, fun h => ?_⟩
    · obtain ⟨k, hk, ek⟩ := hall r hr
      rw [ek, name_lt (by omega) hn]
      exact decide_eq_true (by omega)
    · have := h r0 hr0
      rw [e0, name_lt h0 hn] at this
      exact of_decide_eq_true this
theorem above_snoc {done : List (Str × List (List V))} {u : Str} (h : AboveIs done u) {n : Nat} (hn : n < 8) (hr : risesB (nameS n) u = true) (xss : List (List V)) : AboveIs (done ++ [(nameS n, xss)]) (nameS n) := by
  refine .inr ⟨n, hn, rfl, ⟨(nameS n, xss), by simp, rfl⟩, fun r hr2 => ?_⟩
  rcases List.mem_append.mp hr2 with z | z
  · rcases h with ⟨rfl, _⟩ | ⟨n0, h0, rfl, _, hall⟩
    · cases z
    · rw [rises_two h0 hn] at hr
      have := of_decide_eq_true hr
      obtain ⟨k, hk, ek⟩ := hall r z
      exact ⟨k, by omega, ek⟩
  · rw [List.mem_singleton.mp z]
    exact ⟨n, Nat.le_refl _, rfl⟩
end KT
set_option Elab.async false
set_option linter.all false
set_option maxRecDepth 100000
set_option maxHeartbeats 4000000
namespace KT
open PySem PySem.Spec PyProof.Rows L2 GxR
variable [GT]
theorem runK_single (ed : EdSt) {ky : Ky} (h : ky.single = true) : ∃ st, runK ed ky = .fin (ed.page.does ky).isSome st ∧ st.page = (ed.page.does ky).getD ed.page := by
  unfold runK
  rw [doK_eq]
  have ha : addT ⟨ed.page, [], 0⟩ = some ⟨ed.page, [], 1⟩ := rfl
  rw [ha]
  have hp : ∀ st, playR ed.tapes (under ed.tapes 20) ky st = singleR ky st := fun st => by cases ky <;> first | rfl | cases h
  show ∃ st, playR ed.tapes (under ed.tapes 20) ky ⟨ed.page, [], 1⟩ = _ ∧ _
  rw [hp]
  unfold singleR
  cases hd : ed.page.does ky with
  | none => exact ⟨_, rfl, rfl⟩
  | some g => exact ⟨_, rfl, rfl⟩
def sp_Editor (K : PySem.W.Frag) : Sp := fun vs H Q E => ∃ ls, vs = [.str (textS ls)] ∧ ls ≠ [] ∧ goodB ls = true ∧ TabG H (tS K) ∧ ∀ m H', (∀ b ∈ m.l, H b = none) → Kq [] H H' → EdAt K H' m (EdSt.new ls) → Q (.ref m.e) H'
theorem good_parts {ls : List Ln} (hg : goodB ls = true) : ls.length ≤ 12 ∧ (∀ l ∈ ls, l.length ≤ 60) ∧ ∀ l ∈ ls, 10 ∉ l := by
  unfold goodB at hg
  simp only [Bool.and_eq_true, decide_eq_true_eq, List.all_eq_true] at hg
  have hrow : ∀ l ∈ ls, l.length ≤ 60 ∧ l.all signB = true := fun l hl => by
    have := hg.2 l hl
    unfold goodRow at this
    simp only [Bool.and_eq_true, decide_eq_true_eq] at this
    exact this
  exact ⟨hg.1, fun l hl => (hrow l hl).1, fun l hl => good_no10 (hrow l hl).2⟩
section
variable {P : Program} {w : World} {K : PySem.W.Frag} {mg : Str → Option Value} {base : Heap}
theorem new_Editor {E : XK} : ∀ vs H Q, sp_Editor K vs H Q E → ∀ x dx, H x = none → H dx = none → dx ≠ x →
    sp_Editor___init__ K (.ref x :: vs) (upd (upd H dx (.own x)) x (.ins (He.ga K "Editor") dx [])) (fun v H2 => v = .non ∧ Q (.ref x) H2) E := by
  rintro vs H Q ⟨ls, rfl, hne, hg, hT, k⟩ x dx nx ndx ne
  obtain ⟨h12, h60, h10⟩ := good_parts hg
  have k0 : Kq [] H (upd (upd H dx (.own x)) x (.ins (He.ga K "Editor") dx [])) := Kq.made nx ndx ne
  refine ⟨x, dx, ls, rfl, upd_same, hne, h10, fun l hl => Nat.le_trans (h60 l hl) (by decide), Nat.le_trans h12 (by decide), k0.tab _ hT, fun _ t pr un ud H' n1 n2 n3 n4 kq hE => ⟨rfl, k ⟨x, t, pr, un, ud⟩ H' ?_ (k0.fresh kq fun c hc => by rw [List.mem_singleton.mp hc]; exact nx) hE⟩, fun e => by rw [hg] at e; cases e⟩
  intro b hb
  simp only [EdM.l, List.mem_cons, List.not_mem_nil, or_false] at hb
  rcases hb with rfl | rfl | rfl | rfl | rfl
  · exact nx
  · exact k0.fr _ n1
  · exact k0.fr _ n2
  · exact k0.fr _ n3
  · exact k0.fr _ n4
/-- no address in both -/
def Dj (A B : List Addr) : Prop := ∀ a ∈ A, a ∉ B
theorem Dj.fresh {A B : List Addr} {H : Hp} (h : ∀ a ∈ A, H a = none) (hb : ∀ b ∈ B, H b ≠ none) : Dj A B := fun a ha hb' => hb a hb' (h a ha)
theorem Dj.step {A A' B : List Addr} {H : Hp} (d : Dj A B) (h : ∀ a ∈ A', a ∈ A ∨ H a = none) (hb : ∀ b ∈ B, H b ≠ none) : Dj A' B := fun a ha hb' => by
  rcases h a ha with z | z
  · exact d a z hb'
  · exact hb a hb' z
theorem Dj.symm {A B : List Addr} (d : Dj A B) : Dj B A := fun a ha hb => d a hb ha
theorem DrAt.some {H : Hp} {h l : Addr} (d : DrAt H h l) : ∀ b ∈ [h, l], H b ≠ none := fun b hb => by
  obtain ⟨o, e, _⟩ := d.wr b hb
  rw [e]; simp
theorem EdAt.some {K : PySem.W.Frag} {H : Hp} {m : EdM} {ed : EdSt} (h : EdAt K H m ed) : ∀ b ∈ m.l, H b ≠ none := fun b hb => by
  obtain ⟨o, e, _⟩ := h.wr b hb
  rw [e]; simp
def sp_law (K : PySem.W.Frag) : Sp := fun vs H Q _ => ∃ (a : Addr) (ns : List Int), vs = [.ref a] ∧ SqL K H a (ns.map V.int) ∧ TabG H (tS K) ∧ ∀ H', Q (.bl true) H'
end
end KT
set_option linter.all false
namespace KT
/-! ### every place of some rows -/
def posAll : Nat → List Ln → List (Nat × Nat)
  | _, [] => []
  | k, l :: ls => (List.range (l.length + 1)).map (fun n => (k, n)) ++ posAll (k + 1) ls
def off : List Ln → Nat → Nat
  | _, 0 => 0
  | [], _ + 1 => 0
  | l :: ls, r + 1 => l.length + 1 + off ls r
theorem off_succ : ∀ (ls : List Ln) (r : Nat), r < ls.length → off ls (r + 1) = off ls r + (ls.getD r []).length + 1
  | [], r, h => by simp at h
  | l :: ls, 0, _ => by show l.length + 1 + off ls 0 = 0 + l.length + 1; cases ls <;> simp [off]
  | l :: ls, r + 1, h => by
    have := off_succ ls r (by simpa using h)
    show l.length + 1 + off ls (r + 1) = l.length + 1 + off ls r + (ls.getD r []).length + 1
    omega
theorem pos_len : ∀ (k : Nat) (ls : List Ln), (posAll k ls).length = off ls ls.length
  | _, [] => rfl
  | k, l :: ls => by
    show ((List.range (l.length + 1)).map (fun n => (k, n)) ++ posAll (k + 1) ls).length = l.length + 1 + off ls ls.length
    rw [List.length_append, List.length_map, List.length_range, pos_len]
theorem pos_get : ∀ (ls : List Ln) (k r c : Nat), r < ls.length → c ≤ (ls.getD r []).length → (posAll k ls)[off ls r + c]? = some (k + r, c)
  | [], _, _, _, h, _ => by simp at h
  | l :: ls, k, 0, c, _, hc => by
    show ((List.range (l.length + 1)).map (fun n => (k, n)) ++ posAll (k + 1) ls)[0 + c]? = _
    have hc : c ≤ l.length := hc
    rw [List.getElem?_append_left (by rw [List.length_map, List.length_range]; omega), Nat.zero_add, List.getElem?_map, List.getElem?_range (by omega)]
    rfl
  | l :: ls, k, r + 1, c, h, hc => by
    show ((List.range (l.length + 1)).map (fun n => (k, n)) ++ posAll (k + 1) ls)[l.length + 1 + off ls r + c]? = _
    rw [List.getElem?_append_right (by rw [List.length_map, List.length_range]; omega), List.length_map, List.length_range, show l.length + 1 + off ls r + c - (l.length + 1) = off ls r + c by omega, pos_get ls (k + 1) r c (by simpa using h) hc]
    congr 2; omega
theorem pos_inv : ∀ (ls : List Ln) (k m r c : Nat), (posAll k ls)[m]? = some (r, c) → ∃ r', r = k + r' ∧ r' < ls.length ∧ c ≤ (ls.getD r' []).length ∧ m = off ls r' + c
  | [], _, _, _, _, h => by simp [posAll] at h
  | l :: ls, k, m, r, c, h => by
    have h : ((List.range (l.length + 1)).map (fun n => (k, n)) ++ posAll (k + 1) ls)[m]? = some (r, c) := h
    by_cases hm : m < l.length + 1
    · rw [List.getElem?_append_left (by rw [List.length_map, List.length_range]; omega), List.getElem?_map, List.getElem?_range (by omega)] at h
      have h : some (k, m) = some (r, c) := h
      cases h
      exact ⟨0, rfl, by simp, by show m ≤ l.length; omega, by simp [off]⟩
    · rw [List.getElem?_append_right (by rw [List.length_map, List.length_range]; omega), List.length_map, List.length_range] at h
      obtain ⟨r', h1, h2, h3, h4⟩ := pos_inv ls (k + 1) _ r c h
      refine ⟨r' + 1, by omega, by simp; omega, h3, ?_⟩
      show m = l.length + 1 + off ls r' + c
      omega
theorem posAll_snoc : ∀ (k : Nat) (ls : List Ln) (l : Ln), posAll k (ls ++ [l]) = posAll k ls ++ (List.range (l.length + 1)).map (fun n => (k + ls.length, n))
  | k, [], l => by simp [posAll]
  | k, a :: ls, l => by
    show (List.range (a.length + 1)).map (fun n => (k, n)) ++ posAll (k + 1) (ls ++ [l]) = _
    rw [posAll_snoc]
    show _ = (List.range (a.length + 1)).map (fun n => (k, n)) ++ posAll (k + 1) ls ++ _
    rw [List.append_assoc]
    congr 2
    simp only [List.length_cons]
    rw [show k + 1 + ls.length = k + (ls.length + 1) by omega]
/-! ### where a word stands -/
def standL (w l : Ln) (k : Nat) : List (Nat × Nat) := ((List.range l.length).filter (stands w l)).map fun n => (k, n)
def standAll (w : Ln) : Nat → List Ln → List (Nat × Nat)
  | _, [] => []
  | k, l :: ls => standL w l k ++ standAll w (k + 1) ls
theorem standAll_snoc (w : Ln) : ∀ (k : Nat) (ls : List Ln) (l : Ln), standAll w k (ls ++ [l]) = standAll w k ls ++ standL w l (k + ls.length)
  | k, [], l => by simp [standAll]
  | k, a :: ls, l => by
    show standL w a k ++ standAll w (k + 1) (ls ++ [l]) = standL w a k ++ standAll w (k + 1) ls ++ _
    rw [standAll_snoc, List.append_assoc]
    congr 3
    simp only [List.length_cons]; omega
def gtP (r c : Nat) (p : Nat × Nat) : Bool := decide (r < p.1) || (decide (r = p.1) && decide (c < p.2))
theorem firstAt_range (w l : Ln) : ∀ (n c : Nat), firstAt w l c n = ((List.range' c n).filter (stands w l)).head?
  | 0, c => rfl
  | n + 1, c => by
    unfold firstAt
    rw [List.range'_succ, List.filter_cons]
    by_cases h : stands w l c = true
    · rw [if_pos h, if_pos h]; rfl
    · rw [if_neg h, if_neg h, firstAt_range w l n (c + 1)]
theorem range_ge (n c : Nat) : (List.range n).filter (fun m => decide (c ≤ m)) = List.range' c (n - c) := by
  induction n with
  | zero => simp
  | succ n ih =>
    rw [List.range_succ, List.filter_append, ih]
    by_cases h : c ≤ n
    · rw [List.filter_cons_of_pos (by simp [h]), List.filter_nil, show n + 1 - c = (n - c) + 1 by omega, List.range'_concat, show c + 1 * (n - c) = n by omega]
    · rw [List.filter_cons_of_neg (by simp [h]), List.filter_nil, show n + 1 - c = 0 by omega, show n - c = 0 by omega]; rfl
theorem findL_eq {w l : Ln} {c : Nat} (hw : w ≠ []) : findL w l c = ((List.range l.length).filter (fun n => decide (c ≤ n) && stands w l n)).head? := by
  unfold findL
  rw [firstAt_range]
  have e : (List.range' c (l.length + 1 - c)).filter (stands w l) = (List.range' c (l.length - c)).filter (stands w l) := by
    by_cases h : c ≤ l.length
    · rw [show l.length + 1 - c = (l.length - c) + 1 by omega, List.range'_concat, List.filter_append, show c + 1 * (l.length - c) = l.length by omega]
      have : stands w l l.length = false := by
        unfold stands
        have : 0 < w.length := List.length_pos_iff.mpr hw
        rw [decide_eq_false (by omega)]; rfl
      rw [List.filter_cons_of_neg (by simp [this]), List.filter_nil, List.append_nil]
    · rw [show l.length + 1 - c = 0 by omega, show l.length - c = 0 by omega]
  rw [e, ← range_ge, List.filter_filter]
  congr 2
  funext n
  rw [Bool.and_comm]
theorem head_map {α β : Type} (f : α → β) (l : List α) : (l.map f).head? = l.head?.map f := by cases l <;> rfl
theorem head_app {α : Type} (a b : List α) : (a ++ b).head? = match a.head? with | some x => some x | none => b.head? := by cases a <;> rfl
theorem seek_row (w l : Ln) (ls : List Ln) (k c : Nat) : seek w (l :: ls) k c = match findL w l c with | some j => some (k, j) | none => seek w ls (k + 1) 0 := rfl
theorem seek_all {w : Ln} (hw : w ≠ []) (r c : Nat) : ∀ (ls : List Ln) (k : Nat), r < k → ((standAll w k ls).filter (gtP r c)).head? = seek w ls k 0
  | [], _, _ => rfl
  | l :: ls, k, hk => by
    show ((standL w l k ++ standAll w (k + 1) ls).filter (gtP r c)).head? = _
    rw [List.filter_append, head_app, seek_all hw r c ls (k + 1) (by omega)]
    have : ((standL w l k).filter (gtP r c)).head? = (findL w l 0).map fun n => (k, n) := by
      rw [findL_eq hw]
      unfold standL
      rw [List.filter_map, head_map, List.filter_filter]
      congr 2
      refine List.filter_congr fun n _ => ?_
      simp [gtP, hk]
    rw [this, seek_row]
    cases findL w l 0 <;> rfl
theorem seek_first {w : Ln} (hw : w ≠ []) (r c : Nat) : ∀ (ls : List Ln), ((standAll w r ls).filter (gtP r c)).head? = seek w ls r (c + 1)
  | [] => rfl
  | l :: ls => by
    show ((standL w l r ++ standAll w (r + 1) ls).filter (gtP r c)).head? = _
    rw [List.filter_append, head_app, seek_all hw r c ls (r + 1) (by omega)]
    have : ((standL w l r).filter (gtP r c)).head? = (findL w l (c + 1)).map fun n => (r, n) := by
      rw [findL_eq hw]
      unfold standL
      rw [List.filter_map, head_map, List.filter_filter]
      congr 2
      refine List.filter_congr fun n _ => ?_
      simp only [gtP, Function.comp]
      by_cases h : c < n
      · simp [h, Nat.succ_le_of_lt h]
      · simp [h]; omega
    rw [this, seek_row]
    cases findL w l (c + 1) <;> rfl
/-- in a row, a word that isn't empty stands where it is cut out -/
theorem stands_cut {w l : Ln} (hw : w ≠ []) (n : Nat) : stands w l n = decide ((l.drop n).take w.length = w) := by
  unfold stands
  by_cases h : (l.drop n).take w.length = w
  · have : 0 < w.length := List.length_pos_iff.mpr hw
    have hl : ((l.drop n).take w.length).length = w.length := by rw [h]
    rw [List.length_take, List.length_drop] at hl
    rw [decide_eq_true h, decide_eq_true (by omega)]; rfl
  · rw [decide_eq_false h, Bool.and_false]
/-! ### letters -/
theorem lets_all {l : Ln} {m : Nat} (h : (l.take m).all isLet = true) (hm : m ≤ l.length) : m ≤ lets l := by
  induction l generalizing m with
  | nil => simp at hm; omega
  | cons a r ih =>
    cases m with
    | zero => exact Nat.zero_le _
    | succ m =>
      simp only [List.take_succ_cons, List.all_cons, Bool.and_eq_true] at h
      have := ih h.2 (by simpa using hm)
      unfold lets at this ⊢
      rw [List.takeWhile_cons_of_pos h.1]
      simp only [List.length_cons]
      omega
theorem lets_not {l : Ln} {m : Nat} (h : ¬ (l.take m).all isLet = true) : lets l < m := by
  induction l generalizing m with
  | nil => simp at h
  | cons a r ih =>
    cases m with
    | zero => simp at h
    | succ m =>
      unfold lets
      by_cases ha : isLet a = true
      · rw [List.takeWhile_cons_of_pos ha]
        have := ih (m := m) (by intro z; apply h; simp only [List.take_succ_cons, List.all_cons, Bool.and_eq_true]; exact ⟨ha, z⟩)
        unfold lets at this
        simp only [List.length_cons]
        omega
      · rw [List.takeWhile_cons_of_neg ha]; simp
end KT
namespace KT
theorem pos_lt {ls : List Ln} {r c : Nat} (h : r < ls.length) (hc : c ≤ (ls.getD r []).length) : off ls r + c < (posAll 0 ls).length := by
  have := pos_get ls 0 r c h hc
  exact (List.getElem?_eq_some_iff.mp this).1
theorem pos_at {ls : List Ln} {r c : Nat} (h : r < ls.length) (hc : c ≤ (ls.getD r []).length) : (posAll 0 ls)[off ls r + c]? = some (r, c) := by
  rw [pos_get ls 0 r c h hc, Nat.zero_add]
theorem lr_math {g : Pg} (hg : g.Ok) (b : Bool) {a : Int} (ea : a = ((off g.rows g.row + g.col : Nat) : Int) + (bif b then -1 else 1)) :
    (∀ n : Nat, a = n → n < (posAll 0 g.rows).length → ∃ r c, (posAll 0 g.rows)[n]? = some (r, c) ∧ (bif b then g.left else g.right) = some (g.at_ r c)) ∧ ((a < 0 ∨ ((posAll 0 g.rows).length : Int) ≤ a) → (bif b then g.left else g.right) = none) := by
  have hr := hg.row
  have hc : g.col ≤ (g.rows.getD g.row []).length := hg.col
  have hlen := pos_len 0 g.rows
  cases b with
  | true =>
    have ea : a = ((off g.rows g.row + g.col : Nat) : Int) - 1 := by rw [ea]; show _ + (-1) = _; omega
    show (∀ n : Nat, a = n → n < (posAll 0 g.rows).length → ∃ r c, (posAll 0 g.rows)[n]? = some (r, c) ∧ g.left = some (g.at_ r c)) ∧ ((a < 0 ∨ ((posAll 0 g.rows).length : Int) ≤ a) → g.left = none)
    unfold Pg.left
    by_cases h0 : 0 < g.col
    · rw [if_pos h0]
      refine ⟨fun n en _ => ⟨g.row, g.col - 1, ?_, rfl⟩, fun h => ?_⟩
      · rw [show n = off g.rows g.row + (g.col - 1) by omega]
        exact pos_at hr (by omega)
      · have := pos_lt hr hc
        omega
    · rw [if_neg h0]
      by_cases h1 : g.row = 0
      · rw [if_pos h1]
        refine ⟨fun n en _ => ?_, fun _ => rfl⟩
        have : off g.rows g.row = 0 := by rw [h1]; cases g.rows <;> rfl
        omega
      · rw [if_neg h1]
        have hs := off_succ g.rows (g.row - 1) (by omega)
        rw [show g.row - 1 + 1 = g.row by omega] at hs
        refine ⟨fun n en _ => ⟨_, _, ?_, rfl⟩, fun h => ?_⟩
        · rw [show n = off g.rows (g.row - 1) + (g.rows.getD (g.row - 1) []).length by omega]
          exact pos_at (by omega) (Nat.le_refl _)
        · have := pos_lt hr hc
          omega
  | false =>
    have ea : a = ((off g.rows g.row + g.col : Nat) : Int) + 1 := ea
    show (∀ n : Nat, a = n → n < (posAll 0 g.rows).length → ∃ r c, (posAll 0 g.rows)[n]? = some (r, c) ∧ g.right = some (g.at_ r c)) ∧ ((a < 0 ∨ ((posAll 0 g.rows).length : Int) ≤ a) → g.right = none)
    unfold Pg.right Pg.line
    by_cases h0 : g.col < (g.rows.getD g.row []).length
    · rw [if_pos h0]
      have := pos_lt hr (Nat.succ_le_of_lt h0)
      refine ⟨fun n en _ => ⟨g.row, g.col + 1, ?_, rfl⟩, fun h => ?_⟩
      · rw [show n = off g.rows g.row + (g.col + 1) by omega]
        exact pos_at hr (by omega)
      · omega
    · rw [if_neg h0]
      have hs := off_succ g.rows g.row hr
      by_cases h1 : g.row + 1 = g.rows.length
      · rw [if_pos h1]
        refine ⟨fun n en hn => ?_, fun _ => rfl⟩
        rw [hlen, ← h1, hs] at hn
        omega
      · rw [if_neg h1]
        have := pos_lt (ls := g.rows) (r := g.row + 1) (c := 0) (by omega) (Nat.zero_le _)
        refine ⟨fun n en _ => ⟨_, _, ?_, rfl⟩, fun h => ?_⟩
        · rw [show n = off g.rows (g.row + 1) + 0 by omega]
          exact pos_at (by omega) (Nat.zero_le _)
        · omega
theorem posAll_len : ∀ (k : Nat) (ls : List Ln), (∀ l ∈ ls, l.length ≤ 60) → (posAll k ls).length ≤ ls.length * 61
  | _, [], _ => Nat.zero_le _
  | k, l :: ls, h => by
    have h1 := h l (by simp)
    have h2 := posAll_len (k + 1) ls fun x hx => h x (by simp [hx])
    show ((List.range (l.length + 1)).map (fun n => (k, n)) ++ posAll (k + 1) ls).length ≤ _
    rw [List.length_append, List.length_map, List.length_range]
    simp only [List.length_cons]
    omega
end KT
namespace KT
theorem standAll_len (w : Ln) : ∀ (k : Nat) (ls : List Ln), (∀ l ∈ ls, l.length ≤ 60) → (standAll w k ls).length ≤ ls.length * 60
  | _, [], _ => Nat.zero_le _
  | k, l :: ls, h => by
    have h1 := h l (by simp)
    have h2 := standAll_len w (k + 1) ls fun x hx => h x (by simp [hx])
    have h3 : (standL w l k).length ≤ l.length := by
      unfold standL
      rw [List.length_map]
      exact Nat.le_trans (List.length_filter_le _ _) (by rw [List.length_range]; omega)
    show (standL w l k ++ standAll w (k + 1) ls).length ≤ _
    rw [List.length_append]
    simp only [List.length_cons]
    omega
end KT
set_option Elab.async false
set_option linter.all false
set_option maxRecDepth 100000
set_option maxHeartbeats 4000000
namespace KT
open PySem PySem.Spec PyProof.Rows L2 GxR
variable [GT]
theorem small1000le {n : Nat} (h : n ≤ 1000) : n ≤ sizeLine := Nat.le_of_lt (small1000 h)
/-! ### the law's sheet -/
def sheet (lr pl : Addr) (cl : Str) (m : Int) (ka : Addr) : List (Key × V) := [(.inr "rows", .ref lr), (.inr "place", .ref pl), (.inr "clip", .str cl), (.inr "many", .int m), (.inr "keys", .ref ka)]
section
variable (lr pl lr' pl' : Addr) (cl cl' : Str) (m m' : Int) (ka ka' : Addr)
theorem sheet_merge : mergeK [] (sheet lr pl cl m ka) = sheet lr pl cl m ka := by kernel_rfl
theorem sheet_rows : valV (sheet lr pl cl m ka) (.inr "rows") = some (.ref lr) := by kernel_rfl
theorem sheet_place : valV (sheet lr pl cl m ka) (.inr "place") = some (.ref pl) := by kernel_rfl
theorem sheet_clip : valV (sheet lr pl cl m ka) (.inr "clip") = some (.str cl) := by kernel_rfl
theorem sheet_many : valV (sheet lr pl cl m ka) (.inr "many") = some (.int m) := by kernel_rfl
theorem sheet_keys : valV (sheet lr pl cl m ka) (.inr "keys") = some (.ref ka) := by kernel_rfl
theorem put_rows : putK (sheet lr pl cl m ka) (.inr "rows") (.ref lr') = sheet lr' pl cl m ka := by kernel_rfl
theorem put_place : putK (sheet lr pl cl m ka) (.inr "place") (.ref pl') = sheet lr pl' cl m ka := by kernel_rfl
theorem put_clip : putK (sheet lr pl cl m ka) (.inr "clip") (.str cl') = sheet lr pl cl' m ka := by kernel_rfl
theorem put_many : putK (sheet lr pl cl m ka) (.inr "many") (.int m') = sheet lr pl cl m' ka := by kernel_rfl
theorem put_keys : putK (sheet lr pl cl m ka) (.inr "keys") (.ref ka') = sheet lr pl cl m ka' := by kernel_rfl
end
theorem dget {H : Hp} {s : Addr} {kvs : List (Key × V)} {z : Str} {v : V} (h : H s = some (.dK kvs)) (e : valV kvs (.inr z) = some v) : DGet H s (.str z) (some v) := .inl ⟨kvs, .inr z, .inl h, rfl, e.symm⟩
theorem dput {H : Hp} {s : Addr} {kvs kvs' : List (Key × V)} {z : Str} {v : V} (h : H s = some (.dK kvs)) (hl : kvs.length ≤ 1000) (e : putK kvs (.inr z) v = kvs') : DPut H s (.str z) v (upd H s (.dK kvs')) := .inl ⟨kvs, .inr z, h, rfl, small1000 hl, by rw [e]⟩
structure ShM where
  s : Addr
  lr : Addr
  ka : Addr
def ShM.l (m : ShM) : List Addr := [m.s, m.lr, m.ka]
def ShAt (K : PySem.W.Frag) (H : Hp) (sm : ShM) (g : Pg) (m : Int) (kl : List Ky) : Prop := ∃ pl as, H sm.s = some (.dK (sheet sm.lr pl (S g.clip) m sm.ka)) ∧ H sm.lr = some (.lst (rowsV g.rows)) ∧ H pl = some (.tup [.int g.row, .int g.col]) ∧ H sm.ka = some (.lst (as.map V.ref)) ∧ KeysAt K H as kl
theorem ShAt.kf {K : PySem.W.Frag} {S : List Addr} {H H1 : Hp} {sm : ShM} {g : Pg} {m : Int} {kl : List Ky} (h : ShAt K H sm g m kl) (k : Kf S H H1) (d : ∀ b ∈ sm.l, b ∉ S) : ShAt K H1 sm g m kl := by
  obtain ⟨pl, as, h1, h2, h3, h4, h5⟩ := h
  exact ⟨pl, as, k.q.gets h1 (d _ (by simp [ShM.l])), k.q.gets h2 (d _ (by simp [ShM.l])), k.get h3 rfl, k.q.gets h4 (d _ (by simp [ShM.l])), k.keys h5⟩
theorem ShAt.kq {K : PySem.W.Frag} {H H1 : Hp} {sm : ShM} {g : Pg} {m : Int} {kl : List Ky} (h : ShAt K H sm g m kl) (k : Kq [] H H1) : ShAt K H1 sm g m kl := h.kf (Kf.of (S := []) k (fun b hb => absurd hb (by simp))) (fun b _ => by simp)
theorem ShAt.wr {K : PySem.W.Frag} {H : Hp} {sm : ShM} {g : Pg} {m : Int} {kl : List Ky} (h : ShAt K H sm g m kl) : ∀ b ∈ [sm.s], ∃ o, H b = some o ∧ mutO o = true := by
  obtain ⟨pl, as, h1, _⟩ := h
  intro b hb
  rw [List.mem_singleton.mp hb]
  exact ⟨_, h1, rfl⟩
/-! ### two pairs of numbers -/
theorem op_gtP {X : Cx} (hu : X.A.units < cLine) : OpR X (compareOp .Gt) (fun x y H Q => ∃ (a b : Addr) (p q : Nat × Nat), x = .ref a ∧ y = .ref b ∧ H a = some (.tup [.int p.1, .int p.2]) ∧ H b = some (.tup [.int q.1, .int q.2]) ∧ Q (.bl (gtP q.1 q.2 p)) H) := by
  intro pins s σ H x y v u Q I rx ry h
  obtain ⟨a, b, p, q, e1, e2, ha, hb, k⟩ := h
  subst e1 e2
  cases rx
  cases ry
  obtain ⟨is1, v1, t1, _⟩ := I.tuple (SqT.of (K := X.K) ha)
  obtain ⟨is2, v2, t2, _⟩ := I.tuple (SqT.of (K := X.K) hb)
  have i1 : IntsAre is1 [(p.1 : Int), (p.2 : Int)] := L2.intsAre_of v1
  have i2 : IntsAre is2 [(q.1 : Int), (q.2 : Int)] := L2.intsAre_of v2
  have l1 := i1.length
  have l2 := i2.length
  have hR := Ob.RcOp.tuples_gt (A := X.A) (s := s) (e := fun j => ([(p.1 : Int), (p.2 : Int)].getD j 0) == ([(q.1 : Int), (q.2 : Int)].getD j 0)) (r := fun j => decide (([(p.1 : Int), (p.2 : Int)].getD j 0) > ([(q.1 : Int), (q.2 : Int)].getD j 0))) t1 t2 hu
    (fun j h1 h2 => by
      obtain ⟨t, e⟩ := i1.int_at j _ (List.getElem?_eq_getElem (by simpa using h1))
      obtain ⟨t', e'⟩ := i2.int_at j _ (List.getElem?_eq_getElem (by simpa using h2))
      rw [List.getElem_toArray, List.getElem_toArray, e, e']
      exact SeqAt.EqAt.int_int _ _ _ _)
    (fun j h1 h2 _ => by
      obtain ⟨t, e⟩ := i1.int_at j _ (List.getElem?_eq_getElem (by simpa using h1))
      obtain ⟨t', e'⟩ := i2.int_at j _ (List.getElem?_eq_getElem (by simpa using h2))
      rw [List.getElem_toArray, List.getElem_toArray, e, e']
      exact Ob.RcOp.gt_int _ _ _ _)
  have e : Ob.lexAt (fun j => ([(p.1 : Int), (p.2 : Int)].getD j 0) == ([(q.1 : Int), (q.2 : Int)].getD j 0)) (fun j => decide (([(p.1 : Int), (p.2 : Int)].getD j 0) > ([(q.1 : Int), (q.2 : Int)].getD j 0))) (decide (is1.toArray.size > is2.toArray.size)) 0 (min is1.toArray.size is2.toArray.size) = gtP q.1 q.2 p := by
    have s1 : is1.toArray.size = 2 := by simpa using l1
    have s2 : is2.toArray.size = 2 := by simpa using l2
    rw [s1, s2]
    simp only [Ob.lexAt, gtP, Nat.min_self]
    by_cases h1 : q.1 < p.1 <;> by_cases h2 : q.1 = p.1 <;> by_cases h3 : q.2 < p.2 <;> simp_all <;> omega
  rw [e] at hR
  exact hR _ _ _ _ ⟨.bl (gtP q.1 q.2 p), H, I, rfl, k⟩
/-! ### a comprehension over the signs of a text -/
theorem lc_signs {x : Str} {g : TG} {tt : TT} {te : TE} {vs : List Nat} {σ : L2.St} {H1 : Hp} {D : Addr} {Qd : Hp → Prop} (Pv : Nat → Hp → Prop) (h0 : Pv 0 (upd H1 D (.lst [])))
    (hs : ∀ (i c : Nat) (H : Hp), x.cps[i]? = some c → Pv i H → g (.str ⟨#[c]⟩) (wipe σ vs) H fun σ2 H2 => wipe σ2 vs = wipe σ vs ∧ tt σ2 H2 fun b H3 => if b = true then te σ2 H3 fun y H4 => ∃ acc, H4 D = some (HO.lst acc) ∧ acc.length < sizeLine ∧ Pv (i + 1) (upd H4 D (HO.lst (acc ++ [y]))) else Pv (i + 1) H3)
    (hd : ∀ H, Pv x.cps.size H → Qd H) : ∃ W : Nat → Nat → Hp → Prop, (∃ m, W 0 m (upd H1 D (HO.lst []))) ∧ ∀ (i m : Nat) (H : Hp), W i m H → (Its x).stop i H ∧ Qd H ∨ (Its x).go i H ∧ ∃ Nx : Hp → Prop, (∀ (H' : Hp), Nx H' → ∃ m', m' < m ∧ W (i + 1) m' H') ∧ ∀ (v : V) (H' : Hp), (Its x).yld i H v H' → g v (wipe σ vs) H' fun σ2 H2 => wipe σ2 vs = wipe σ vs ∧ tt σ2 H2 fun b H3 => if b = true then te σ2 H3 fun y H4 => ∃ acc, H4 D = some (HO.lst acc) ∧ acc.length < sizeLine ∧ Nx (upd H4 D (HO.lst (acc ++ [y]))) else Nx H3 := by
  refine ⟨fun i m H => i ≤ x.cps.size ∧ m = x.cps.size - i ∧ Pv i H, ⟨_, Nat.zero_le _, rfl, h0⟩, ?_⟩
  rintro i m H ⟨hi, rfl, hp⟩
  by_cases h : i < x.cps.size
  · refine .inr ⟨h, Pv (i + 1), fun H' z => ⟨_, by omega, h, rfl, z⟩, ?_⟩
    rintro v H' ⟨rfl, c, hc, rfl⟩
    exact hs i c _ hc hp
  · refine .inl ⟨by show x.cps.size ≤ i; omega, hd H ?_⟩
    have : i = x.cps.size := by omega
    rw [← this]; exact hp
section
variable {P : Program} {w : World} {K : PySem.W.Frag} {mg : Str → Option Value} {base : Heap}
def sp_state (K : PySem.W.Frag) : Sp := fun vs H Q _ => ∃ ls, vs = [.str (textS ls)] ∧ ls ≠ [] ∧ goodB ls = true ∧ ∀ s lr ka H', H s = none → H lr = none → H ka = none → Kq [] H H' → ShAt K H' ⟨s, lr, ka⟩ ⟨ls, 0, 0, []⟩ 0 [] → Q (.ref s) H'
theorem edF_no_text (p t : Addr) (r : V) (pr un ud : Addr) : (edF p t r pr un ud).lookup ("text" : Str) = none := by kernel_rfl
theorem edF_no_place (p t : Addr) (r : V) (pr un ud : Addr) : (edF p t r pr un ud).lookup ("place" : Str) = none := by kernel_rfl
theorem edF_no_clip (p t : Addr) (r : V) (pr un ud : Addr) : (edF p t r pr un ud).lookup ("clip" : Str) = none := by kernel_rfl
theorem edF_no_press (p t : Addr) (r : V) (pr un ud : Addr) : (edF p t r pr un ud).lookup ("press" : Str) = none := by kernel_rfl
theorem zip2 {R : V → V → Prop} {a b a' b' : V} (h0 : R a a') (h1 : R b b') : ∀ (i : Nat) (x y : V), ([a, b] : List V)[i]? = some x → ([a', b'] : List V)[i]? = some y → R x y
  | 0, x, y, hx, hy => by cases hx; cases hy; exact h0
  | 1, x, y, hx, hy => by cases hx; cases hy; exact h1
  | n + 2, x, y, hx, hy => by simp at hx
theorem zip3 {R : V → V → Prop} {a b c a' b' c' : V} (h0 : R a a') (h1 : R b b') (h2 : R c c') : ∀ (i : Nat) (x y : V), ([a, b, c] : List V)[i]? = some x → ([a', b', c'] : List V)[i]? = some y → R x y
  | 0, x, y, hx, hy => by cases hx; cases hy; exact h0
  | 1, x, y, hx, hy => by cases hx; cases hy; exact h1
  | 2, x, y, hx, hy => by cases hx; cases hy; exact h2
  | n + 3, x, y, hx, hy => by simp at hx
def sp_is (K : PySem.W.Frag) : Sp := fun vs H Q _ => ∃ m ed sm mm kl, vs = [.ref m.e, .ref sm.s] ∧ EdAt K H m ed ∧ ShAt K H sm ed.page mm kl ∧ ∀ H', Kq [] H H' → Q (.bl true) H'
def sp_set (K : PySem.W.Frag) : Sp := fun vs H Q _ => ∃ (sm : ShM) (g : Pg) (m : Int) (kl : List Ky) (low high : Nat) (L : List Ln) (ra pa : Addr) (r c : Nat), vs = [.ref sm.s, .int low, .int high, .ref ra, .ref pa] ∧ ShAt K H sm g m kl ∧ H ra = some (.lst (rowsV L)) ∧ H pa = some (.tup [.int r, .int c]) ∧ g.rows.length ≤ 12 ∧ L.length ≤ 2 ∧
  ∀ lr H', H lr = none → Kf [sm.s] H H' → ShAt K H' ⟨sm.s, lr, sm.ka⟩ ⟨g.rows.take low ++ L ++ g.rows.drop high, r, c, g.clip⟩ m kl → Q (.bl true) H'
end
end KT
set_option Elab.async false
set_option linter.all false
set_option maxRecDepth 100000
set_option maxHeartbeats 4000000
namespace KT
open PySem PySem.Spec PyProof.Rows L2 GxR
variable [GT]
/-! ### objects that are changed side by side -/
theorem edF_no_tape (p t : Addr) (r : V) (pr un ud : Addr) : (edF p t r pr un ud).lookup ("tape" : Str) = none := by kernel_rfl
theorem edF_no_tape_of (p t : Addr) (r : V) (pr un ud : Addr) : (edF p t r pr un ud).lookup ("tape_of" : Str) = none := by kernel_rfl
theorem edF_no_hand (p t : Addr) (r : V) (pr un ud : Addr) : (edF p t r pr un ud).lookup ("hand" : Str) = none := by kernel_rfl
theorem edF_no_record (p t : Addr) (r : V) (pr un ud : Addr) : (edF p t r pr un ud).lookup ("record" : Str) = none := by kernel_rfl
theorem edF_no_stop (p t : Addr) (r : V) (pr un ud : Addr) : (edF p t r pr un ud).lookup ("stop" : Str) = none := by kernel_rfl
theorem edF_no_back (p t : Addr) (r : V) (pr un ud : Addr) : (edF p t r pr un ud).lookup ("back" : Str) = none := by kernel_rfl
theorem edF_no_forth (p t : Addr) (r : V) (pr un ud : Addr) : (edF p t r pr un ud).lookup ("forth" : Str) = none := by kernel_rfl
theorem Kq.over {S S' : List Addr} {H H1 H2 : Hp} (a : Kq S H H1) (b : Kq S' H1 H2) (h : ∀ c ∈ S', c ∈ S ∨ H c = none) : Kq S H H2 :=
  ⟨fun c o q n m => b.at_ c o (a.at_ c o q n m) n (fun z => (h c z).elim m (fun e => absurd (q.symm.trans e) (by simp))), fun p q => b.tab p (a.tab p q), fun c q => a.fr c (b.fr c q), fun p m q => b.tabS p m (a.tabS p m q)⟩
theorem Kf.over {S S' : List Addr} {H H1 H2 : Hp} (a : Kf S H H1) (b : Kf S' H1 H2) (h : ∀ c ∈ S', c ∈ S ∨ H c = none) : Kf S H H2 :=
  ⟨a.q.over b.q h, a.w, fun c hc => by
    obtain ⟨o, h1, h2⟩ := a.w' c hc
    by_cases e : c ∈ S'
    · exact b.w' c e
    · exact ⟨o, b.q.at_ c o h1 (mut_noTbl h2) e, h2⟩⟩
theorem press_fr {m m' : EdM} {H : Hp} (f1 : m'.e = m.e) (f2 : m'.t = m.t) (f3 : m'.pr = m.pr) (f4 : m'.un = m.un) (f5 : m'.ud = m.ud ∨ H m'.ud = none) : ∀ b ∈ m'.l, b ∈ m.l ∨ H b = none := by
  intro c hc
  simp only [EdM.l, List.mem_cons, List.not_mem_nil, or_false] at hc
  rcases hc with rfl | rfl | rfl | rfl | rfl
  · exact .inl (by rw [f1]; simp [EdM.l])
  · exact .inl (by rw [f2]; simp [EdM.l])
  · exact .inl (by rw [f3]; simp [EdM.l])
  · exact .inl (by rw [f4]; simp [EdM.l])
  · rcases f5 with e | e
    · exact .inl (by rw [e]; simp [EdM.l])
    · exact .inr e
theorem doneE_p (ed : EdSt) (ky : Ky) (g : Pg) : (doneE ed ky g).pressed.length ≤ ed.pressed.length + 1 := by
  show (if ed.taped.isSome = true then ed.pressed ++ [ky] else ed.pressed).length ≤ _
  split
  · rw [List.length_append]; simp
  · omega
theorem doneE_u (ed : EdSt) (ky : Ky) (g : Pg) : (doneE ed ky g).units.length ≤ ed.units.length + 1 := by
  show (if g.rows = ed.page.rows then ed.units else ed.units ++ [(ed.page, g)]).length ≤ _
  split
  · omega
  · rw [List.length_append]; simp
theorem doneE_d (ed : EdSt) (ky : Ky) (g : Pg) : (doneE ed ky g).undone.length ≤ ed.undone.length := by
  show (if g.rows = ed.page.rows then ed.undone else []).length ≤ _
  split
  · omega
  · simp
theorem fresh_ne {H : Hp} {S : List Addr} (w : ∀ b ∈ S, H b ≠ none) {p : Addr} (h : H p = none) : p ∉ S := fun z => w p z h
theorem sh_fr {H : Hp} {so lr ka : Addr} (a : H so = none) (b : H lr = none) (c : H ka = none) : ∀ x ∈ (⟨so, lr, ka⟩ : ShM).l, H x = none := by
  intro x hx
  simp only [ShM.l, List.mem_cons, List.not_mem_nil, or_false] at hx
  rcases hx with rfl | rfl | rfl <;> assumption
theorem joinL_mem {s : List Nat} : ∀ {ls : List (List Nat)} {c : Nat}, c ∈ TL.joinL s ls → c ∈ s ∨ ∃ l ∈ ls, c ∈ l
  | [], c, h => by cases h
  | [l], c, h => .inr ⟨l, by simp, h⟩
  | l :: m :: r, c, h => by
    rcases List.mem_append.mp (show c ∈ l ++ (s ++ TL.joinL s (m :: r)) from h) with z | z
    · exact .inr ⟨l, by simp, z⟩
    · rcases List.mem_append.mp z with z | z
      · exact .inl z
      · exact (joinL_mem z).imp id fun ⟨x, h1, h2⟩ => ⟨x, by simp [List.mem_cons.mp h1], h2⟩
theorem textS_mem {ls : List Ln} (h : ∀ l ∈ ls, ∀ c ∈ l, okSign c) : ∀ c ∈ TL.tl (textS ls), c ≤ 126 := by
  intro c hc
  unfold textS at hc
  rw [TL.join_eq, TL.tl_join, S_tls, nl_eq] at hc
  rcases joinL_mem hc with z | ⟨l, h1, h2⟩
  · rw [List.mem_singleton.mp z]; omega
  · exact (h l h1 c h2).2
theorem strOk_text {ls : List Ln} (h : ∀ l ∈ ls, ∀ c ∈ l, okSign c) : PyData.strOk (textS ls) = true := by
  unfold PyData.strOk
  rw [Array.all_eq_true_iff_forall_mem]
  intro c hc
  have hc : c ∈ (textS ls).cps.toList := by simpa using hc
  refine decide_eq_true ?_
  have := textS_mem h c hc
  omega
end KT
set_option Elab.async false
set_option linter.all false
set_option maxRecDepth 100000
set_option maxHeartbeats 4000000
namespace KT
open PySem PySem.Spec PyProof.Rows L2 GxR
variable [GT]
/-! ### tapes held against tapes -/
def vD : V → PyData
  | .str z => .str z
  | .int i => .int i
  | _ => .none
def keyD (k : Ky) : PyData := .tuple ((keyV k).map vD)
def tapeD (ks : List Ky) : PyData := .tuple (ks.map keyD)
theorem dp_small {K : PySem.W.Frag} {H : Hp} : ∀ xs : List V, (∀ x ∈ xs, smallV x) → DpAll K H xs (xs.map vD)
  | [], _ => .nil
  | x :: r, h => by
    have h1 := h x (by simp)
    have h2 := dp_small (K := K) (H := H) r fun y hy => h y (by simp [hy])
    cases x with
    | str z => exact .cons (.str z) h2
    | int i => exact .cons (.int i) h2
    | _ => exact h1.elim
theorem dp_keys {K : PySem.W.Frag} {H : Hp} {as : List Addr} {ks : List Ky} (h : KeysAt K H as ks) (hok : ∀ k ∈ ks, k.Ok) : DpAll K H (as.map V.ref) (ks.map keyD) := by
  induction h with
  | nil => exact .nil
  | @cons a k as ks h _ ih => exact .cons (.tup h (dp_small _ (keyV_small (hok k (by simp))))) (ih fun x hx => hok x (by simp [hx]))
theorem strOk_name {n : Nat} (h : n < 8) : PyData.strOk (nameS n) = true := strOk_sig (l := [97 + n]) fun c hc => by rw [List.mem_singleton.mp hc]; exact ⟨by omega, by omega⟩
theorem lay_key {k : Ky} (h : k.Ok) : PyData.canLay0 (keyD k) = true := by
  have e : PyData.canLay0 (keyD k) = PyData.canLayAll0 ((keyV k).map vD) := by unfold keyD; simp [PyData.canLay0]
  rw [e]
  cases k with
  | put s =>
    have := strOk_sig h.2
    have w0 : PyData.strOk "put" = true := by decide +kernel
    simp [keyV, vD, PyData.canLayAll0, PyData.canLay0, this, w0]
  | find s =>
    have := strOk_sig h.2.2
    have w0 : PyData.strOk "find" = true := by decide +kernel
    simp [keyV, vD, PyData.canLayAll0, PyData.canLay0, this, w0]
  | play n m =>
    have := strOk_name h.1
    have w0 : PyData.strOk "play" = true := by decide +kernel
    simp [keyV, vD, PyData.canLayAll0, PyData.canLay0, this, w0]
  | till n =>
    have := strOk_name h
    have w0 : PyData.strOk "till" = true := by decide +kernel
    simp [keyV, vD, PyData.canLayAll0, PyData.canLay0, this, w0]
  | _ => decide +kernel
theorem lay_keys : ∀ ks : List Ky, (∀ k ∈ ks, k.Ok) → PyData.canLayAll0 (ks.map keyD) = true
  | [], _ => rfl
  | k :: r, h => by
    show (PyData.canLay0 (keyD k) && PyData.canLayAll0 (r.map keyD)) = true
    rw [lay_key (h k (by simp)), lay_keys r fun x hx => h x (by simp [hx])]; rfl
theorem depth_small : ∀ xs : List V, PyData.depthAll (xs.map vD) = 0
  | [] => rfl
  | x :: r => by
    show max (PyData.depth (vD x)) (PyData.depthAll (r.map vD)) = 0
    rw [depth_small r]
    cases x <;> rfl
theorem depth_keys : ∀ ks : List Ky, PyData.depthAll (ks.map keyD) ≤ 1
  | [] => by decide
  | k :: r => by
    have h1 : PyData.depth (keyD k) = PyData.depthAll ((keyV k).map vD) + 1 := by unfold keyD; simp [PyData.depth]
    have h2 := depth_keys r
    show max (PyData.depth (keyD k)) (PyData.depthAll (r.map keyD)) ≤ 1
    rw [h1, depth_small]
    omega
/-! ### lists of keys held against lists of keys -/
def keysD (ks : List Ky) : PyData := .list (ks.map keyD)
theorem dp_list {K : PySem.W.Frag} {H : Hp} {a : Addr} {as : List Addr} {ks : List Ky} (h : H a = some (.lst (as.map V.ref))) (hk : KeysAt K H as ks) (hok : ∀ k ∈ ks, k.Ok) : Dp K H (.ref a) (keysD ks) := .lst (SqL.of h) (dp_keys hk hok)
theorem shaped_keys {ks : List Ky} (h : ∀ k ∈ ks, k.Ok) : SeqAt.shaped (keysD ks) = true := by
  unfold SeqAt.shaped
  have h1 : PyData.canLay0 (keysD ks) = PyData.canLayAll0 (ks.map keyD) := by unfold keysD; simp [PyData.canLay0]
  have h2 : PyData.depth (keysD ks) = PyData.depthAll (ks.map keyD) + 1 := by unfold keysD; simp [PyData.depth]
  have h3 := depth_keys ks
  rw [h1, h2, lay_keys ks h, Bool.true_and]
  exact decide_eq_true (by omega)
theorem eqv_keys {ks : List Ky} (h : ∀ k ∈ ks, k.Ok) : PyData.eqv (keysD ks) (keysD ks) = true := SeqAt.eqv_refl _ (SeqAt.canLay_of_shaped (shaped_keys h))
end KT
set_option Elab.async false
set_option linter.all false
set_option maxRecDepth 100000
set_option maxHeartbeats 4000000
namespace KT
open PySem PySem.Spec PyProof.Rows L2 GxR
variable [GT]
theorem al_small {K : PySem.W.Frag} {H : Hp} {n : Nat} : ∀ {x : V}, smallV x → Al K H n x x
  | .str z, _ => .str n z
  | .int i, _ => .int n i
  | .non, h => h.elim
  | .ref _, h => h.elim
  | .bl _, h => h.elim
theorem al_key {K : PySem.W.Frag} {H : Hp} {n : Nat} {a b : Addr} {k : Ky} (h : KeyAt K H a k) (h' : KeyAt K H b k) (ok : k.Ok) : Al K H (n + 1) (.ref a) (.ref b) :=
  .tup h h' rfl (by cases k <;> show _ ≤ 1000 <;> simp [keyV]) fun i x y hx hy => by
    rw [hx] at hy
    cases hy
    exact al_small (keyV_small ok x (List.mem_of_getElem? hx))
theorem al_keys {K : PySem.W.Frag} {H : Hp} {n : Nat} {a b : Addr} {as bs : List Addr} {ks : List Ky} (h1 : H a = some (.lst (as.map V.ref))) (h2 : H b = some (.lst (bs.map V.ref))) (k1 : KeysAt K H as ks) (k2 : KeysAt K H bs ks) (hl : ks.length ≤ 1000) (ok : ∀ k ∈ ks, k.Ok) : Al K H (n + 2) (.ref a) (.ref b) :=
  .lst h1 h2 (by rw [List.length_map, List.length_map, k1.len, k2.len]) (by rw [List.length_map, k1.len]; exact hl) fun i x y hx hy => by
    rw [List.getElem?_map] at hx hy
    obtain ⟨p, hp, rfl⟩ := Option.map_eq_some_iff.mp hx
    obtain ⟨q, hq, rfl⟩ := Option.map_eq_some_iff.mp hy
    obtain ⟨i1, rfl⟩ := List.getElem?_eq_some_iff.mp hp
    obtain ⟨i2, rfl⟩ := List.getElem?_eq_some_iff.mp hq
    have hi : i < ks.length := by rw [← k1.len]; exact i1
    exact al_key (k1.at_ i1 hi) (k2.at_ i2 hi) (ok _ (List.getElem_mem _))
theorem al_place {K : PySem.W.Frag} {H : Hp} {n : Nat} {a b : Addr} {r c : Int} (h1 : H a = some (.tup [.int r, .int c])) (h2 : H b = some (.tup [.int r, .int c])) : Al K H (n + 1) (.ref a) (.ref b) :=
  .tup (SqT.of h1) (SqT.of h2) rfl (by show 2 ≤ 1000; decide) fun i x y hx hy => by
    rw [hx] at hy
    cases hy
    rcases i with _ | _ | i
    · cases hx; exact .int n _
    · cases hx; exact .int n _
    · cases hx
theorem good_of_ok {g : Pg} (h : g.Ok) : g.rows ≠ [] ∧ goodB g.rows = true := by
  refine ⟨fun e => by have := h.row; rw [e] at this; simp at this, ?_⟩
  unfold goodB
  rw [Bool.and_eq_true]
  refine ⟨decide_eq_true h.many, List.all_eq_true.mpr fun l hl => ?_⟩
  unfold goodRow
  rw [Bool.and_eq_true]
  refine ⟨decide_eq_true (h.long l hl), List.all_eq_true.mpr fun c hc => ?_⟩
  rw [signB_eq]
  exact decide_eq_true (h.sig l hl c hc)
theorem ins_map {α β : Type} (f : α → β) (xs : List α) (i : Nat) (y : α) : (xs.map f).take i ++ [f y] ++ (xs.map f).drop i = (xs.take i ++ [y] ++ xs.drop i).map f := by simp
theorem KeysAt.ins {K : PySem.W.Frag} {H : Hp} {as : List Addr} {ks : List Ky} {a : Addr} {k : Ky} (h : KeysAt K H as ks) (hk : KeyAt K H a k) (i : Nat) : KeysAt K H (as.take i ++ [a] ++ as.drop i) (ks.take i ++ [k] ++ ks.drop i) := by
  induction h generalizing i with
  | nil => simpa using KeysAt.cons hk .nil
  | @cons b q bs qs hb r ih =>
    cases i with
    | zero => exact .cons hk (.cons hb r)
    | succ i => exact .cons hb (ih i)
theorem lc_singles {h l D : Addr} {H : Hp} {n : Nat} {vs : List Nat} {σ : L2.St} {g : TG} {te : TE} {Qd : Hp → Prop} {K : PySem.W.Frag} (hD : DrAt H h l) (nD : H D = none) (hn : n ≤ 1000)
    (hs : ∀ (i : Nat) (H' : Hp) (R : VK), DrAt H' h l → (∀ a ky H3, ky.Ok → ky.single = true → Kf [h, l] H' H3 → DrAt H3 h l → KeyAt K H3 a ky → R (.ref a) H3) → g (.int ((0 : Int) + (i : Int))) (wipe σ vs) H' fun σ2 H2 => wipe σ2 vs = wipe σ vs ∧ te σ2 H2 R)
    (hd : ∀ H' as ks, Kf [h, l] H H' → DrAt H' h l → KeysAt K H' as ks → (∀ k ∈ ks, k.single = true ∧ k.Ok) → ks.length = n → H' D = some (.lst (as.map V.ref)) → Qd H') :
    ∃ W : Nat → Nat → Hp → Prop, (∃ m, W 0 m (upd H D (HO.lst []))) ∧ ∀ (i m : Nat) (H : Hp), W i m H → (Itr 0 n).stop i H ∧ Qd H ∨ (Itr 0 n).go i H ∧ ∃ Nx : Hp → Prop, (∀ (H' : Hp), Nx H' → ∃ m', m' < m ∧ W (i + 1) m' H') ∧ ∀ (v : V) (H' : Hp), (Itr 0 n).yld i H v H' → g v (wipe σ vs) H' fun σ2 H2 => wipe σ2 vs = wipe σ vs ∧ tYes σ2 H2 fun b H3 => if b = true then te σ2 H3 fun y H4 => ∃ acc, H4 D = some (HO.lst acc) ∧ acc.length < sizeLine ∧ Nx (upd H4 D (HO.lst (acc ++ [y]))) else Nx H3 := by
  have nDd : D ∉ [h, l] := fresh_ne hD.some nD
  have nDh : D ≠ h := fun e => nDd (by rw [e]; simp)
  have nDl : D ≠ l := fun e => nDd (by rw [e]; simp)
  refine lc_range (lo := 0) (n := n) (vs := vs) (fun i H' => Kq [h, l] H H' ∧ DrAt H' h l ∧ ∃ as ks, KeysAt K H' as ks ∧ (∀ k ∈ ks, k.single = true ∧ k.Ok) ∧ ks.length = i ∧ H' D = some (.lst (as.map V.ref))) ⟨Kq.alloc nD, hD.kq (Kq.alloc nD), [], [], .nil, by simp, rfl, upd_same⟩ ?_ ?_
  · rintro i H' hi ⟨kq, hDi, as, ks, hks, hok, hl, gD⟩
    refine hs i H' _ hDi fun a ky H3 kok ksg k3 hD3 hk => ?_
    have g : H3 D = some (.lst (as.map V.ref)) := k3.q.gets gD nDd
    have kw : Kf [D] H3 (upd H3 D (.lst (as.map V.ref ++ [.ref a]))) := Kf.one g
    have hkl := hks.len
    refine ⟨_, g, smallM (by rw [List.length_map]; omega), (kq.trans k3.q).writeF nD g, hD3.upd nDh nDl, as ++ [a], ks ++ [ky], (kw.keys (k3.keys hks)).snoc (kw.key hk), fun k hk' => ?_, by rw [List.length_append, hl]; rfl, ?_⟩
    · rcases List.mem_append.mp hk' with z | z
      · exact hok k z
      · rw [List.mem_singleton.mp z]; exact ⟨ksg, kok⟩
    · rw [upd_same, List.map_append]; rfl
  · rintro H' ⟨kq, hDi, as, ks, hks, hok, hl, gD⟩
    exact hd H' as ks ⟨kq, hD.wr, hDi.wr⟩ hDi hks hok hl gD
/-- what stands all along -/
structure Bw (K : PySem.W.Frag) (H : Hp) (h l : Addr) : Prop where
  dr : DrAt H h l
  tg : TabG H (tS K)
  tb : ∀ p ∈ GT.l, LamX.TabS H p.1 p.2
theorem Bw.kq {K : PySem.W.Frag} {H H1 : Hp} {h l : Addr} (b : Bw K H h l) (k : Kq [] H H1) : Bw K H1 h l := ⟨b.dr.kq k, k.tab _ b.tg, fun p hp => k.tabS p hp (b.tb p hp)⟩
theorem Bw.draw {K : PySem.W.Frag} {H H1 : Hp} {h l : Addr} (b : Bw K H h l) (k : Kf [h, l] H H1) (dr : DrAt H1 h l) : Bw K H1 h l := ⟨dr, k.q.tab _ b.tg, fun p hp => k.q.tabS p hp (b.tb p hp)⟩
theorem Bw.kf {K : PySem.W.Frag} {H H1 : Hp} {h l : Addr} {S : List Addr} (b : Bw K H h l) (k : Kf S H H1) (n1 : h ∉ S) (n2 : l ∉ S) : Bw K H1 h l := ⟨b.dr.kf k n1 n2, k.q.tab _ b.tg, fun p hp => k.q.tabS p hp (b.tb p hp)⟩
end KT
set_option Elab.async false
set_option linter.all false
set_option maxRecDepth 100000
set_option maxHeartbeats 4000000
namespace KT
open PySem PySem.Spec PyProof.Rows L2 GxR
/-! ### d.update(e), both dicts of texts and numbers -/
def rDUpd : V → List V → Hp → VK → Prop := fun x xs H Q => ∃ (a b : Addr) (kvs more : List (Key × V)), x = .ref a ∧ xs = [.ref b] ∧ H a = some (.dK kvs) ∧ H b = some (.dK more) ∧ a ≠ b ∧ kvs.length + more.length ≤ sizeLine ∧ Q .non (upd H a (.dK (mergeK kvs more)))
theorem mt_dupdate {X : Cx} : MtR X "dict.update" rDUpd := by
  intro pins s σ H x xs v us Q I rx rxs h
  obtain ⟨a, b, kvs, more, rfl, rfl, ea, eb, ne, hl, q⟩ := h
  cases rx
  obtain ⟨u, rfl, ru⟩ := rxs.one
  cases ru
  obtain ⟨za, la, vs, ra, da⟩ := dk_of I.hok ea
  obtain ⟨zb, lb, ws, rb, db⟩ := dk_of I.hok eb
  refine call_meetsIn PySem.F.slot_dict_update da.typeIs PySem.F.entry_dict_update (PySem.F.args_dict_update_2 _ _) (meets_dict_update (mixKind X.prog X.w) a b ne lb) ⟨vs, ws, da, db, by rw [← ra.length, ← rb.length]; exact hl, fun h' da' _ hs => ?_⟩
  have there : ∃ q, h'.get? a = some q := let ⟨q, _, _, hq, _⟩ := da'; ⟨q, hq⟩
  have hm := length_mergeK more kvs
  exact ⟨.non, _, L2.d_write (t' := s.toks) I (by rw [ea]; exact True.intro) hs there (dk_new (by omega) la (KV.merge rb ra) da'), rfl, q⟩
end KT
set_option Elab.async false
set_option linter.all false
set_option maxRecDepth 100000
set_option maxHeartbeats 4000000
namespace KT
open PySem PySem.Spec PyProof.Rows L2 GxR
/-! ### a token is out behind a written text -/
def PEU (X : Cx) (e : Expr) (t : TE) : Prop :=
  ∀ (pins : List (Addr × Obj)) (s : Shared) (σ : L2.St) (H : Hp) (Q : VK), Inv X pins σ H s → t σ H Q → wpAny (model X.prog X.w) X.A (eval e X.env) (fun v s1 => 1 ≤ s1.toks ∧ EP X pins σ Q v s1) X.xe s
def PAU (X : Cx) (es : List Expr) (t : TA) : Prop :=
  ∀ (pos : Pos) (pins : List (Addr × Obj)) (s : Shared) (σ : L2.St) (H : Hp) (Q : List V → Hp → Prop), Inv X pins σ H s → t σ H Q → wpAny (model X.prog X.w) X.A (spliced (backTo pos (starEach es X.env))) (fun us s1 => 1 ≤ s1.toks ∧ AP X pins σ Q us s1) X.xe s
section
variable {X : Cx} {e : Expr} {es : List Expr} {te : TE} {ta : TA}
theorem peu_str {x j pos} : PEU X (.Constant (.str x) j pos) (tC (.str x)) := fun _ s _ H _ I h => Calls.Constant_str ⟨by show 1 ≤ s.toks + 1; omega, .str x, H, I.tok _, ⟨_, rfl⟩, h⟩
theorem pau_cons (ha : PEU X e te) (hr : PA X es ta) (hs : starEach (e :: es) X.env = (false, eval e X.env) :: starEach es X.env := by rfl) : PAU X (e :: es) (tCons te ta) := by
  intro pos pins s σ H Q I h
  rw [hs]
  show wpAny _ _ (spliced ((false, eval e X.env) :: backTo pos (starEach es X.env))) _ _ s
  refine Calls.spliced_cons (wpAny_mono (ha pins s σ H _ I h) (fun v s1 q => ?_) fun _ _ z => z)
  obtain ⟨hk, x, H1, I1, r1, q1⟩ := q
  refine wpAny_mono (PySem.wpAny_toks_of hk (hr.run pos pins s1 σ H1 _ I1 q1)) (fun us s2 q2 => ?_) fun _ _ z => z.2
  obtain ⟨hk2, xs, H2, I2, r2, q2⟩ := q2
  exact ⟨hk2, x :: xs, H2, I2, .cons r1 r2, q2⟩
theorem peu_tup {x1} {pos : Pos} (h : PAU X es ta) : PEU X (.Tuple es x1 pos) (tTup ta) := by
  intro pins s σ H Q I hq
  refine wpAny_Tuple_spliced (wpAny_mono (h pos pins s σ H _ I hq) (fun us s1 q => ?_) fun _ _ z => z)
  obtain ⟨hk, xs, H1, I1, r, z, q⟩ := q
  refine ⟨by rw [← r.length]; exact z, hk, ?_⟩
  have hf : H1 s1.heap.objs.size = none := I1.hok.fresh (Nat.le_refl _)
  refine ⟨.ref s1.heap.objs.size, upd H1 s1.heap.objs.size (.tup xs), I1.laid (t' := s1.toks) (fun b u e => Heap.get?_push_of_some _ e) (Nat.le_refl _) ?_, rfl, q _ hf⟩
  exact ⟨z, us, r, ⟨_, Heap.get?_push_size _ rfl, rfl, _, rfl⟩⟩
/-- behind what gives a token out -/
theorem pa_consU (ha : PEU X e te) (hr : PAT X es ta) (hs : starEach (e :: es) X.env = (false, eval e X.env) :: starEach es X.env := by rfl) : PA X (e :: es) (tCons te ta) := by
  refine ⟨fun pos pins s σ H Q I h => ?_⟩
  rw [hs]
  show wpAny _ _ (spliced ((false, eval e X.env) :: backTo pos (starEach es X.env))) _ _ s
  refine Calls.spliced_cons (wpAny_mono (ha pins s σ H _ I h) (fun v s1 q => ?_) fun _ _ z => z)
  obtain ⟨hk, x, H1, I1, r1, q1⟩ := q
  exact thn (hr pos pins s1 σ H1 _ hk I1 q1) fun us s2 ⟨xs, H2, I2, r2, q2⟩ => ⟨x :: xs, H2, I2, .cons r1 r2, q2⟩
end
/-- join within a block -/
theorem pe_joinB {X : Cx} {K : PySem.W.Frag} {o e : Expr} {to te : TE} {apos pos : Pos} (ek : X.K = K) (ho : PE X o to) (he : PE X e te) (hs : starEach [e] X.env = [(false, eval e X.env)] := by rfl) (hbase : attributeBase o "join" X.env (eval o X.env) = eval o X.env := by rfl) (hline : (apos.endLine == pos.line) = true := by rfl) :
    PE X (.Call (.Attribute o "join" apos) [e] [] pos) (tM1 (fun x xs H Q => ∃ a p, ∃ ys : List Str, x = .str a ∧ xs = [.ref p] ∧ (SqL K H p (ys.map V.str) ∨ SqT K H p (ys.map V.str)) ∧
      (ys.map (·.length)).sum + ys.length * a.length ≤ 16777216 ∧ Q (.str (Txt.join a ys)) H) to te) := by
  subst ek
  exact pe_join ho he hs hbase hline
/-- a walk over a written text -/
theorem for_strS {z : Str} {g : TG} {tb : TS} {D : Ends} {σ : L2.St} {H : Hp} (Pv : Nat → L2.St → Hp → Prop) (h0 : Pv 0 σ H)
    (hs : ∀ i c σ H, z.cps[i]? = some c → Pv i σ H → g (.str ⟨#[c]⟩) σ H fun σ2 H2 => tb { D with nx := Pv (i + 1), ct := Pv (i + 1), bk := D.nx } σ2 H2) (hd : ∀ σ H, Pv z.cps.size σ H → D.nx σ H) :
    ∃ W : Nat → Nat → L2.St → Hp → Prop, (∃ m, W 0 m σ H) ∧ ∀ i m σ H, W i m σ H →
      ((Its z).stop i H ∧ D.nx σ H) ∨ ((Its z).go i H ∧ ∃ N : L2.St → Hp → Prop, (∀ σ' H', N σ' H' → ∃ m', m' < m ∧ W (i + 1) m' σ' H') ∧ ∀ x H', (Its z).yld i H x H' → g x σ H' fun σ2 H2 => tb { D with nx := N, ct := N, bk := D.nx } σ2 H2) := by
  refine ⟨fun i m σ H => m = z.cps.size - i ∧ i ≤ z.cps.size ∧ Pv i σ H, ⟨_, rfl, Nat.zero_le _, h0⟩, ?_⟩
  rintro i m σ H ⟨rfl, hi, p⟩
  by_cases hlt : i < z.cps.size
  · refine .inr ⟨hlt, Pv (i + 1), fun σ' H' p' => ⟨z.cps.size - (i + 1), by omega, rfl, hlt, p'⟩, ?_⟩
    rintro x H' ⟨rfl, c, hc, rfl⟩
    exact hs i c σ _ hc p
  · have e : i = z.cps.size := by omega
    subst e
    exact .inl ⟨Nat.le_refl _, hd σ H p⟩
end KT
set_option Elab.async false
set_option linter.all false
set_option maxRecDepth 100000
set_option maxHeartbeats 4000000
namespace KT
open PySem PySem.Spec PyProof.Rows L2 GxR
variable [GT]
/-! ### a dict of tapes -/
abbrev Dc := List (Nat × List Ky)
def putD (d : Dc) (n : Nat) (ks : List Ky) : Dc := if (d.any fun p => decide (p.1 = n)) = true then d.map (fun p => if p.1 = n then (p.1, ks) else p) else d ++ [(n, ks)]
def mergeD (d more : Dc) : Dc := more.foldl (fun acc p => putD acc p.1 p.2) d
def lookD (d : Dc) (n : Nat) : Option (List Ky) := (d.find? fun p => decide (p.1 = n)).map (·.2)
structure DOk (d : Dc) : Prop where
  ok : ∀ p ∈ d, p.1 < 8 ∧ p.2.length ≤ 30 ∧ ∀ k ∈ p.2, k.Ok
theorem putD_mem {d : Dc} {n : Nat} {ks : List Ky} {p : Nat × List Ky} (h : p ∈ putD d n ks) : p ∈ d ∨ p = (n, ks) := by
  unfold putD at h
  split at h
  · obtain ⟨q, hq, e⟩ := List.mem_map.mp h
    split at e
    · rename_i z; exact .inr (by rw [← e, z])
    · exact .inl (e ▸ hq)
  · rcases List.mem_append.mp h with z | z
    · exact .inl z
    · exact .inr (List.mem_singleton.mp z)
theorem DOk.put {d : Dc} {n : Nat} {ks : List Ky} (h : DOk d) (hn : n < 8) (hl : ks.length ≤ 30) (hk : ∀ k ∈ ks, k.Ok) : DOk (putD d n ks) := ⟨fun p hp => by
  rcases putD_mem hp with z | z
  · exact h.ok p z
  · rw [z]; exact ⟨hn, hl, hk⟩⟩
theorem DOk.merge : ∀ {more d : Dc}, DOk d → DOk more → DOk (mergeD d more)
  | [], d, h, _ => h
  | p :: r, d, h, h2 => by
    have hp := h2.ok p (by simp)
    show DOk (mergeD (putD d p.1 p.2) r)
    exact DOk.merge (h.put hp.1 hp.2.1 hp.2.2) ⟨fun q hq => h2.ok q (by simp [hq])⟩
theorem lookD_put (d : Dc) (n m : Nat) (ks : List Ky) : lookD (putD d n ks) m = if m = n then some ks else lookD d m := by
  unfold lookD putD
  split
  · rename_i h
    by_cases e : m = n
    · subst e
      rw [if_pos rfl]
      induction d with
      | nil => simp at h
      | cons p r ih =>
        by_cases z : p.1 = m
        · simp [z]
        · simp only [List.any_cons, decide_eq_true_eq, Bool.or_eq_true] at h
          have h2 : (r.any fun p => decide (p.1 = m)) = true := h.resolve_left z
          have := ih h2
          simp only [List.map_cons, if_neg z, List.find?_cons, decide_eq_false z]
          exact this
    · rw [if_neg e]
      clear h
      induction d with
      | nil => rfl
      | cons p r ih =>
        by_cases z : p.1 = n
        · have zm : ¬ n = m := fun y => e y.symm
          have zm2 : ¬ p.1 = m := fun y => e (y.symm.trans z)
          simp only [List.map_cons, if_pos z, List.find?_cons, decide_eq_false zm2]
          exact ih
        · simp only [List.map_cons, if_neg z, List.find?_cons]
          by_cases y : p.1 = m
          · simp [y]
          · simp only [decide_eq_false y]; exact ih
  · rename_i h
    rw [List.find?_append]
    by_cases e : m = n
    · subst e
      rw [if_pos rfl]
      have : d.find? (fun p => decide (p.1 = m)) = none := by
        rw [List.find?_eq_none]
        intro p hp z
        exact h (List.any_eq_true.mpr ⟨p, hp, z⟩)
      rw [this]; simp
    · rw [if_neg e]
      have : ([(n, ks)] : Dc).find? (fun p => decide (p.1 = m)) = none := by
        simp only [List.find?_cons, decide_eq_false (fun z : n = m => e z.symm), List.find?_nil]
      rw [this, Option.or_none]
theorem lookD_merge : ∀ (more d : Dc) (m : Nat), (more.map (·.1)).Nodup → lookD (mergeD d more) m = (match lookD more m with | some ks => some ks | none => lookD d m)
  | [], d, m, _ => rfl
  | p :: r, d, m, hn => by
    rw [List.map_cons, List.nodup_cons] at hn
    show lookD (mergeD (putD d p.1 p.2) r) m = _
    rw [lookD_merge r _ m hn.2, lookD_put]
    by_cases e : m = p.1
    · have e2 : lookD r m = none := by
        unfold lookD
        rw [Option.map_eq_none_iff, List.find?_eq_none]
        intro q hq z
        exact hn.1 (by rw [← e, ← (of_decide_eq_true z)]; exact List.mem_map_of_mem hq)
      have e3 : lookD (p :: r) m = some p.2 := by unfold lookD; simp [e]
      rw [e2, e3, if_pos e]
    · have e3 : lookD (p :: r) m = lookD r m := by
        unfold lookD
        simp only [List.find?_cons, decide_eq_false (fun z : p.1 = m => e z.symm)]
      rw [e3, if_neg e]
def ent (n : Nat) (a : Addr) : Key × V := (.inr (nameS n), .ref a)
inductive DAt (K : PySem.W.Frag) (H : Hp) : List (Key × V) → Dc → Prop where
  | nil : DAt K H [] []
  | cons {n : Nat} {a : Addr} {ks : List Ky} {kvs : List (Key × V)} {d : Dc} (h : TapeAt K H a ks) (r : DAt K H kvs d) : DAt K H (ent n a :: kvs) ((n, ks) :: d)
section
variable {K : PySem.W.Frag} {H H1 : Hp} {kvs more : List (Key × V)} {d e : Dc}
theorem DAt.imp (f : ∀ a ks, TapeAt K H a ks → TapeAt K H1 a ks) (h : DAt K H kvs d) : DAt K H1 kvs d := by
  induction h with
  | nil => exact .nil
  | cons h _ ih => exact .cons (f _ _ h) ih
theorem DAt.kf {S : List Addr} (k : Kf S H H1) (h : DAt K H kvs d) : DAt K H1 kvs d := h.imp fun _ _ z => k.tape z
theorem DAt.kq (k : Kq [] H H1) (h : DAt K H kvs d) : DAt K H1 kvs d := h.imp fun _ _ z => k.tape z
theorem DAt.len (h : DAt K H kvs d) : kvs.length = d.length := by
  induction h with
  | nil => rfl
  | cons _ _ ih => simp [ih]
theorem DAt.keys (h : DAt K H kvs d) : kvs.map (·.1) = (d.map fun p => nameS p.1).map Sum.inr := by
  induction h with
  | nil => rfl
  | cons _ _ ih => simp only [List.map_cons, ih]; rfl
theorem key_name {n m : Nat} : ((.inr (nameS n) : Key) = .inr (nameS m)) ↔ n = m := ⟨fun h => name_inj (Sum.inr.inj h), fun h => by rw [h]⟩
theorem DAt.val (h : DAt K H kvs d) (m : Nat) : (valV kvs (.inr (nameS m)) = none ∧ lookD d m = none) ∨ ∃ a ks, valV kvs (.inr (nameS m)) = some (.ref a) ∧ lookD d m = some ks ∧ TapeAt K H a ks := by
  induction h with
  | nil => exact .inl ⟨rfl, rfl⟩
  | @cons n a ks kvs d h _ ih =>
    by_cases e : n = m
    · subst e
      exact .inr ⟨a, ks, valV_pos rfl, by unfold lookD; simp, h⟩
    · have e1 : valV (ent n a :: kvs) (.inr (nameS m)) = valV kvs (.inr (nameS m)) := valV_neg (fun z => e (key_name.mp z))
      have e2 : lookD ((n, ks) :: d) m = lookD d m := by unfold lookD; simp only [List.find?_cons, decide_eq_false e]
      rw [e1, e2]
      exact ih
theorem DAt.any (h : DAt K H kvs d) (n : Nat) : (kvs.any fun kv => decide (kv.1 = (.inr (nameS n) : Key))) = d.any fun p => decide (p.1 = n) := by
  induction h with
  | nil => rfl
  | @cons m a ks kvs d h _ ih =>
    rw [List.any_cons, List.any_cons, ih]
    congr 1
    rw [Bool.eq_iff_iff, decide_eq_true_eq, decide_eq_true_eq]
    exact key_name
theorem DAt.put (h : DAt K H kvs d) {n : Nat} {a : Addr} {ks : List Ky} (ht : TapeAt K H a ks) : DAt K H (putK kvs (.inr (nameS n)) (.ref a)) (putD d n ks) := by
  unfold putK putD
  rw [h.any n]
  split
  · rename_i hh
    clear hh
    induction h with
    | nil => exact .nil
    | @cons m b ls kvs d h _ ih =>
      by_cases e : m = n
      · subst e
        simp only [List.map_cons, ent, if_pos]
        exact .cons ht ih
      · have e2 : ¬ ((.inr (nameS m) : Key) = .inr (nameS n)) := fun z => e (key_name.mp z)
        simp only [List.map_cons, ent, if_neg e, if_neg e2]
        exact .cons h ih
  · rename_i hh
    clear hh
    induction h with
    | nil => exact .cons ht .nil
    | cons h _ ih => exact .cons h ih
theorem DAt.merge (hm : DAt K H more e) : ∀ {kvs : List (Key × V)} {d : Dc}, DAt K H kvs d → DAt K H (mergeK kvs more) (mergeD d e) := by
  induction hm with
  | nil => intro kvs d h; exact h
  | @cons n a ks more e ht _ ih => intro kvs d h; exact ih (h.put ht)
end
end KT
set_option Elab.async false
set_option linter.all false
set_option maxRecDepth 100000
set_option maxHeartbeats 4000000
namespace KT
open PySem PySem.Spec PyProof.Rows L2 GxR
variable [GT]
theorem putD_new {d : Dc} {n : Nat} {ks : List Ky} (h : ∀ p ∈ d, p.1 < n) : putD d n ks = d ++ [(n, ks)] := by
  unfold putD
  rw [if_neg]
  intro z
  obtain ⟨p, hp, e⟩ := List.any_eq_true.mp z
  have := h p hp
  have := of_decide_eq_true e
  omega
theorem namesS_cp {i c : Nat} (h : (Str.ofString "abcdefgh").cps[i]? = some c) : i < 8 ∧ c = 97 + i := by
  have e : (Str.ofString "abcdefgh").cps = #[97, 98, 99, 100, 101, 102, 103, 104] := by decide +kernel
  rw [e] at h
  match i, h with
  | 0, h => cases h; exact ⟨by decide, rfl⟩
  | 1, h => cases h; exact ⟨by decide, rfl⟩
  | 2, h => cases h; exact ⟨by decide, rfl⟩
  | 3, h => cases h; exact ⟨by decide, rfl⟩
  | 4, h => cases h; exact ⟨by decide, rfl⟩
  | 5, h => cases h; exact ⟨by decide, rfl⟩
  | 6, h => cases h; exact ⟨by decide, rfl⟩
  | 7, h => cases h; exact ⟨by decide, rfl⟩
theorem namesS_size : (Str.ofString "abcdefgh").cps.size = 8 := by decide +kernel
section
variable {P : Program} {w : World} {K : PySem.W.Frag} {mg : Str → Option Value} {base : Heap}
def sp_tapes (K : PySem.W.Frag) : Sp := fun vs H Q _ => ∃ (h l : Addr), vs = [.ref h] ∧ DrAt H h l ∧ ∀ t kvs d H', H t = none → DOk d → d.length ≤ 8 → (d.map (·.1)).Nodup → Kf [h, l] H H' → DrAt H' h l → H' t = some (.dK kvs) → DAt K H' kvs d → Q (.ref t) H'
end
end KT
set_option Elab.async false
set_option linter.all false
set_option maxRecDepth 100000
set_option maxHeartbeats 4000000
namespace KT
open PySem PySem.Spec PyProof.Rows L2 GxR
variable [GT]
/-! ### an editor's tapes set, name by name -/
theorem ne_of_none' {H : Hp} {a b : Addr} {o : HO} (h : H a = some o) (n : H b = none) : b ≠ a := fun e => by rw [e, h] at n; cases n
def tpD (d : Dc) (n : Nat) : List Ky := (lookD d n).getD []
theorem tpD_ok {d : Dc} (h : DOk d) (n : Nat) : ∀ k ∈ tpD d n, k.Ok := by
  unfold tpD lookD
  cases e : d.find? (fun p => decide (p.1 = n)) with
  | none => intro k hk; simp at hk
  | some p => exact (h.ok p (List.mem_of_find?_eq_some e)).2.2
theorem tpD_len {d : Dc} (h : DOk d) (n : Nat) : (tpD d n).length ≤ 30 := by
  unfold tpD lookD
  cases e : d.find? (fun p => decide (p.1 = n)) with
  | none => simp
  | some p => exact (h.ok p (List.mem_of_find?_eq_some e)).2.1
theorem lookD_mem {d : Dc} {p : Nat × List Ky} (h : p ∈ d) : lookD d p.1 ≠ none := by
  unfold lookD
  rw [Ne, Option.map_eq_none_iff, List.find?_eq_none]
  intro z
  exact z p h (decide_eq_true rfl)
theorem lookD_none {d : Dc} {n : Nat} (h : ∀ p ∈ d, p.1 ≠ n) : lookD d n = none := by
  unfold lookD
  rw [Option.map_eq_none_iff, List.find?_eq_none]
  intro p hp z
  exact h p hp (of_decide_eq_true z)
theorem lookD_ok {d : Dc} (h : DOk d) {n : Nat} {ks : List Ky} (e : lookD d n = some ks) : n < 8 ∧ ks.length ≤ 30 ∧ ∀ k ∈ ks, k.Ok := by
  unfold lookD at e
  obtain ⟨q, hq, rfl⟩ := Option.map_eq_some_iff.mp e
  have h1 := h.ok q (List.mem_of_find?_eq_some hq)
  have h2 : q.1 = n := by have := List.find?_some hq; simpa using this
  exact ⟨h2 ▸ h1.1, h1.2⟩
def setT (tp : Nat → List Ky) (d : Dc) (ys : List Str) (n : Nat) : List Ky := if nameS n ∈ ys then (lookD d n).getD [] else tp n
theorem setT_nil (tp : Nat → List Ky) (d : Dc) : setT tp d [] = tp := by funext n; exact if_neg (by simp)
theorem setT_step {tp : Nat → List Ky} {d : Dc} {ys : List Str} {i n : Nat} {ks : List Ky} (hy : ys[i]? = some (nameS n)) (hlk : lookD d n = some ks) :
    (fun n' => if n' = n then ks else setT tp d (ys.take i) n') = setT tp d (ys.take (i + 1)) := by
  funext n'
  have hi : i < ys.length := (List.getElem?_eq_some_iff.mp hy).1
  unfold setT
  rw [List.take_succ_eq_append_getElem hi, (List.getElem?_eq_some_iff.mp hy).2]
  by_cases e : n' = n
  · rw [if_pos e, e, if_pos (by simp), hlk]; rfl
  · rw [if_neg e]
    have : (nameS n' ∈ ys.take i ++ [nameS n]) ↔ nameS n' ∈ ys.take i := by
      rw [List.mem_append, List.mem_singleton]
      exact ⟨fun z => z.elim id fun z => absurd (name_inj z) e, .inl⟩
    simp only [this]
theorem set_names {d : Dc} (dok : DOk d) {ys : List Str} (hp : ys.Perm (d.map fun p => nameS p.1)) : ∀ y ∈ ys, ∃ n ks, n < 8 ∧ y = nameS n ∧ lookD d n = some ks := fun y hy => by
  obtain ⟨q, hq, rfl⟩ := List.mem_map.mp (hp.mem_iff.mp hy)
  cases e : lookD d q.1 with
  | none => exact absurd e (lookD_mem hq)
  | some ks => exact ⟨q.1, ks, (dok.ok q hq).1, rfl, e⟩
theorem setT_end {d : Dc} (dok : DOk d) {ys : List Str} (hp : ys.Perm (d.map fun p => nameS p.1)) : setT (fun _ => []) d ys = tpD d := by
  funext n
  unfold setT tpD
  by_cases e : nameS n ∈ ys
  · rw [if_pos e]
  · rw [if_neg e]
    have : lookD d n = none := lookD_none fun p hq z => e (hp.mem_iff.mpr (List.mem_map.mpr ⟨p, hq, by rw [z]⟩))
    rw [this]; rfl
/-- the tape at a name -/
theorem DAt.there {K : PySem.W.Frag} {H : Hp} {kvs : List (Key × V)} {d : Dc} (h : DAt K H kvs d) {n : Nat} {ks : List Ky} (e : lookD d n = some ks) : ∃ T as, valV kvs (.inr (nameS n)) = some (.ref T) ∧ SqT K H T (as.map V.ref) ∧ KeysAt K H as ks := by
  rcases h.val n with ⟨_, z⟩ | ⟨T_, ks', ev, ek, as, h1, h2⟩
  · rw [e] at z; cases z
  · rw [e] at ek
    cases ek
    exact ⟨T_, as, ev, h1, h2⟩
end KT
set_option Elab.async false
set_option linter.all false
set_option maxRecDepth 100000
set_option maxHeartbeats 4000000
namespace KT
open PySem PySem.Spec PyProof.Rows L2 GxR
variable [GT]
theorem dp_tape {K : PySem.W.Frag} {H : Hp} {a : Addr} {ks : List Ky} (h : TapeAt K H a ks) (hok : ∀ k ∈ ks, k.Ok) : Dp K H (.ref a) (tapeD ks) := by
  obtain ⟨as, h1, h2⟩ := h
  exact .tup h1 (dp_keys h2 hok)
theorem shaped_tape {ks : List Ky} (h : ∀ k ∈ ks, k.Ok) : SeqAt.shaped (tapeD ks) = true := by
  unfold SeqAt.shaped
  have h1 : PyData.canLay0 (tapeD ks) = PyData.canLayAll0 (ks.map keyD) := by unfold tapeD; simp [PyData.canLay0]
  have h2 : PyData.depth (tapeD ks) = PyData.depthAll (ks.map keyD) + 1 := by unfold tapeD; simp [PyData.depth]
  have h3 := depth_keys ks
  rw [h1, h2, lay_keys ks h, Bool.true_and]
  exact decide_eq_true (by omega)
theorem eqv_tape {ks : List Ky} (h : ∀ k ∈ ks, k.Ok) : PyData.eqv (tapeD ks) (tapeD ks) = true := SeqAt.eqv_refl _ (SeqAt.canLay_of_shaped (shaped_tape h))
theorem op_neDB {X : Cx} {K : PySem.W.Frag} (e : X.K = K) (hu : X.A.units + 64 < cLine) : OpR X (compareOp .NotEq) (rNeD K) := e ▸ op_neD hu
/-! ### dicts of tapes: how many, what at a name -/
theorem nodup_lt : ∀ (k : Nat) (l : List Nat), l.Nodup → (∀ x ∈ l, x < k) → l.length ≤ k
  | 0, l, _, h => by
    cases l with
    | nil => exact Nat.le_refl _
    | cons x r => exact absurd (h x (by simp)) (by omega)
  | k + 1, l, nd, h => by
    by_cases hk : k ∈ l
    · have h1 := nodup_lt k (l.erase k) (nd.erase k) fun x hx => by
        have h2 := (nd.mem_erase_iff.mp hx)
        have h3 := h x h2.2
        have := h2.1
        omega
      rw [List.length_erase_of_mem hk] at h1
      omega
    · have := nodup_lt k l nd fun x hx => by
        have h3 := h x hx
        have : x ≠ k := fun e => hk (e ▸ hx)
        omega
      omega
theorem putD_nd {d : Dc} {n : Nat} {ks : List Ky} (h : (d.map (·.1)).Nodup) : ((putD d n ks).map (·.1)).Nodup := by
  unfold putD
  split
  · rw [List.map_map]
    have : d.map ((fun p : Nat × List Ky => p.1) ∘ fun p => if p.1 = n then (p.1, ks) else p) = d.map (·.1) := by
      refine List.map_congr_left fun p _ => ?_
      show (if p.1 = n then (p.1, ks) else p).1 = p.1
      split <;> rfl
    rw [this]; exact h
  · rename_i hh
    rw [List.map_append, List.nodup_append]
    refine ⟨h, by simp, fun a ha b hb e => ?_⟩
    obtain ⟨p, hp, rfl⟩ := List.mem_map.mp ha
    simp at hb
    exact hh (List.any_eq_true.mpr ⟨p, hp, decide_eq_true (e.trans hb)⟩)
theorem DOk.len8 {d : Dc} (h : DOk d) (nd : (d.map (·.1)).Nodup) : d.length ≤ 8 := by
  have := nodup_lt 8 (d.map (·.1)) nd fun x hx => by
    obtain ⟨p, hp, rfl⟩ := List.mem_map.mp hx
    exact (h.ok p hp).1
  rwa [List.length_map] at this
theorem tpD_put (d : Dc) (n : Nat) (ks : List Ky) : tpD (putD d n ks) = fun i => if i = n then ks else tpD d i := by
  funext i
  unfold tpD
  rw [lookD_put]
  split <;> rfl
/-! ### text, place and clip, as a law keeps them -/
def LkAt (K : PySem.W.Frag) (H : Hp) (a : Addr) (g : Pg) : Prop := ∃ q, SqT K H a [.str (textS g.rows), .ref q, .str (S g.clip)] ∧ SqT K H q [.int (g.row : Int), .int (g.col : Int)]
theorem LkAt.kq {K : PySem.W.Frag} {H H1 : Hp} {a : Addr} {g : Pg} (h : LkAt K H a g) (k : Kq [] H H1) : LkAt K H1 a g := by
  obtain ⟨q, h1, h2⟩ := h
  exact ⟨q, k.tup h1, k.tup h2⟩
theorem LkAt.kf {K : PySem.W.Frag} {S : List Addr} {H H1 : Hp} {a : Addr} {g : Pg} (h : LkAt K H a g) (k : Kf S H H1) : LkAt K H1 a g := by
  obtain ⟨q, h1, h2⟩ := h
  exact ⟨q, k.tup h1, k.tup h2⟩
def lkD (g : Pg) : PyData := .tuple [.str (textS g.rows), .tuple [.int (g.row : Int), .int (g.col : Int)], .str (S g.clip)]
theorem LkAt.dp {K : PySem.W.Frag} {H : Hp} {a : Addr} {g : Pg} (h : LkAt K H a g) : Dp K H (.ref a) (lkD g) := by
  obtain ⟨q, h1, h2⟩ := h
  exact .tup h1 (.cons (.str _) (.cons (.tup h2 (.cons (.int _) (.cons (.int _) .nil))) (.cons (.str _) .nil)))
theorem shaped_lk {g : Pg} (ok : g.Ok) : SeqAt.shaped (lkD g) = true := by
  have h1 := strOk_text ok.sig
  have h2 := strOk_sig ok.csig
  unfold SeqAt.shaped
  have e1 : PyData.canLay0 (lkD g) = true := by
    unfold lkD
    simp [PyData.canLay0, PyData.canLayAll0, h1, h2]
  have e2 : PyData.depth (lkD g) = 2 := by
    unfold lkD
    simp [PyData.depth, PyData.depthAll]
  rw [e1, e2]; rfl
theorem eqv_lk {g : Pg} (ok : g.Ok) : PyData.eqv (lkD g) (lkD g) = true := SeqAt.eqv_refl _ (SeqAt.canLay_of_shaped (shaped_lk ok))
theorem al_tapes {K : PySem.W.Frag} {H : Hp} {n : Nat} {a b : Addr} {ks : List Ky} (h1 : TapeAt K H a ks) (h2 : TapeAt K H b ks) (hl : ks.length ≤ 1000) (ok : ∀ k ∈ ks, k.Ok) : Al K H (n + 2) (.ref a) (.ref b) := by
  obtain ⟨as, a1, a2⟩ := h1
  obtain ⟨bs, b1, b2⟩ := h2
  refine .tup a1 b1 (by rw [List.length_map, List.length_map, a2.len, b2.len]) (by rw [List.length_map, a2.len]; exact hl) fun i x y hx hy => ?_
  rw [List.getElem?_map] at hx hy
  obtain ⟨p, hp, rfl⟩ := Option.map_eq_some_iff.mp hx
  obtain ⟨q, hq, rfl⟩ := Option.map_eq_some_iff.mp hy
  obtain ⟨i1, rfl⟩ := List.getElem?_eq_some_iff.mp hp
  obtain ⟨i2, rfl⟩ := List.getElem?_eq_some_iff.mp hq
  have hi : i < ks.length := by rw [← a2.len]; exact i1
  exact al_key (a2.at_ i1 hi) (b2.at_ i2 hi) (ok _ (List.getElem_mem _))
end KT
set_option Elab.async false
set_option linter.all false
set_option maxRecDepth 100000
set_option maxHeartbeats 4000000
namespace KT
open PySem PySem.Spec PyProof.Rows L2 GxR
variable [GT]
/-! ### lists of (name, tape), held against each other -/
theorem RowsAt.cases {K : PySem.W.Frag} {H : Hp} {ps : List Addr} {d : Tps} (h : RowsAt K H ps (rowsT d)) {i : Nat} {p : Addr} (hp : ps[i]? = some p) : ∃ (e : Nat × List Ky) (t : Addr), d[i]? = some e ∧ SqT K H p [.str (nameS e.1), .ref t] ∧ TapeAt K H t e.2 := by
  obtain ⟨hi, rfl⟩ := List.getElem?_eq_some_iff.mp hp
  have hl := h.len
  have hir : i < (rowsT d).length := by omega
  have hid : i < d.length := by unfold rowsT at hir; rw [List.length_map] at hir; exact hir
  obtain ⟨t, as, g1, g2, g3⟩ := h.at_ hi hir
  have er : (rowsT d)[i] = (nameS d[i].1, d[i].2.map keyV) := by simp only [rowsT, List.getElem_map]
  rw [er] at g1 g3
  exact ⟨d[i], t, List.getElem?_eq_getElem hid, g1, as, g2, g3.keys⟩
theorem al_tape {K : PySem.W.Frag} {H : Hp} {n : Nat} {a b : Addr} {ks : List Ky} (h1 : TapeAt K H a ks) (h2 : TapeAt K H b ks) (hl : ks.length ≤ 1000) (ok : ∀ k ∈ ks, k.Ok) : Al K H (n + 2) (.ref a) (.ref b) := by
  obtain ⟨as, s1, k1⟩ := h1
  obtain ⟨bs, s2, k2⟩ := h2
  refine .tup s1 s2 (by rw [List.length_map, List.length_map, k1.len, k2.len]) (by rw [List.length_map, k1.len]; exact hl) fun i x y hx hy => ?_
  rw [List.getElem?_map] at hx hy
  obtain ⟨p, hp, rfl⟩ := Option.map_eq_some_iff.mp hx
  obtain ⟨q, hq, rfl⟩ := Option.map_eq_some_iff.mp hy
  obtain ⟨i1, rfl⟩ := List.getElem?_eq_some_iff.mp hp
  obtain ⟨i2, rfl⟩ := List.getElem?_eq_some_iff.mp hq
  have hi : i < ks.length := by rw [← k1.len]; exact i1
  exact al_key (k1.at_ i1 hi) (k2.at_ i2 hi) (ok _ (List.getElem_mem _))
theorem al_rows {K : PySem.W.Frag} {H : Hp} {n : Nat} {a b : Addr} {ps qs : List Addr} {d : Tps} (h1 : H a = some (.lst (ps.map V.ref))) (h2 : H b = some (.lst (qs.map V.ref))) (r1 : RowsAt K H ps (rowsT d)) (r2 : RowsAt K H qs (rowsT d)) (ok : TpsOk d) : Al K H (n + 4) (.ref a) (.ref b) := by
  have hd : (rowsT d).length = d.length := by unfold rowsT; rw [List.length_map]
  have hl := ok.1
  refine .lst h1 h2 (by rw [List.length_map, List.length_map, r1.len, r2.len]) (by rw [List.length_map, r1.len, hd]; omega) fun i x y hx hy => ?_
  rw [List.getElem?_map] at hx hy
  obtain ⟨p, hp, rfl⟩ := Option.map_eq_some_iff.mp hx
  obtain ⟨q, hq, rfl⟩ := Option.map_eq_some_iff.mp hy
  obtain ⟨e1, t1, i1, g1, g2⟩ := r1.cases hp
  obtain ⟨e2, t2, i2, g3, g4⟩ := r2.cases hq
  rw [i1] at i2
  cases i2
  obtain ⟨o1, o2, o3⟩ := ok.2 _ (List.mem_of_getElem? i1)
  refine .tup g1 g3 rfl (by show 2 ≤ 1000; decide) fun j x y hx hy => ?_
  match j, hx, hy with
  | 0, rfl, rfl => exact .str _ _
  | 1, rfl, rfl => exact al_tape g2 g4 (by omega) o3
  | j + 2, hx, _ => cases hx
def rwD (e : Nat × List Ky) : PyData := .tuple [.str (nameS e.1), tapeD e.2]
def rwsD (d : Tps) : PyData := .list (d.map rwD)
theorem dp_rowsAll {K : PySem.W.Frag} {H : Hp} : ∀ {ps : List Addr} {d : Tps}, RowsAt K H ps (rowsT d) → (∀ p ∈ d, ∀ k ∈ p.2, k.Ok) → DpAll K H (ps.map V.ref) (d.map rwD)
  | [], [], _, _ => .nil
  | _ :: _, e :: d, .cons h ha hx g, ok => .cons (.tup h (.cons (.str _) (.cons (dp_tape ⟨_, ha, hx.keys⟩ (ok e (by simp))) .nil))) (dp_rowsAll g fun p hp => ok p (by simp [hp]))
theorem dp_rowsT {K : PySem.W.Frag} {H : Hp} {a : Addr} {ps : List Addr} {d : Tps} (h : H a = some (.lst (ps.map V.ref))) (r : RowsAt K H ps (rowsT d)) (ok : TpsOk d) : Dp K H (.ref a) (rwsD d) := .lst (SqL.of h) (dp_rowsAll r fun p hp => (ok.2 p hp).2.2)
theorem eqv_tnil' (xs : List PyData) : PyData.eqv (.tuple xs) (.tuple []) = xs.isEmpty := by
  cases xs <;> simp [PyData.eqv, PyData.eqvAll]
theorem canLay_tape {ks : List Ky} (h : ∀ k ∈ ks, k.Ok) : PyData.canLay0 (tapeD ks) = true := by
  have h1 : PyData.canLay0 (tapeD ks) = PyData.canLayAll0 (ks.map keyD) := by unfold tapeD; simp [PyData.canLay0]
  rw [h1, lay_keys ks h]
theorem depth_tape (ks : List Ky) : PyData.depth (tapeD ks) ≤ 2 := by
  have h2 : PyData.depth (tapeD ks) = PyData.depthAll (ks.map keyD) + 1 := by unfold tapeD; simp [PyData.depth]
  have := depth_keys ks
  omega
theorem lay_rows : ∀ {d : Tps}, (∀ p ∈ d, p.1 < 8 ∧ p.2.length ≤ 30 ∧ ∀ k ∈ p.2, k.Ok) → PyData.canLayAll0 (d.map rwD) = true ∧ PyData.depthAll (d.map rwD) ≤ 3
  | [], _ => ⟨rfl, by decide⟩
  | e :: d, ok => by
    obtain ⟨h1, h2⟩ := lay_rows (d := d) fun p hp => ok p (by simp [hp])
    obtain ⟨o1, o2, o3⟩ := ok e (by simp)
    have e1 : PyData.canLay0 (rwD e) = true := by
      have := strOk_name o1
      have := canLay_tape o3
      unfold rwD
      simp [PyData.canLay0, PyData.canLayAll0, *]
    have e2 : PyData.depth (rwD e) ≤ 3 := by
      have := depth_tape e.2
      unfold rwD
      simp [PyData.depth, PyData.depthAll]
      omega
    constructor
    · show (PyData.canLay0 (rwD e) && PyData.canLayAll0 (d.map rwD)) = true
      rw [e1, h1]; rfl
    · show max (PyData.depth (rwD e)) (PyData.depthAll (d.map rwD)) ≤ 3
      omega
theorem shaped_rws {d : Tps} (ok : TpsOk d) : SeqAt.shaped (rwsD d) = true := by
  obtain ⟨h1, h2⟩ := lay_rows ok.2
  unfold SeqAt.shaped
  have e1 : PyData.canLay0 (rwsD d) = PyData.canLayAll0 (d.map rwD) := by unfold rwsD; simp [PyData.canLay0]
  have e2 : PyData.depth (rwsD d) = PyData.depthAll (d.map rwD) + 1 := by unfold rwsD; simp [PyData.depth]
  rw [e1, e2, h1, Bool.true_and]
  exact decide_eq_true (by omega)
theorem eqv_rws {d : Tps} (ok : TpsOk d) : PyData.eqv (rwsD d) (rwsD d) = true := SeqAt.eqv_refl _ (SeqAt.canLay_of_shaped (shaped_rws ok))
theorem firstBad_rep {m : Nat} {okB : List V → Bool} {a b : List V} {r : List (List V)} (ha : okB a = true) (hb : okB b = false) : ∀ (n i : Nat), i + n ≤ m → firstBad m okB i (List.replicate n a ++ b :: r) = some (i + n)
  | 0, i, _ => by
    show (if i < m ∧ okB b = true then firstBad m okB (i + 1) r else some i) = some i
    rw [if_neg (by rw [hb]; rintro ⟨_, z⟩; cases z)]
  | n + 1, i, h => by
    show (if i < m ∧ okB a = true then firstBad m okB (i + 1) (List.replicate n a ++ b :: r) else some i) = some (i + (n + 1))
    rw [if_pos ⟨by omega, ha⟩, firstBad_rep ha hb n (i + 1) (by omega)]
    congr 1
    omega
theorem TupsAt.cat {K : PySem.W.Frag} {H : Hp} {as bs : List Addr} {xs ys : List (List V)} (h : TupsAt K H as xs) (g : TupsAt K H bs ys) : TupsAt K H (as ++ bs) (xs ++ ys) := by
  induction h with
  | nil => exact g
  | cons a _ ih => exact .cons a ih
theorem TupsAt.rep {K : PySem.W.Frag} {H : Hp} {a : Addr} {xs : List V} (h : SqT K H a xs) : ∀ n, TupsAt K H (List.replicate n a) (List.replicate n xs)
  | 0 => .nil
  | n + 1 => .cons h (TupsAt.rep h n)
theorem TupsAt.ofKeys {K : PySem.W.Frag} {H : Hp} : ∀ {as : List Addr} {ks : List Ky}, KeysAt K H as ks → TupsAt K H as (ks.map keyV)
  | [], [], .nil => .nil
  | _ :: _, _ :: _, .cons h r => .cons h (TupsAt.ofKeys r)
end KT
set_option Elab.async false
set_option linter.all false
set_option maxRecDepth 100000
set_option maxHeartbeats 4000000
namespace KT
open PySem PySem.Spec PyProof.Rows L2 GxR
variable [GT]
section
variable {P : Program} {w : World} {K : PySem.W.Frag} {mg : Str → Option Value} {base : Heap}
def sp_due (K : PySem.W.Frag) : Sp := fun vs H Q _ => ∃ l : Ln, vs = [.str (S l)] ∧ l.length ≤ 100000 ∧ (∀ c ∈ l, okSign c ∨ c = 10) ∧
  (∀ rs L ps H', readV l = .inr rs → Kq [] H H' → H L = none → H' L = some (.lst (ps.map V.ref)) → RowsAt K H' ps rs → Q (.ref L) H') ∧ ∀ i, readV l = .inl i → ∀ p H', Kq [] H H' → H' p = some (.tup [.str "BadTape", .int (i : Nat)]) → Q (.ref p) H'
theorem sc__law_due : FnScope ["_law_text_here", "_law_one", "_law_found", "_law_rows", "_law_k", "_law_words", "_law_keys_here"] ["_law_text_here"] (defScope s__law_due) := ⟨rfl, rfl, rfl, by decide +kernel, rfl, by decide +kernel, by decide +kernel⟩
theorem ok__law_due (T : Tx w K mg) : Fk P w K mg base 5 (Ad K d__law_due.at_) ["_law_text_here"] (sp_due K) := by
  have F__law_keys := ok__law_keys (P := P) (base := base) T
  refine mkF T.f__law_due sc__law_due rfl (fun _ _ _ _ _ _ us hl => match us, hl with | [_], _ => rfl) (fun vs H Q E h => by obtain ⟨_, rfl, _⟩ := h; rfl) (fun cdv A outer s H vs Q E hcd hcode hr h => ?_)
  have po : PassesOwn (model P w) (CxD P w K mg base ["_law_text_here", "_law_one", "_law_found", "_law_rows", "_law_k", "_law_words", "_law_keys_here"] d__law_due cdv A outer s H E).A (CxD P w K mg base ["_law_text_here", "_law_one", "_law_found", "_law_rows", "_law_k", "_law_words", "_law_keys_here"] d__law_due cdv A outer s H E).env (CxD P w K mg base ["_law_text_here", "_law_one", "_law_found", "_law_rows", "_law_k", "_law_words", "_law_keys_here"] d__law_due cdv A outer s H E).xe := passes_of rfl
  refine ⟨_, (pss_cons (ps_asg (pe_lst pa_nil) (pg_name (i := 2) sc__law_due.nd rfl (.inl rfl)))
      (C8.pss_cut (ps_asg (pe_ifExp (pt_cmpR op_ne (pv 0) pe_str (nomark _)) (pe_split (pv 0) pe_str) (pe_lst pa_nil)) (pg_name (i := 3) sc__law_due.nd rfl (.inl rfl)))
      (pss_cons (ps_for po rfl (pi_range1 (by rfl) T.n_range (pa_cons (pe_callB call_len_seq (by rfl) T.n_len (by decide +kernel) (pa_cons (pv 3) pa_nil)) pa_nil)) (pg_name (i := 4) sc__law_due.nd rfl (.inl rfl)) (pss_cons (ps_asg (pe_split (pe_ix ix_list (pv 3) (pv 4) (fun _ _ => rfl)) pe_str) (pg_name (i := 5) sc__law_due.nd rfl (.inr rfl)))
      (pss_cons (ps_asg (pe_cF F__law_keys (hr.mono (by decide)) T.g__law_keys px (pa_cons (pe_slice sl_list (pv 5) (po_some pe_int) po_none) pa_nil)) (pg_name (i := 6) sc__law_due.nd rfl (.inl rfl)))
      (pss_cons (ps_if ((pw_or (pt_cmpR op_notIn_seq (pe_ix ix_list (pv 5) pe_int (fun _ _ => rfl)) (pe_callTy (call_listS rfl) (by rfl) T.n_list (by decide +kernel) (pa_cons pe_str pa_nil)) (by rfl)) (pw_or (pt_cmpR op_isN (pv 6) pe_non (nomark _)) (pw_or1 (pt_cmpR (op_neE hr.units0) (pe_lc (own := [("_law_one", 1)]) (by rfl) sc__law_due.nd (pi_list (pv 2)) (blkOk_by (own := [("_law_one", 1)]) (N := ["_law_text_here", "_law_one", "_law_found", "_law_rows", "_law_k", "_law_words", "_law_keys_here"]) (sc := defScope s__law_due) (by decide +kernel)) (fun _ _ _ _ _ => (pg_name (i := 1) sc__law_due.nd rfl (.inl rfl))) (fun _ _ _ _ _ => (pts_one (pt_cmpR op_ge_str (pe_ix (ix_tupB (K := K) rfl) (pv 1) pe_int (fun _ _ => rfl)) (pe_ix (ix_listB (K := K) rfl) (pv 5) pe_int (fun _ _ => rfl)) (nomark _)))) (fun _ _ _ _ _ => (pv 1))) (pe_lst pa_nil) (nomark _)))))).pt (pss_one (ps_ret (pe_tup (pa_cons pe_str (pa_cons (pv 4) pa_nil))))) pss_nil)
      (pss_one (ps_expr (pe_bm PySem.F.plainAttrs_list PySem.F.slot_list_append PySem.F.type_list_append mt_append (pv 2) (pa_cons (pe_tup (pa_cons (pe_ix ix_list (pv 5) pe_int (fun _ _ => rfl)) (pa_cons (pv 6) pa_nil))) pa_nil))))))))
      (pss_one (ps_ret (pv 2)))))), ?_⟩
  obtain ⟨l, rfl, hl, hok, kS, kE⟩ := h
  have hsz : sizeLine = 16777216 := sizeLine_eq
  refine ⟨line16 (by show 0 ≤ 1000000; decide), fun F nF => ?_⟩
  have kF : Kq [] H (upd H F (.lst [])) := Kq.alloc nF
  have gF0 : (upd H F (.lst [])) F = some (.lst []) := upd_same
  -- the rows
  generalize hrows : (if l = [] then [] else TL.spl [10] 0 [] l) = rows
  have hread : readV l = rowsV' Str.empty 0 rows := by
    unfold readV
    rw [← hrows]
    split <;> rfl
  have hrl : rows.length ≤ 100001 := by
    rw [← hrows]
    split
    · decide
    · have := (spl_lens [10] l 0 []).1
      omega
  have hrow : ∀ x ∈ rows, x.length ≤ 100000 ∧ ∀ c ∈ x, okSign c := fun x hx => by
    rw [← hrows] at hx
    split at hx
    · cases hx
    · refine ⟨Nat.le_trans (spl_mem hx) hl, fun c hc => ?_⟩
      obtain ⟨h1, h2⟩ := spl_in hx c hc
      rcases hok c h1 with z | z
      · exact z
      · exact absurd z h2
  refine ⟨fun σ' H' => ∃ R, σ' = [some (.str (S l)), none, some (.ref F), some (.ref R), none, none, none] ∧ Kq [] (upd H F (.lst [])) H' ∧ H' R = some (.lst (rows.map strW)) ∧ R ≠ F, ?_, ?_⟩
  · refine ⟨_, rfl, rfl, _, rfl, ?_⟩
    rw [lit_e, str_dec]
    by_cases e : l = []
    · rw [decide_eq_true e]
      rw [if_pos e] at hrows
      refine iteF ⟨line16 (by show 0 ≤ 1000000; decide), fun R nR => ⟨R, rfl, Kq.alloc nR, ?_, (ne_of_none gF0 nR).symm⟩⟩
      rw [upd_same, ← hrows]; rfl
    · rw [decide_eq_false e]
      rw [if_neg e] at hrows
      refine iteT ?_
      refine ⟨_, rfl, ⟨_, rfl⟩, _, Str.ofString "\n", rfl, rfl, by decide +kernel, by rw [S_len]; omega, fun R nR => ?_⟩
      refine ⟨R, rfl, Kq.alloc nR, ?_, (ne_of_none gF0 nR).symm⟩
      rw [upd_same, (lit_split (S l) l rfl).2.2, hrows, List.map_map]
      rfl
  rintro σ1 H1 ⟨R, rfl, k1, gR, nRF⟩
  have gF1 := k1.get gF0
  have k0 : Kq [] H H1 := kF.trans k1
  refine ⟨_, rfl, R, _, rfl, .inl (SqL.of gR), ?_⟩
  have hnn : (rows.map strW).length = rows.length := List.length_map _
  rw [hnn]
  refine ⟨_, rfl, by omega, by omega, ?_⟩
  refine for_range (lo := 0) (n := (rows.length : Int).toNat) (fun k σ H' => ∃ v4 v5 v6 ps done u, σ = [some (.str (S l)), none, some (.ref F), some (.ref R), v4, v5, v6] ∧ Kq [] H H' ∧ H' F = some (.lst (ps.map V.ref)) ∧ RowsAt K H' ps done ∧ H' R = some (.lst (rows.map strW)) ∧ AboveIs done u ∧ done.length ≤ k ∧ rowsV' Str.empty 0 rows = (match rowsV' u k (rows.drop k) with | .inl e => .inl e | .inr rs => .inr (done ++ rs)))
    ⟨none, none, none, [], [], Str.empty, rfl, k0, gF1, .nil, gR, .inl ⟨rfl, rfl⟩, Nat.le_refl _, by rw [List.drop_zero]; cases rowsV' Str.empty 0 rows <;> rfl⟩ ?_ ?_
  rotate_left
  · rintro σ H' ⟨v4, v5, v6, ps, done, u, rfl, k2, gF, hR, gR2, hab, hdl, hrv⟩
    rw [Int.toNat_natCast, List.drop_length] at hrv
    refine ⟨_, rfl, kS done F ps H' ?_ k2 nF gF hR⟩
    rw [hread, hrv]
    show Sum.inr (done ++ []) = _
    rw [List.append_nil]
  clear gF0 kF k1 gF1 k0 gR
  rintro k σ H2 hk ⟨v4, v5, v6, ps, done, u, rfl, k2, gF, hR, gR, hab, hdl, hrv⟩
  rw [Int.toNat_natCast] at hk
  have hdrop : rows.drop k = rows[k] :: rows.drop (k + 1) := List.drop_eq_getElem_cons hk
  have hrk := hrow rows[k] (List.getElem_mem hk)
  rw [hdrop] at hrv
  generalize hrw : rows[k] = row at hrv hrk hdrop
  have e0 : (rows.map strW)[k]? = some (strW row) := by rw [List.getElem?_map, List.getElem?_eq_getElem hk, hrw]; rfl
  refine ⟨_, rfl, _, rfl, R, _, _, _, rfl, rfl, SqL.of gR, at_of (j := k) (by omega) e0, ⟨_, rfl⟩, _, Str.ofString " ", rfl, rfl, by decide +kernel, by rw [S_len]; omega, fun W nW => ?_⟩
  rw [(lit_split (S row) row rfl).2.1]
  obtain ⟨z, ws, hws⟩ : ∃ z ws, TL.spl [32] 0 [] row = z :: ws := by
    cases h : TL.spl [32] 0 [] row with
    | nil => exact absurd h (spl_ne _ _ _ _)
    | cons z ws => exact ⟨z, ws, rfl⟩
  rw [hws, show ((z :: ws).map S).map V.str = (z :: ws).map strW by rw [List.map_map]; rfl]
  have hwok : ∀ x ∈ z :: ws, x.length ≤ 100000 ∧ ∀ c ∈ x, okSign c := fun x hx => by
    rw [← hws] at hx
    exact ⟨Nat.le_trans (spl_mem hx) hrk.1, fun c hc => hrk.2 c (spl_in hx c hc).1⟩
  have hwl : (z :: ws).length ≤ 100001 := by
    have := (spl_lens [32] row 0 []).1
    rw [hws] at this
    omega
  have hstep : rowsV' u k (row :: rows.drop (k + 1)) = (match tapeV ws with
        | none => .inl k
        | some xss => if risesB (S z) u = true then (match rowsV' (S z) (k + 1) (rows.drop (k + 1)) with
          | .inl e => .inl e
          | .inr rs => .inr ((S z, xss) :: rs)) else .inl k) := by
    rw [rowsV', hws]
    all_goals rfl
  rw [hstep] at hrv
  have kW : Kq [] H2 (upd H2 W (.lst ((z :: ws).map strW))) := Kq.alloc nW
  have gW : (upd H2 W (.lst ((z :: ws).map strW))) W = some (.lst ((z :: ws).map strW)) := upd_same
  have k2 := k2.trans kW
  have gF := kW.get gF
  have hR := hR.kq kW
  have gR := kW.get gR
  generalize (upd H2 W (.lst ((z :: ws).map strW))) = H3 at kW gW k2 gF hR gR ⊢
  clear kW nW
  refine ⟨_, rfl, _, rfl, W, _, rfl, SqL.of gW, fun p np => ?_⟩
  rw [show cutV ((z :: ws).map strW) (some 1) none = ws.map strW by rw [show cutV ((z :: ws).map strW) (some 1) none = ((z :: ws).map strW).drop 1 from cut_drop (n := 1) _ rfl]; rfl]
  have kp : Kq [] H3 (upd H3 p (.lst (ws.map strW))) := Kq.alloc np
  have gp : (upd H3 p (.lst (ws.map strW))) p = some (.lst (ws.map strW)) := upd_same
  have k2 := k2.trans kp
  have gF := kp.get gF
  have hR := hR.kq kp
  have gR := kp.get gR
  have gW := kp.get gW
  generalize (upd H3 p (.lst (ws.map strW))) = H4 at kp gp k2 gF hR gR gW ⊢
  clear kp np
  -- how it is refused
  have bad : rowsV' Str.empty 0 rows = .inl k → ∀ H', Kq [] H H' → ∀ p, H' p = none → Q (.ref p) (upd H' p (.tup [.str "BadTape", .int ((0 : Int) + (k : Int))])) := fun e H' k' p np => by
    refine kE k (by rw [hread]; exact e) p _ (k'.trans (Kq.alloc np)) ?_
    rw [upd_same, Int.zero_add]
  have hname : ∀ H', H' W = some (.lst ((z :: ws).map strW)) → SqL K H' W (strW z :: ws.map strW) := fun H' g => SqL.of g
  have badA : inV (strW z) namesV = false → rowsV' Str.empty 0 rows = .inl k := fun e => by
    have hr0 : risesB (S z) u = false := by
      unfold risesB
      rw [show inV (.str (S z)) namesV = false from e]; rfl
    rw [hrv]
    cases tapeV ws with
    | none => rfl
    | some xss =>
      dsimp only
      rw [if_neg (by rw [hr0]; decide)]
  refine ⟨p, ws, rfl, gp, by rw [List.length_cons] at hwl; omega, fun x hx => hwok x (List.mem_cons_of_mem _ hx), fun xss q as H5 hxs k5 gq hq => ?_, fun hxs H5 k5 => ?_⟩
  rotate_left
  · have gW5 := k5.get gW
    refine ⟨_, rfl, W, _, _, strW z, rfl, rfl, hname _ gW5, at_of (j := 0) rfl rfl, _, rfl, line16 (by decide +kernel), fun q nq => ?_⟩
    have kq : Kq [] H5 (upd H5 q (.lst (signsL (Str.ofString "abcdefgh")))) := Kq.alloc nq
    refine ⟨q, _, rfl, .inl (SqL.of upd_same), rfl, by decide +kernel, _, rfl, ?_⟩
    rw [names_signs]
    have hb : rowsV' Str.empty 0 rows = .inl k := by rw [hrv, hxs]
    cases hin : inV (strW z) namesV with
    | false => exact iteT ⟨_, rfl, line16 (by show 2 ≤ 1000000; decide), fun p np => bad hb _ ((k2.trans k5).trans kq) p np⟩
    | true => exact iteF ⟨_, rfl, rfl, _, rfl, iteT ⟨_, rfl, line16 (by show 2 ≤ 1000000; decide), fun p np => bad hb _ ((k2.trans k5).trans kq) p np⟩⟩
  · have gW5 := k5.get gW
    have k2 := k2.trans k5
    have gF := k5.get gF
    have hR := hR.kq k5
    have gR := k5.get gR
    refine ⟨_, rfl, W, _, _, strW z, rfl, rfl, hname _ gW5, at_of (j := 0) rfl rfl, _, rfl, line16 (by decide +kernel), fun q2 nq2 => ?_⟩
    have kq : Kq [] H5 (upd H5 q2 (.lst (signsL (Str.ofString "abcdefgh")))) := Kq.alloc nq2
    refine ⟨q2, _, rfl, .inl (SqL.of upd_same), rfl, by decide +kernel, _, rfl, ?_⟩
    rw [names_signs]
    cases hin : inV (strW z) namesV with
    | false => exact iteT ⟨_, rfl, line16 (by show 2 ≤ 1000000; decide), fun p np => bad (badA hin) _ (k2.trans kq) p np⟩
    | true =>
      refine iteF ⟨_, rfl, rfl, _, rfl, iteF ?_⟩
      obtain ⟨n, hn8, ez⟩ := name_of hin
      have k2 := k2.trans kq
      have gF := kq.get gF
      have hR := hR.kq kq
      have gR := kq.get gR
      have gW := kq.get gW5
      have gq := kq.tup gq
      have hq := hq.kq kq
      show tTest _ _ (upd H5 q2 (.lst (signsL (Str.ofString "abcdefgh")))) _
      generalize (upd H5 q2 (.lst (signsL (Str.ofString "abcdefgh")))) = H6 at kq k2 gF hR gR gW gq hq ⊢
      clear kq nq2
      have hpl := hR.len
      refine ⟨_, rfl, F, rfl, ⟨_, SqL.of gF⟩, fun D nD => ?_⟩
      refine lc_list (K := K) (a := F) (xs := ps.map V.ref) (fun i H' => Kq [] H6 H' ∧ ∃ xs, H' D = some (.lst xs) ∧ xs.length ≤ i ∧ (xs = [] ↔ ∀ r ∈ done.take i, decide (r.1.cps.toList < (nameS n).cps.toList) = true)) ⟨Kq.alloc nD, [], upd_same, Nat.le_refl _, by simp⟩ (fun i H' _ z => SqL.of (z.1.get gF)) ?_ ?_
      · rintro i x H' hx ⟨k3, xs, gD, hxl, hxe⟩
        rw [List.getElem?_map] at hx
        obtain ⟨pa, hpa, rfl⟩ := Option.map_eq_some_iff.mp hx
        have hi : i < ps.length := (List.getElem?_eq_some_iff.mp hpa).1
        have hid : i < done.length := by omega
        obtain ⟨t, as', g1, g2, g3⟩ := (hR.kq k3).at_ hi hid
        have ea : ps[i] = pa := by rw [List.getElem?_eq_getElem hi] at hpa; exact Option.some.inj hpa
        rw [ea] at g1
        have htake : done.take (i + 1) = done.take i ++ [done[i]] := by rw [List.take_succ, List.getElem?_eq_getElem hid]; rfl
        refine ⟨rfl, ?_⟩
        refine ⟨_, rfl, pa, _, _, _, rfl, rfl, g1, at_of (j := 0) rfl rfl, _, rfl, W, _, _, strW z, rfl, rfl, hname _ (k3.get gW), at_of (j := 0) rfl rfl, _, S z, rfl, rfl, _, rfl, ?_⟩
        rw [ez]
        cases hc : decide (done[i].1.cps.toList < (nameS n).cps.toList) with
        | true =>
          refine iteF ⟨k3, xs, gD, by omega, ?_⟩
          rw [hxe, htake]
          constructor
          · intro h r hr
            rcases List.mem_append.mp hr with y | y
            · exact h r y
            · rw [List.mem_singleton.mp y]; exact hc
          · intro h r hr
            exact h r (List.mem_append_left _ hr)
        | false =>
          refine iteT ⟨_, rfl, xs, gD, by omega, k3.writeF nD gD, xs ++ [.ref pa], upd_same, by rw [List.length_append]; show xs.length + 1 ≤ i + 1; omega, ?_⟩
          constructor
          · intro h
            simp at h
          · intro h
            have := h done[i] (by rw [htake]; exact List.mem_append_right _ (List.mem_singleton.mpr rfl))
            rw [hc] at this
            cases this
      · rintro H7 ⟨k3, xs, gD, hxl, hxe⟩
        rw [List.length_map, hpl, List.take_length] at hxe
        have hrise := above_rises hab hn8
        refine ⟨line16 (by show 0 ≤ 1000000; decide), fun e ne => ?_⟩
        have ke : Kq [] H7 (upd H7 e (.lst [])) := Kq.alloc ne
        refine ⟨D, e, xs, rfl, rfl, SqL.of (ke.get gD), SqL.of upd_same, _, rfl, ?_⟩
        have k4 := k3.trans ke
        cases xs with
        | cons y ys =>
          have hr0 : risesB (S z) u = false := by
            rw [ez, hrise]
            exact decide_eq_false fun h => by have := hxe.mpr h; cases this
          refine iteT ⟨_, rfl, line16 (by show 2 ≤ 1000000; decide), fun p np => bad ?_ _ (k2.trans k4) p np⟩
          rw [hrv, hxs]
          dsimp only
          rw [if_neg (by rw [hr0]; decide)]
        | nil =>
          have hr1 : risesB (S z) u = true := by
            rw [ez, hrise]
            exact decide_eq_true (hxe.mp rfl)
          refine iteF ?_
          have gF := k4.get gF
          have hR := hR.kq k4
          have gR := k4.get gR
          have gW := k4.get gW
          have gq := k4.tup gq
          have hq := hq.kq k4
          have k2 := k2.trans k4
          show tNext _ _ (upd H7 e (.lst []))
          generalize (upd H7 e (.lst [])) = H8 at ke k4 k2 gF hR gR gW gq hq ⊢
          refine ⟨_, rfl, .inl ⟨rfl, _, SqL.of gF⟩, _, rfl, W, _, _, strW z, rfl, rfl, hname _ gW, at_of (j := 0) rfl rfl, _, rfl, line16 (by show 2 ≤ 1000000; decide), fun t nt => ?_⟩
          have kt : Kq [] H8 (upd H8 t (.tup [strW z, .ref q])) := Kq.alloc nt
          have gt : SqT K (upd H8 t (.tup [strW z, .ref q])) t [.str (S z), .ref q] := SqT.of upd_same
          have gF := kt.get gF
          refine ⟨F, _, _, rfl, rfl, gF, by rw [List.length_map]; omega, ?_⟩
          have hR2 := (hR.kq kt).snoc gt (kt.tup gq) (hq.kq kt)
          have kw : Kf [F] (upd H8 t (.tup [strW z, .ref q])) (upd (upd H8 t (.tup [strW z, .ref q])) F (.lst (ps.map V.ref ++ [.ref t]))) := Kf.one gF
          have nRF2 : R ∉ [F] := by simpa using nRF
          refine ⟨_, _, _, ps ++ [t], done ++ [(S z, xss)], S z, rfl, (k2.trans kt).writeF nF gF, by rw [upd_same, List.map_append]; rfl, hR2.kf kw, kw.q.gets (kt.get gR) nRF2, ?_, by rw [List.length_append]; show done.length + 1 ≤ k + 1; omega, ?_⟩
          · rw [ez]
            exact above_snoc hab hn8 (by rw [← ez]; exact hr1) xss
          · rw [hrv, hxs]
            dsimp only
            rw [if_pos hr1]
            cases rowsV' (S z) (k + 1) (List.drop (k + 1) rows) with
            | inl e => rfl
            | inr rs => show Sum.inr _ = Sum.inr _; simp
end
end KT
set_option Elab.async false
set_option linter.all false
set_option maxRecDepth 100000
set_option maxHeartbeats 4000000
namespace KT
open PySem PySem.Spec PyProof.Rows L2
variable [GT]
/-! ### how long a spoilt text is -/
def sumL (ps : List Ln) : Nat := (ps.map (·.length)).sum
theorem sumL_app (a b : List Ln) : sumL (a ++ b) = sumL a + sumL b := by unfold sumL; rw [List.map_append, List.sum_append]
theorem sumL_cons (a : Ln) (b : List Ln) : sumL (a :: b) = a.length + sumL b := by unfold sumL; rw [List.map_cons, List.sum_cons]
theorem sumL_nil : sumL [] = 0 := rfl
theorem sumL_split (ps : List Ln) (k : Nat) : sumL (ps.take k) + sumL (ps.drop k) = sumL ps := by rw [← sumL_app, List.take_append_drop]
theorem sumL_at {ps : List Ln} {k : Nat} (h : k < ps.length) : sumL (ps.take k) + ps[k].length + sumL (ps.drop (k + 1)) = sumL ps := by
  have h1 := sumL_split ps k
  rw [List.drop_eq_getElem_cons h, sumL_cons] at h1
  omega
theorem spl_sum (s : Nat) : ∀ (l acc : Ln), sumL (TL.spl [s] 0 acc l) + (TL.spl [s] 0 acc l).length = acc.length + l.length + 1
  | [], acc => by rw [TL.spl_nil, sumL_cons, sumL_nil]; simp
  | d :: r, acc => by
    by_cases e : d = s
    · have hp : TL.pre [s] (d :: r) = true := by rw [pre_one, decide_eq_true e]
      have ih := spl_sum s r []
      rw [TL.spl_hit hp, sumL_cons, List.length_cons, show (d :: r).length = r.length + 1 from rfl]
      show acc.length + sumL (TL.spl [s] 0 [] r) + ((TL.spl [s] 0 [] r).length + 1) = _
      simp only [List.length_nil] at ih
      omega
    · have hp : TL.pre [s] (d :: r) = false := by rw [pre_one, decide_eq_false e]
      have ih := spl_sum s r (acc ++ [d])
      rw [TL.spl_miss hp, ih, List.length_append, List.length_cons]
      simp
      omega
theorem joinL_sum (s : Nat) : ∀ ps : List Ln, (TL.joinL [s] ps).length ≤ sumL ps + ps.length
  | [] => Nat.zero_le _
  | [p] => by show p.length ≤ _; rw [sumL_cons]; omega
  | p :: q :: r => by
    have ih := joinL_sum s (q :: r)
    rw [joinL_cons _ _ (by simp), List.length_append, List.length_append, sumL_cons, show (p :: q :: r).length = (q :: r).length + 1 from rfl]
    show p.length + (1 + (TL.joinL [s] (q :: r)).length) ≤ _
    omega
theorem joinL_mem1 (s : Nat) : ∀ (ps : List Ln) (c : Nat), c ∈ TL.joinL [s] ps → c = s ∨ ∃ p ∈ ps, c ∈ p
  | [], c, h => by cases h
  | [p], c, h => .inr ⟨p, by simp, h⟩
  | p :: q :: r, c, h => by
    rw [joinL_cons _ _ (by simp)] at h
    rcases List.mem_append.mp h with z | z
    · exact .inr ⟨p, by simp, z⟩
    · rcases List.mem_append.mp z with y | y
      · exact .inl (List.mem_singleton.mp y)
      · rcases joinL_mem1 s (q :: r) c y with e | ⟨p', hp, hc⟩
        · exact .inl e
        · exact .inr ⟨p', List.mem_cons_of_mem _ hp, hc⟩
def goodC (c : Nat) : Prop := okSign c ∨ c = 10
def goodT (l : Ln) : Prop := ∀ c ∈ l, goodC c
theorem goodT_join {ps : List Ln} (h : ∀ p ∈ ps, goodT p) : goodT (TL.joinL [10] ps) := fun c hc => by
  rcases joinL_mem1 10 ps c hc with e | ⟨p, hp, hc⟩
  · exact .inr e
  · exact h p hp c hc
theorem goodT_joinW {ps : List Ln} (h : ∀ p ∈ ps, goodT p) : goodT (TL.joinL [32] ps) := fun c hc => by
  rcases joinL_mem1 32 ps c hc with e | ⟨p, hp, hc⟩
  · exact .inl (by rw [e]; exact ⟨by decide, by decide⟩)
  · exact h p hp c hc
theorem goodT_spl {s : Nat} {l x : Ln} (h : goodT l) (hx : x ∈ TL.spl [s] 0 [] l) : goodT x := fun c hc => h c (spl_in hx c hc).1
theorem sumL_len_S (ps : List Ln) : ((ps.map S).map (·.length)).sum = sumL ps := lens_S ps
end KT
set_option Elab.async false
set_option linter.all false
set_option maxRecDepth 100000
set_option maxHeartbeats 4000000
namespace KT
open PySem PySem.Spec PyProof.Rows L2 GxR
variable [GT]
section
variable {P : Program} {w : World} {K : PySem.W.Frag} {mg : Str → Option Value} {base : Heap}
def oddS : Str := Str.ofString "~_ a1\n"
theorem odd_cps : oddS.cps.toList = [126, 95, 32, 97, 49, 10] := by decide +kernel
theorem odd_good : ∀ c ∈ oddS.cps.toList, goodC c := by
  rw [odd_cps]
  intro c hc
  simp only [List.mem_cons, List.not_mem_nil, or_false] at hc
  rcases hc with rfl | rfl | rfl | rfl | rfl | rfl
  all_goals first | exact .inr rfl | exact .inl ⟨by decide, by decide⟩
theorem goodT_take {t : Ln} (h : goodT t) (n : Nat) : goodT (t.take n) := fun c hc => h c (List.mem_of_mem_take hc)
theorem goodT_drop {t : Ln} (h : goodT t) (n : Nat) : goodT (t.drop n) := fun c hc => h c (List.mem_of_mem_drop hc)
theorem goodT_app {a b : Ln} (h : goodT a) (g : goodT b) : goodT (a ++ b) := fun c hc => (List.mem_append.mp hc).elim (h c) (g c)
theorem goodT_one {c : Nat} (h : goodC c) : goodT [c] := fun d hd => by rw [List.mem_singleton.mp hd]; exact h
theorem goodT_nil : goodT [] := fun c hc => by cases hc
theorem cutW_to (xs : List Ln) {i : Int} {n : Nat} (e : i = (n : Int)) : cutV (xs.map strW) none (some i) = (xs.take n).map strW := by rw [cut_take _ e, List.map_take]
theorem cutW_from (xs : List Ln) {i : Int} {n : Nat} (e : i = (n : Int)) : cutV (xs.map strW) (some i) none = (xs.drop n).map strW := by rw [cut_drop _ e, List.map_drop]
def odd1 : List Str := ["", "0", "1", "9", "10", "01", "~", "~~", "~_", "~a", "a", "h", "i", "put", "find", "play", "till", "rub"]
def odd2 : List Str := ["Rub", "abcde", "~~~~~_~_~~", "ab", "-1", "lay"]
def oddW : List Str := odd1 ++ odd2
theorem oddW_ok : ∀ z ∈ oddW, (∀ c ∈ TL.tl z, okSign c) ∧ (TL.tl z).length ≤ 10 := by decide +kernel
theorem odd_word {r : Nat} (h : r < 24) : ∃ z : Ln, (oddW.map V.str)[r]? = some (strW z) ∧ goodT z ∧ z.length ≤ 10 := by
  have hl : r < oddW.length := h
  obtain ⟨h1, h2⟩ := oddW_ok _ (List.getElem_mem hl)
  refine ⟨TL.tl oddW[r], ?_, fun c hc => .inl (h1 c hc), h2⟩
  rw [List.getElem?_map, List.getElem?_eq_getElem hl]
  show some (V.str oddW[r]) = some (V.str (S (TL.tl oddW[r])))
  rw [S_tl]
def sp_spoilt (K : PySem.W.Frag) : Sp := fun vs H Q _ => ∃ (h l : Addr) (t : Ln), vs = [.ref h, .str (S t)] ∧ DrAt H h l ∧ t.length ≤ 100000 ∧ goodT t ∧ ∀ t' H', t'.length ≤ 2 * t.length + 20 → goodT t' → Kf [h, l] H H' → DrAt H' h l → Q (.str (S t')) H'
theorem sc__law_spoilt : FnScope ["_law_h", "_law_text_here", "_law_turn", "_law_at", "_law_sign_here", "_law_rows", "_law_k", "_law_words", "_law_j", "_law_odd"] ["_law_h", "_law_text_here"] (defScope s__law_spoilt) := ⟨rfl, rfl, rfl, by decide +kernel, rfl, by decide +kernel, by decide +kernel⟩
theorem ok__law_spoilt (T : Tx w K mg) : Fk P w K mg base 3 (Ad K d__law_spoilt.at_) ["_law_h", "_law_text_here"] (sp_spoilt K) := by
  have F__law_next := ok__law_next (P := P) (base := base) T
  have F__law_sign := ok__law_sign (P := P) (base := base) T
  refine mkF T.f__law_spoilt sc__law_spoilt rfl (fun _ _ _ _ _ _ us hl => match us, hl with | [_, _], _ => rfl) (fun vs H Q E h => by obtain ⟨_, _, _, rfl, _⟩ := h; rfl) (fun cdv A outer s H vs Q E hcd hcode hr h => ?_)
  refine ⟨_, (pss_cons (ps_asg (pe_cF F__law_next (hr.mono (by decide)) T.g__law_next px (pa_cons (pv 0) (pa_cons pe_int pa_nil))) (pg_name (i := 2) sc__law_spoilt.nd rfl (.inl rfl)))
      (pss_cons (ps_asg (pe_cF F__law_next (hr.mono (by decide)) T.g__law_next px (pa_cons (pv 0) (pa_cons (pe_op op_add (pe_callB call_len_str (by rfl) T.n_len (by decide +kernel) (pa_cons (pv 1) pa_nil)) pe_int) pa_nil))) (pg_name (i := 3) sc__law_spoilt.nd rfl (.inl rfl)))
      (pss_cons (ps_asg (pe_ix ix_list (pe_lst (pa_cons (pe_ix ix_str pe_str (pe_cF F__law_next (hr.mono (by decide)) T.g__law_next px (pa_cons (pv 0) (pa_cons pe_int pa_nil))) (fun _ _ => rfl)) (pa_cons (pe_cF F__law_sign (hr.mono (by decide)) T.g__law_sign px (pa_cons (pv 0) pa_nil)) pa_nil))) (pe_cF F__law_next (hr.mono (by decide)) T.g__law_next px (pa_cons (pv 0) (pa_cons pe_int pa_nil))) (fun _ _ => rfl)) (pg_name (i := 4) sc__law_spoilt.nd rfl (.inl rfl)))
      (pss_cons (ps_if (pt_cmpR op_lt (pv 2) pe_int (nomark _)) (pss_one (ps_ret (pe_op op_add_str (pe_op op_add_str (pe_slice sl_str (pv 1) po_none (po_some (pv 3))) (pe_ix ix_list (pe_lst (pa_cons (pv 4) (pa_cons pe_str (pa_cons (pv 4) pa_nil)))) (pv 2) (fun _ _ => rfl))) (pe_slice sl_str (pv 1) (po_some (pe_op op_add (pv 3) (pe_callTy call_int1 (by rfl) T.n_int (by decide +kernel) (pa_cons (pe_cmpR op_gt (pv 2) pe_int (nomark _)) pa_nil)))) po_none)))) pss_nil)
      (pss_cons (ps_asg (pe_split (pv 1) pe_str) (pg_name (i := 5) sc__law_spoilt.nd rfl (.inl rfl)))
      (pss_cons (ps_asg (pe_cF F__law_next (hr.mono (by decide)) T.g__law_next px (pa_cons (pv 0) (pa_cons (pe_callB call_len_seq (by rfl) T.n_len (by decide +kernel) (pa_cons (pv 5) pa_nil)) pa_nil))) (pg_name (i := 6) sc__law_spoilt.nd rfl (.inl rfl)))
      (pss_cons (ps_if (pt_cmpR op_lt (pv 2) pe_int (nomark _)) (pss_one (ps_ret (pe_join pe_str (pe_ix ix_list (pe_lst (pa_cons (pe_op op_cat (pe_slice sl_list (pv 5) po_none (po_some (pv 6))) (pe_slice sl_list (pv 5) (po_some (pe_op op_add (pv 6) pe_int)) po_none)) (pa_cons (pe_op op_cat (pe_slice sl_list (pv 5) po_none (po_some (pe_op op_add (pv 6) pe_int))) (pe_slice sl_list (pv 5) (po_some (pv 6)) po_none)) (pa_cons (pe_op op_cat (pe_slice sl_list (pv 5) (po_some (pv 6)) po_none) (pe_slice sl_list (pv 5) po_none (po_some (pv 6)))) pa_nil)))) (pe_op op_sub (pv 2) pe_int) (fun _ _ => rfl))))) pss_nil)
      (pss_cons (ps_asg (pe_split (pe_ix ix_list (pv 5) (pv 6) (fun _ _ => rfl)) pe_str) (pg_name (i := 7) sc__law_spoilt.nd rfl (.inl rfl)))
      (pss_cons (ps_asg (pe_cF F__law_next (hr.mono (by decide)) T.g__law_next px (pa_cons (pv 0) (pa_cons (pe_callB call_len_seq (by rfl) T.n_len (by decide +kernel) (pa_cons (pv 7) pa_nil)) pa_nil))) (pg_name (i := 8) sc__law_spoilt.nd rfl (.inl rfl)))
      (pss_cons (ps_asg (pe_lst (pa_cons pe_str (pa_cons pe_str (pa_cons pe_str (pa_cons pe_str (pa_cons pe_str (pa_cons pe_str (pa_cons pe_str (pa_cons pe_str (pa_cons pe_str (pa_cons pe_str (pa_cons pe_str (pa_cons pe_str (pa_cons pe_str (pa_cons pe_str (pa_cons pe_str (pa_cons pe_str (pa_cons pe_str (pa_cons pe_str pa_nil))))))))))))))))))) (pg_name (i := 9) sc__law_spoilt.nd rfl (.inl rfl)))
      (pss_cons (ps_asg (pe_op op_cat (pv 9) (pe_lst (pa_cons pe_str (pa_cons pe_str (pa_cons pe_str (pa_cons pe_str (pa_cons pe_str (pa_cons pe_str pa_nil)))))))) (pg_name (i := 9) sc__law_spoilt.nd rfl (.inl rfl)))
      (pss_cons (ps_asg (pe_op op_cat (pe_op op_cat (pe_slice sl_list (pv 7) po_none (po_some (pv 8))) (pe_ix ix_list (pe_lst (pa_cons (pe_lst pa_nil) (pa_cons (pe_op op_rep (pe_lst (pa_cons (pe_ix ix_list (pv 7) (pv 8) (fun _ _ => rfl)) pa_nil)) pe_int) (pa_cons (pe_lst (pa_cons (pe_ix ix_list (pv 9) (pe_cF F__law_next (hr.mono (by decide)) T.g__law_next px (pa_cons (pv 0) (pa_cons pe_int pa_nil))) (fun _ _ => rfl)) pa_nil)) pa_nil)))) (pe_op op_sub (pv 2) pe_int) (fun _ _ => rfl))) (pe_slice sl_list (pv 7) (po_some (pe_op op_add (pv 8) pe_int)) po_none)) (pg_name (i := 7) sc__law_spoilt.nd rfl (.inl rfl)))
      (pss_one (ps_ret (pe_join pe_str (pe_op op_cat (pe_op op_cat (pe_slice sl_list (pv 5) po_none (po_some (pv 6))) (pe_lst (pa_cons (pe_join pe_str (pv 7)) pa_nil))) (pe_slice sl_list (pv 5) (po_some (pe_op op_add (pv 6) pe_int)) po_none))))))))))))))))), ?_⟩
  obtain ⟨h, l, t, rfl, hD, ht, hg, kQ⟩ := h
  have hsz : sizeLine = 16777216 := sizeLine_eq
  refine ⟨_, rfl, h, l, 9, rfl, hD, by decide, by decide, fun r1 H1 hr1 k1 hD1 => ?_⟩
  refine ⟨_, rfl, _, rfl, S t, rfl, by rw [S_len]; omega, _, _, rfl, rfl, h, l, t.length + 1, by rw [S_len]; rfl, hD1, by omega, by omega, fun r2 H2 hr2 k2 hD2 => ?_⟩
  refine ⟨_, rfl, h, l, 6, rfl, hD2, by decide, by decide, fun r3 H3 hr3 k3 hD3 => ?_⟩
  have h3 : r3 < oddS.cps.toList.length := by rw [odd_cps]; exact hr3
  refine ⟨oddS, _, _, rfl, rfl, line16 (by decide +kernel), cps_at rfl (List.getElem?_eq_getElem h3), ?_⟩
  have hg3 := odd_good _ (List.getElem_mem h3)
  generalize oddS.cps.toList[r3] = c3 at hg3 ⊢
  refine ⟨_, rfl, h, l, rfl, hD3, fun c4 H4 hc4 k4 hD4 => ⟨line16 (by show 2 ≤ 1000000; decide), fun L nL => ?_⟩⟩
  have kL : Kq [] H4 (upd H4 L (.lst [.str (S [c3]), .str (S [c4])])) := Kq.alloc nL
  have nLd : L ∉ [h, l] := fresh_ne hD4.some nL
  refine ⟨_, rfl, h, l, 2, rfl, hD4.kq kL, by decide, by decide, fun r5 H5 hr5 k5 hD5 => ?_⟩
  have gL : H5 L = some (.lst [.str (S [c3]), .str (S [c4])]) := k5.q.gets upd_same nLd
  obtain ⟨c, ec, hc⟩ : ∃ c, ([.str (S [c3]), .str (S [c4])] : List V)[r5]? = some (.str (S [c])) ∧ goodC c := match r5, hr5 with
    | 0, _ => ⟨c3, rfl, hg3⟩
    | 1, _ => ⟨c4, rfl, .inl hc4⟩
  refine ⟨L, _, _, _, rfl, rfl, SqL.of gL, at_of rfl ec, ?_⟩
  have k05 : Kf [h, l] H H5 := ((((k1.trans k2).trans k3).trans k4).kq kL).trans k5
  clear k1 k2 k3 k4 k5 kL gL ec hD hD1 hD2 hD3 hD4 nL nLd
  refine ⟨_, rfl, _, _, rfl, rfl, _, rfl, ?_⟩
  by_cases e3 : r1 < 3
  · rw [decide_eq_true (by omega)]
    refine iteT ?_
    refine ⟨_, rfl, _, rfl, _, rfl, S t, rfl, by rw [S_len]; omega, ?_⟩
    rw [show cutS (S t) none (some (r2 : Int)) = S (t.take r2) from cut_to t rfl]
    refine ⟨_, rfl, _, rfl, line16 (by show 3 ≤ 1000000; decide), fun L nL => ?_⟩
    have kL : Kq [] H5 (upd H5 L (.lst [.str (S [c]), .str "", .str (S [c])])) := Kq.alloc nL
    obtain ⟨m, em, hm, hml⟩ : ∃ m : Ln, ([.str (S [c]), .str "", .str (S [c])] : List V)[r1]? = some (.str (S m)) ∧ goodT m ∧ m.length ≤ 1 := match r1, e3 with
      | 0, _ => ⟨[c], rfl, goodT_one hc, Nat.le_refl 1⟩
      | 1, _ => ⟨[], by rw [lit_e]; rfl, goodT_nil, by decide⟩
      | 2, _ => ⟨[c], rfl, goodT_one hc, Nat.le_refl 1⟩
    refine ⟨_, rfl, L, _, _, _, rfl, rfl, SqL.of upd_same, at_of rfl em, S (t.take r2), S m, rfl, rfl, by rw [S_len, S_len, List.length_take]; omega, ?_⟩
    rw [S_app]
    refine ⟨_, rfl, _, rfl, _, rfl, _, _, rfl, rfl, .inr ⟨_, rfl, _, _, rfl, rfl, _, rfl, S t, rfl, by rw [S_len]; omega, ?_⟩⟩
    rw [show cutS (S t) (some ((r2 : Int) + (if decide ((0 : Int) < (r1 : Int)) = true then 1 else 0))) none = S (t.drop (r2 + (if 0 < r1 then 1 else 0))) from cut_from t (by
      by_cases z : 0 < r1
      · rw [if_pos z, if_pos (decide_eq_true (by omega))]; simp
      · rw [if_neg z, if_neg (by simpa using z)]; simp)]
    refine ⟨S (t.take r2 ++ m), S (t.drop (r2 + (if 0 < r1 then 1 else 0))), rfl, rfl, by rw [S_len, S_len, List.length_append, List.length_take, List.length_drop]; omega, ?_⟩
    rw [S_app]
    refine kQ _ _ ?_ (goodT_app (goodT_app (goodT_take hg _) hm) (goodT_drop hg _)) (k05.kq kL) (hD5.kq kL)
    rw [List.length_append, List.length_append, List.length_take, List.length_drop]
    omega
  · rw [decide_eq_false (by omega)]
    refine iteF ?_
    -- rows
    generalize hrows : TL.spl [10] 0 [] t = rows
    have hsum := spl_sum 10 t []
    rw [hrows, List.length_nil] at hsum
    have hne : 1 ≤ rows.length := by
      have := spl_ne [10] t 0 []
      rw [hrows] at this
      exact List.length_pos_iff.mpr this
    have hgood : ∀ p ∈ rows, goodT p := fun p hp => goodT_spl hg (hrows ▸ hp)
    refine ⟨_, rfl, ⟨_, rfl⟩, _, Str.ofString "\n", rfl, rfl, by decide +kernel, by rw [S_len]; omega, fun R nR => ?_⟩
    rw [(lit_split (S t) t rfl).2.2, hrows, show (rows.map S).map V.str = rows.map strW by rw [List.map_map]; rfl]
    have kR : Kq [] H5 (upd H5 R (.lst (rows.map strW))) := Kq.alloc nR
    have gR : (upd H5 R (.lst (rows.map strW))) R = some (.lst (rows.map strW)) := upd_same
    have nRd : R ∉ [h, l] := fresh_ne hD5.some nR
    have k05 := k05.kq kR
    have hD5 := hD5.kq kR
    generalize (upd H5 R (.lst (rows.map strW))) = H6 at kR gR k05 hD5 ⊢
    clear kR nR
    refine ⟨_, rfl, _, rfl, R, _, rfl, .inl (SqL.of gR), h, l, rows.length, by rw [List.length_map], hD5, hne, by omega, fun k H7 hk k7 hD7 => ?_⟩
    have gR := k7.q.gets gR nRd
    have k07 := k05.trans k7
    clear k7 hD5 k05
    refine ⟨_, rfl, _, _, rfl, rfl, _, rfl, ?_⟩
    have hat := sumL_at hk
    have hspl := sumL_split rows k
    by_cases e6 : r1 < 6
    · rw [decide_eq_true (by omega)]
      refine iteT ?_
      have kk : Kq [] H7 H7 := Kq.refl
      refine ⟨⟨_, rfl⟩, _, rfl, _, rfl, _, rfl, R, _, rfl, SqL.of gR, fun p1a np1a => ?_⟩
      rw [show cutV (rows.map strW) none (some (k : Int)) = (rows.take k).map strW from cutW_to rows (by simp)]
      have kp1a : Kq [] H7 (upd H7 p1a (.lst ((rows.take k).map strW))) := Kq.alloc np1a
      have gp1a : (upd H7 p1a (.lst ((rows.take k).map strW))) p1a = some (.lst ((rows.take k).map strW)) := upd_same
      have gR := kp1a.get gR
      have kk := kk.trans kp1a
      have hD7 := hD7.kq kp1a
      generalize (upd H7 p1a (.lst ((rows.take k).map strW))) = J1 at gp1a gR kk hD7 ⊢
      clear kp1a np1a
      refine ⟨_, rfl, _, rfl, _, _, rfl, rfl, _, rfl, R, _, rfl, SqL.of gR, fun p1b np1b => ?_⟩
      rw [show cutV (rows.map strW) (some ((k : Int) + 1)) none = (rows.drop (k + 1)).map strW from cutW_from rows (by simp)]
      have kp1b : Kq [] J1 (upd J1 p1b (.lst ((rows.drop (k + 1)).map strW))) := Kq.alloc np1b
      have gp1b : (upd J1 p1b (.lst ((rows.drop (k + 1)).map strW))) p1b = some (.lst ((rows.drop (k + 1)).map strW)) := upd_same
      have gR := kp1b.get gR
      have kk := kk.trans kp1b
      have hD7 := hD7.kq kp1b
      have gp1a := kp1b.get gp1a
      generalize (upd J1 p1b (.lst ((rows.drop (k + 1)).map strW))) = J2 at gp1b gR kk hD7 gp1a ⊢
      clear kp1b np1b
      refine ⟨p1a, p1b, _, _, rfl, rfl, gp1a, gp1b, line16 (by rw [List.length_map, List.length_map]; simp; omega), fun q1 nq1 => ?_⟩
      rw [show (rows.take k).map strW ++ (rows.drop (k + 1)).map strW = (rows.take k ++ rows.drop (k + 1)).map strW from (List.map_append).symm]
      have kq1 : Kq [] J2 (upd J2 q1 (.lst ((rows.take k ++ rows.drop (k + 1)).map strW))) := Kq.alloc nq1
      have gq1 : (upd J2 q1 (.lst ((rows.take k ++ rows.drop (k + 1)).map strW))) q1 = some (.lst ((rows.take k ++ rows.drop (k + 1)).map strW)) := upd_same
      have gR := kq1.get gR
      have kk := kk.trans kq1
      have hD7 := hD7.kq kq1
      have gp1a := kq1.get gp1a
      have gp1b := kq1.get gp1b
      generalize (upd J2 q1 (.lst ((rows.take k ++ rows.drop (k + 1)).map strW))) = J3 at gq1 gR kk hD7 gp1a gp1b ⊢
      clear kq1 nq1
      clear gp1a gp1b
      refine ⟨_, rfl, _, rfl, _, _, rfl, rfl, _, rfl, R, _, rfl, SqL.of gR, fun p2a np2a => ?_⟩
      rw [show cutV (rows.map strW) none (some ((k : Int) + 1)) = (rows.take (k + 1)).map strW from cutW_to rows (by simp)]
      have kp2a : Kq [] J3 (upd J3 p2a (.lst ((rows.take (k + 1)).map strW))) := Kq.alloc np2a
      have gp2a : (upd J3 p2a (.lst ((rows.take (k + 1)).map strW))) p2a = some (.lst ((rows.take (k + 1)).map strW)) := upd_same
      have gR := kp2a.get gR
      have kk := kk.trans kp2a
      have hD7 := hD7.kq kp2a
      have gq1 := kp2a.get gq1
      generalize (upd J3 p2a (.lst ((rows.take (k + 1)).map strW))) = J4 at gp2a gR kk hD7 gq1 ⊢
      clear kp2a np2a
      refine ⟨_, rfl, _, rfl, _, rfl, R, _, rfl, SqL.of gR, fun p2b np2b => ?_⟩
      rw [show cutV (rows.map strW) (some (k : Int)) none = (rows.drop k).map strW from cutW_from rows (by simp)]
      have kp2b : Kq [] J4 (upd J4 p2b (.lst ((rows.drop k).map strW))) := Kq.alloc np2b
      have gp2b : (upd J4 p2b (.lst ((rows.drop k).map strW))) p2b = some (.lst ((rows.drop k).map strW)) := upd_same
      have gR := kp2b.get gR
      have kk := kk.trans kp2b
      have hD7 := hD7.kq kp2b
      have gq1 := kp2b.get gq1
      have gp2a := kp2b.get gp2a
      generalize (upd J4 p2b (.lst ((rows.drop k).map strW))) = J5 at gp2b gR kk hD7 gq1 gp2a ⊢
      clear kp2b np2b
      refine ⟨p2a, p2b, _, _, rfl, rfl, gp2a, gp2b, line16 (by rw [List.length_map, List.length_map]; simp; omega), fun q2 nq2 => ?_⟩
      rw [show (rows.take (k + 1)).map strW ++ (rows.drop k).map strW = (rows.take (k + 1) ++ rows.drop k).map strW from (List.map_append).symm]
      have kq2 : Kq [] J5 (upd J5 q2 (.lst ((rows.take (k + 1) ++ rows.drop k).map strW))) := Kq.alloc nq2
      have gq2 : (upd J5 q2 (.lst ((rows.take (k + 1) ++ rows.drop k).map strW))) q2 = some (.lst ((rows.take (k + 1) ++ rows.drop k).map strW)) := upd_same
      have gR := kq2.get gR
      have kk := kk.trans kq2
      have hD7 := hD7.kq kq2
      have gq1 := kq2.get gq1
      have gp2a := kq2.get gp2a
      have gp2b := kq2.get gp2b
      generalize (upd J5 q2 (.lst ((rows.take (k + 1) ++ rows.drop k).map strW))) = J6 at gq2 gR kk hD7 gq1 gp2a gp2b ⊢
      clear kq2 nq2
      clear gp2a gp2b
      refine ⟨_, rfl, _, rfl, _, rfl, R, _, rfl, SqL.of gR, fun p3a np3a => ?_⟩
      rw [show cutV (rows.map strW) (some (k : Int)) none = (rows.drop k).map strW from cutW_from rows (by simp)]
      have kp3a : Kq [] J6 (upd J6 p3a (.lst ((rows.drop k).map strW))) := Kq.alloc np3a
      have gp3a : (upd J6 p3a (.lst ((rows.drop k).map strW))) p3a = some (.lst ((rows.drop k).map strW)) := upd_same
      have gR := kp3a.get gR
      have kk := kk.trans kp3a
      have hD7 := hD7.kq kp3a
      have gq1 := kp3a.get gq1
      have gq2 := kp3a.get gq2
      generalize (upd J6 p3a (.lst ((rows.drop k).map strW))) = J7 at gp3a gR kk hD7 gq1 gq2 ⊢
      clear kp3a np3a
      refine ⟨_, rfl, _, rfl, _, rfl, R, _, rfl, SqL.of gR, fun p3b np3b => ?_⟩
      rw [show cutV (rows.map strW) none (some (k : Int)) = (rows.take k).map strW from cutW_to rows (by simp)]
      have kp3b : Kq [] J7 (upd J7 p3b (.lst ((rows.take k).map strW))) := Kq.alloc np3b
      have gp3b : (upd J7 p3b (.lst ((rows.take k).map strW))) p3b = some (.lst ((rows.take k).map strW)) := upd_same
      have gR := kp3b.get gR
      have kk := kk.trans kp3b
      have hD7 := hD7.kq kp3b
      have gq1 := kp3b.get gq1
      have gq2 := kp3b.get gq2
      have gp3a := kp3b.get gp3a
      generalize (upd J7 p3b (.lst ((rows.take k).map strW))) = J8 at gp3b gR kk hD7 gq1 gq2 gp3a ⊢
      clear kp3b np3b
      refine ⟨p3a, p3b, _, _, rfl, rfl, gp3a, gp3b, line16 (by rw [List.length_map, List.length_map]; simp; omega), fun q3 nq3 => ?_⟩
      rw [show (rows.drop k).map strW ++ (rows.take k).map strW = (rows.drop k ++ rows.take k).map strW from (List.map_append).symm]
      have kq3 : Kq [] J8 (upd J8 q3 (.lst ((rows.drop k ++ rows.take k).map strW))) := Kq.alloc nq3
      have gq3 : (upd J8 q3 (.lst ((rows.drop k ++ rows.take k).map strW))) q3 = some (.lst ((rows.drop k ++ rows.take k).map strW)) := upd_same
      have gR := kq3.get gR
      have kk := kk.trans kq3
      have hD7 := hD7.kq kq3
      have gq1 := kq3.get gq1
      have gq2 := kq3.get gq2
      have gp3a := kq3.get gp3a
      have gp3b := kq3.get gp3b
      generalize (upd J8 q3 (.lst ((rows.drop k ++ rows.take k).map strW))) = J9 at gq3 gR kk hD7 gq1 gq2 gp3a gp3b ⊢
      clear kq3 nq3
      clear gp3a gp3b
      refine ⟨line16 (by show 3 ≤ 1000000; decide), fun L2 nL2 => ?_⟩
      have kL2 : Kq [] J9 (upd J9 L2 (.lst [.ref q1, .ref q2, .ref q3])) := Kq.alloc nL2
      have gL2 : (upd J9 L2 (.lst [.ref q1, .ref q2, .ref q3])) L2 = some (.lst [.ref q1, .ref q2, .ref q3]) := upd_same
      have gR := kL2.get gR
      have kk := kk.trans kL2
      have hD7 := hD7.kq kL2
      have gq1 := kL2.get gq1
      have gq2 := kL2.get gq2
      have gq3 := kL2.get gq3
      generalize (upd J9 L2 (.lst [.ref q1, .ref q2, .ref q3])) = J10 at gL2 gR kk hD7 gq1 gq2 gq3 ⊢
      clear kL2 nL2
      obtain ⟨X, xs, eX, gX, hx1, hx2⟩ : ∃ X xs, ([.ref q1, .ref q2, .ref q3] : List V)[r1 - 3]? = some (.ref X) ∧ J10 X = some (.lst (xs.map strW)) ∧ (∀ p ∈ xs, goodT p) ∧ sumL xs + xs.length ≤ 2 * t.length + 10 := by
        have hb : ∀ xs : List Ln, (∀ p ∈ xs, p ∈ rows) → ∀ p ∈ xs, goodT p := fun xs h p hp => hgood p (h p hp)
        have hin : ∀ n, ∀ p ∈ rows.take n, p ∈ rows := fun n p hp => List.mem_of_mem_take hp
        have hin2 : ∀ n, ∀ p ∈ rows.drop n, p ∈ rows := fun n p hp => List.mem_of_mem_drop hp
        have hcat : ∀ a b : List Ln, (∀ p ∈ a, p ∈ rows) → (∀ p ∈ b, p ∈ rows) → ∀ p ∈ a ++ b, p ∈ rows := fun a b h1 h2 p hp => (List.mem_append.mp hp).elim (h1 p) (h2 p)
        have hs1 := sumL_split rows (k + 1)
        have hl1 : (rows.take k).length = k := by rw [List.length_take]; omega
        have hl2 : (rows.drop k).length = rows.length - k := List.length_drop
        have hl3 : (rows.take (k + 1)).length = k + 1 := by rw [List.length_take]; omega
        have hl4 : (rows.drop (k + 1)).length = rows.length - (k + 1) := List.length_drop
        obtain h | h | h : r1 = 3 ∨ r1 = 4 ∨ r1 = 5 := by omega
        · subst h
          refine ⟨q1, _, rfl, gq1, hb _ (hcat _ _ (hin _) (hin2 _)), ?_⟩
          rw [sumL_app, List.length_append, hl1, hl4]
          omega
        · subst h
          refine ⟨q2, _, rfl, gq2, hb _ (hcat _ _ (hin _) (hin2 _)), ?_⟩
          rw [sumL_app, List.length_append, hl3, hl2]
          omega
        · subst h
          refine ⟨q3, _, rfl, gq3, hb _ (hcat _ _ (hin2 _) (hin _)), ?_⟩
          rw [sumL_app, List.length_append, hl1, hl2]
          omega
      refine ⟨_, rfl, _, _, rfl, rfl, L2, _, _, .ref X, rfl, rfl, SqL.of gL2, at_of (j := r1 - 3) (by omega) eX, ?_⟩
      refine ⟨nS, X, xs.map S, rfl, rfl, .inl (SqL.of (by rw [List.map_map]; exact gX)), ?_, ?_⟩
      · rw [sumL_len_S, List.length_map, show nS.length = 1 by decide +kernel]; omega
      rw [joinS, show TL.tl nS = [10] by decide +kernel]
      refine kQ _ _ ?_ (goodT_join hx1) (k07.kq kk) hD7
      have := joinL_sum 10 xs
      omega
    · rw [decide_eq_false (by omega)]
      refine iteF ?_
      have e0 : (rows.map strW)[k]? = some (strW rows[k]) := by rw [List.getElem?_map, List.getElem?_eq_getElem hk]; rfl
      have hrk := hgood _ (List.getElem_mem hk)
      generalize rows[k] = row at e0 hrk hat ⊢
      generalize hws : TL.spl [32] 0 [] row = ws
      have hsumw := spl_sum 32 row []
      rw [hws, List.length_nil] at hsumw
      have hnew : 1 ≤ ws.length := by
        have := spl_ne [32] row 0 []
        rw [hws] at this
        exact List.length_pos_iff.mpr this
      have hgw : ∀ p ∈ ws, goodT p := fun p hp => goodT_spl hrk (hws ▸ hp)
      refine ⟨_, rfl, _, rfl, R, _, _, _, rfl, rfl, SqL.of gR, at_of (j := k) rfl e0, ⟨_, rfl⟩, _, Str.ofString " ", rfl, rfl, by decide +kernel, by rw [S_len]; omega, fun W nW => ?_⟩
      rw [(lit_split (S row) row rfl).2.1, hws, show (ws.map S).map V.str = ws.map strW by rw [List.map_map]; rfl]
      have kW : Kq [] H7 (upd H7 W (.lst (ws.map strW))) := Kq.alloc nW
      have gW : (upd H7 W (.lst (ws.map strW))) W = some (.lst (ws.map strW)) := upd_same
      have mW : W ∉ [h, l] := fresh_ne hD7.some nW
      have gR := kW.get gR
      have k07 := k07.kq kW
      have hD7 := hD7.kq kW
      generalize (upd H7 W (.lst (ws.map strW))) = H8 at kW gW gR k07 hD7 ⊢
      clear kW nW
      refine ⟨_, rfl, _, rfl, W, _, rfl, .inl (SqL.of gW), h, l, ws.length, by rw [List.length_map], hD7, hnew, by omega, fun j H9 hj k9 hD9 => ?_⟩
      have gW := k9.q.gets gW mW
      have gR := k9.q.gets gR nRd
      have k09 := k07.trans k9
      clear k9 hD7 k07
      have hatw := sumL_at hj
      -- odd words
      have kk : Kq [] H9 H9 := Kq.refl
      refine ⟨line16 (by show 18 ≤ 1000000; decide), fun o1 no1 => ?_⟩
      have ko1 : Kq [] H9 (upd H9 o1 (.lst (odd1.map V.str))) := Kq.alloc no1
      have go1 : (upd H9 o1 (.lst (odd1.map V.str))) o1 = some (.lst (odd1.map V.str)) := upd_same
      have gR := ko1.get gR
      have gW := ko1.get gW
      have kk := kk.trans ko1
      have hD9 := hD9.kq ko1
      show gName 9 _ _ (upd H9 o1 (.lst (odd1.map V.str))) _
      generalize (upd H9 o1 (.lst (odd1.map V.str))) = J1 at go1 gR gW kk hD9 ⊢
      clear ko1 no1
      refine ⟨_, rfl, line16 (by show 6 ≤ 1000000; decide), fun o2 no2 => ?_⟩
      have ko2 : Kq [] J1 (upd J1 o2 (.lst (odd2.map V.str))) := Kq.alloc no2
      have go2 : (upd J1 o2 (.lst (odd2.map V.str))) o2 = some (.lst (odd2.map V.str)) := upd_same
      have gR := ko2.get gR
      have gW := ko2.get gW
      have kk := kk.trans ko2
      have hD9 := hD9.kq ko2
      have go1 := ko2.get go1
      show rCat _ _ (upd J1 o2 (.lst (odd2.map V.str))) _
      generalize (upd J1 o2 (.lst (odd2.map V.str))) = J2 at go2 gR gW kk hD9 go1 ⊢
      clear ko2 no2
      refine ⟨o1, o2, _, _, rfl, rfl, go1, go2, line16 (by show 24 ≤ 1000000; decide), fun o3 no3 => ?_⟩
      have mo3 : o3 ∉ [h, l] := fresh_ne hD9.some no3
      rw [show odd1.map V.str ++ odd2.map V.str = oddW.map V.str from rfl]
      have ko3 : Kq [] J2 (upd J2 o3 (.lst (oddW.map V.str))) := Kq.alloc no3
      have go3 : (upd J2 o3 (.lst (oddW.map V.str))) o3 = some (.lst (oddW.map V.str)) := upd_same
      have gR := ko3.get gR
      have gW := ko3.get gW
      have kk := kk.trans ko3
      have hD9 := hD9.kq ko3
      have go1 := ko3.get go1
      have go2 := ko3.get go2
      generalize (upd J2 o3 (.lst (oddW.map V.str))) = J3 at go3 gR gW kk hD9 go1 go2 ⊢
      clear ko3 no3
      clear go1 go2
      refine ⟨_, rfl, _, rfl, _, rfl, W, _, rfl, SqL.of gW, fun pa npa => ?_⟩
      rw [show cutV (ws.map strW) none (some (j : Int)) = (ws.take j).map strW from cutW_to ws (by simp)]
      have mpa : pa ∉ [h, l] := fresh_ne hD9.some npa
      have kpa : Kq [] J3 (upd J3 pa (.lst ((ws.take j).map strW))) := Kq.alloc npa
      have gpa : (upd J3 pa (.lst ((ws.take j).map strW))) pa = some (.lst ((ws.take j).map strW)) := upd_same
      have gR := kpa.get gR
      have gW := kpa.get gW
      have kk := kk.trans kpa
      have hD9 := hD9.kq kpa
      have go3 := kpa.get go3
      generalize (upd J3 pa (.lst ((ws.take j).map strW))) = J4 at gpa gR gW kk hD9 go3 ⊢
      clear kpa npa
      refine ⟨line16 (by show 0 ≤ 1000000; decide), fun b1 nb1 => ?_⟩
      rw [show (HO.lst ([] : List V)) = .lst (([] : List Ln).map strW) from rfl]
      have mb1 : b1 ∉ [h, l] := fresh_ne hD9.some nb1
      have kb1 : Kq [] J4 (upd J4 b1 (.lst (([] : List Ln).map strW))) := Kq.alloc nb1
      have gb1 : (upd J4 b1 (.lst (([] : List Ln).map strW))) b1 = some (.lst (([] : List Ln).map strW)) := upd_same
      have gR := kb1.get gR
      have gW := kb1.get gW
      have kk := kk.trans kb1
      have hD9 := hD9.kq kb1
      have go3 := kb1.get go3
      have gpa := kb1.get gpa
      generalize (upd J4 b1 (.lst (([] : List Ln).map strW))) = J5 at gb1 gR gW kk hD9 go3 gpa ⊢
      clear kb1 nb1
      have ej : (ws.map strW)[j]? = some (strW ws[j]) := by rw [List.getElem?_map, List.getElem?_eq_getElem hj]; rfl
      refine ⟨_, rfl, _, rfl, W, _, _, _, rfl, rfl, SqL.of gW, at_of (j := j) rfl ej, line16 (by show 1 ≤ 1000000; decide), fun b2a nb2a => ?_⟩
      have hgj := hgw _ (List.getElem_mem hj)
      have kb2a : Kq [] J5 (upd J5 b2a (.lst ([strW ws[j]]))) := Kq.alloc nb2a
      have gb2a : (upd J5 b2a (.lst ([strW ws[j]]))) b2a = some (.lst ([strW ws[j]])) := upd_same
      have gR := kb2a.get gR
      have gW := kb2a.get gW
      have kk := kk.trans kb2a
      have hD9 := hD9.kq kb2a
      have go3 := kb2a.get go3
      have gpa := kb2a.get gpa
      have gb1 := kb2a.get gb1
      generalize (upd J5 b2a (.lst ([strW ws[j]]))) = J6 at gb2a gR gW kk hD9 go3 gpa gb1 ⊢
      clear kb2a nb2a
      refine ⟨b2a, _, _, rfl, rfl, gb2a, by decide, by decide, line16 (by show 1 * 2 ≤ 1000000; decide), fun b2 nb2 => ?_⟩
      rw [show (List.replicate (2 : Int).toNat [strW ws[j]]).flatten = [ws[j], ws[j]].map strW from rfl]
      have mb2 : b2 ∉ [h, l] := fresh_ne hD9.some nb2
      have kb2 : Kq [] J6 (upd J6 b2 (.lst ([ws[j], ws[j]].map strW))) := Kq.alloc nb2
      have gb2 : (upd J6 b2 (.lst ([ws[j], ws[j]].map strW))) b2 = some (.lst ([ws[j], ws[j]].map strW)) := upd_same
      have gR := kb2.get gR
      have gW := kb2.get gW
      have kk := kk.trans kb2
      have hD9 := hD9.kq kb2
      have go3 := kb2.get go3
      have gpa := kb2.get gpa
      have gb1 := kb2.get gb1
      have gb2a := kb2.get gb2a
      generalize (upd J6 b2 (.lst ([ws[j], ws[j]].map strW))) = J7 at gb2 gR gW kk hD9 go3 gpa gb1 gb2a ⊢
      clear kb2 nb2
      clear gb2a
      refine ⟨_, rfl, _, rfl, h, l, 24, rfl, hD9, by decide, by decide, fun r7 Hx hr7 kx hDx => ?_⟩
      have go3 := kx.q.gets go3 mo3
      have gpa := kx.q.gets gpa mpa
      have gb1 := kx.q.gets gb1 mb1
      have gb2 := kx.q.gets gb2 mb2
      have gW := kx.q.gets gW mW
      have gR := kx.q.gets gR nRd
      have k0x := (k09.kq kk).trans kx
      clear kx kk hD9 k09
      have kk : Kq [] Hx Hx := Kq.refl
      obtain ⟨z, ez, hz⟩ : ∃ z : Ln, (oddW.map V.str)[r7]? = some (strW z) ∧ goodT z ∧ z.length ≤ 10 := odd_word hr7
      refine ⟨o3, _, _, _, rfl, rfl, SqL.of go3, at_of (j := r7) rfl ez, line16 (by show 1 ≤ 1000000; decide), fun b3 nb3 => ?_⟩
      rw [show (HO.lst [strW z]) = .lst ([z].map strW) from rfl]
      clear go3
      have kb3 : Kq [] Hx (upd Hx b3 (.lst ([z].map strW))) := Kq.alloc nb3
      have gb3 : (upd Hx b3 (.lst ([z].map strW))) b3 = some (.lst ([z].map strW)) := upd_same
      have gR := kb3.get gR
      have gW := kb3.get gW
      have kk := kk.trans kb3
      have hDx := hDx.kq kb3
      have gpa := kb3.get gpa
      have gb1 := kb3.get gb1
      have gb2 := kb3.get gb2
      generalize (upd Hx b3 (.lst ([z].map strW))) = J8 at gb3 gR gW kk hDx gpa gb1 gb2 ⊢
      clear kb3 nb3
      refine ⟨line16 (by show 3 ≤ 1000000; decide), fun L3 nL3 => ?_⟩
      have kL3 : Kq [] J8 (upd J8 L3 (.lst [.ref b1, .ref b2, .ref b3])) := Kq.alloc nL3
      have gL3 : (upd J8 L3 (.lst [.ref b1, .ref b2, .ref b3])) L3 = some (.lst [.ref b1, .ref b2, .ref b3]) := upd_same
      have gR := kL3.get gR
      have gW := kL3.get gW
      have kk := kk.trans kL3
      have hDx := hDx.kq kL3
      have gpa := kL3.get gpa
      have gb1 := kL3.get gb1
      have gb2 := kL3.get gb2
      have gb3 := kL3.get gb3
      generalize (upd J8 L3 (.lst [.ref b1, .ref b2, .ref b3])) = J9 at gL3 gR gW kk hDx gpa gb1 gb2 gb3 ⊢
      clear kL3 nL3
      obtain ⟨Y, ys, eY, gY, hy1, hy2⟩ : ∃ Y ys, ([.ref b1, .ref b2, .ref b3] : List V)[r1 - 6]? = some (.ref Y) ∧ J9 Y = some (.lst (ys.map strW)) ∧ (∀ p ∈ ys, goodT p) ∧ sumL ys + ys.length ≤ 2 * (ws[j]).length + 11 := by
        obtain h | h | h : r1 = 6 ∨ r1 = 7 ∨ r1 = 8 := by omega
        · subst h
          exact ⟨b1, _, rfl, gb1, fun p hp => (by cases hp), by show 0 ≤ _; omega⟩
        · subst h
          refine ⟨b2, _, rfl, gb2, fun p hp => ?_, ?_⟩
          · simp only [List.mem_cons, List.not_mem_nil, or_false] at hp
            rcases hp with rfl | rfl <;> exact hgj
          · rw [sumL_cons, sumL_cons, sumL_nil]; simp; omega
        · subst h
          refine ⟨b3, _, rfl, gb3, fun p hp => ?_, ?_⟩
          · rw [List.mem_singleton.mp hp]; exact hz.1
          · rw [sumL_cons, sumL_nil]; have := hz.2; simp; omega
      refine ⟨_, rfl, _, _, rfl, rfl, L3, _, _, .ref Y, rfl, rfl, SqL.of gL3, at_of (j := r1 - 6) (by omega) eY, ?_⟩
      clear gb1 gb2
      clear gb3 gL3
      have hysl : ys.length ≤ 2 * 100000 + 11 := by omega
      refine ⟨pa, Y, _, _, rfl, rfl, gpa, gY, line16 (by rw [List.length_map, List.length_map]; rw [List.length_take]; omega), fun c1 nc1 => ?_⟩
      rw [show (ws.take j).map strW ++ (ys).map strW = (ws.take j ++ ys).map strW from (List.map_append).symm]
      have kc1 : Kq [] J9 (upd J9 c1 (.lst ((ws.take j ++ ys).map strW))) := Kq.alloc nc1
      have gc1 : (upd J9 c1 (.lst ((ws.take j ++ ys).map strW))) c1 = some (.lst ((ws.take j ++ ys).map strW)) := upd_same
      have gR := kc1.get gR
      have gW := kc1.get gW
      have kk := kk.trans kc1
      have hDx := hDx.kq kc1
      have gpa := kc1.get gpa
      have gY := kc1.get gY
      generalize (upd J9 c1 (.lst ((ws.take j ++ ys).map strW))) = J10 at gc1 gR gW kk hDx gpa gY ⊢
      clear kc1 nc1
      clear gpa gY
      refine ⟨_, rfl, _, rfl, _, _, rfl, rfl, _, rfl, W, _, rfl, SqL.of gW, fun pb npb => ?_⟩
      rw [show cutV (ws.map strW) (some ((j : Int) + 1)) none = (ws.drop (j + 1)).map strW from cutW_from ws (by simp)]
      have kpb : Kq [] J10 (upd J10 pb (.lst ((ws.drop (j + 1)).map strW))) := Kq.alloc npb
      have gpb : (upd J10 pb (.lst ((ws.drop (j + 1)).map strW))) pb = some (.lst ((ws.drop (j + 1)).map strW)) := upd_same
      have gR := kpb.get gR
      have gW := kpb.get gW
      have kk := kk.trans kpb
      have hDx := hDx.kq kpb
      have gc1 := kpb.get gc1
      generalize (upd J10 pb (.lst ((ws.drop (j + 1)).map strW))) = J11 at gpb gR gW kk hDx gc1 ⊢
      clear kpb npb
      refine ⟨c1, pb, _, _, rfl, rfl, gc1, gpb, line16 (by rw [List.length_map, List.length_map]; rw [List.length_append, List.length_take, List.length_drop]; omega), fun c2 nc2 => ?_⟩
      rw [show (ws.take j ++ ys).map strW ++ (ws.drop (j + 1)).map strW = (ws.take j ++ ys ++ ws.drop (j + 1)).map strW from (List.map_append).symm]
      have kc2 : Kq [] J11 (upd J11 c2 (.lst ((ws.take j ++ ys ++ ws.drop (j + 1)).map strW))) := Kq.alloc nc2
      have gc2 : (upd J11 c2 (.lst ((ws.take j ++ ys ++ ws.drop (j + 1)).map strW))) c2 = some (.lst ((ws.take j ++ ys ++ ws.drop (j + 1)).map strW)) := upd_same
      have gR := kc2.get gR
      have gW := kc2.get gW
      have kk := kk.trans kc2
      have hDx := hDx.kq kc2
      have gc1 := kc2.get gc1
      have gpb := kc2.get gpb
      generalize (upd J11 c2 (.lst ((ws.take j ++ ys ++ ws.drop (j + 1)).map strW))) = J12 at gc2 gR gW kk hDx gc1 gpb ⊢
      clear kc2 nc2
      clear gc1 gpb
      generalize hnw : ws.take j ++ ys ++ ws.drop (j + 1) = nw at gc2 ⊢
      have hnw1 : ∀ p ∈ nw, goodT p := fun p hp => by
        rw [← hnw] at hp
        rcases List.mem_append.mp hp with z | z
        · rcases List.mem_append.mp z with y | y
          · exact hgw p (List.mem_of_mem_take y)
          · exact hy1 p y
        · exact hgw p (List.mem_of_mem_drop z)
      have hnw2 : sumL nw + nw.length ≤ 2 * row.length + 12 := by
        rw [← hnw, sumL_app, sumL_app, List.length_append, List.length_append, List.length_take, List.length_drop]
        omega
      refine ⟨⟨_, rfl⟩, _, rfl, _, rfl, _, rfl, R, _, rfl, SqL.of gR, fun pc npc => ?_⟩
      rw [show cutV (rows.map strW) none (some (k : Int)) = (rows.take k).map strW from cutW_to rows (by simp)]
      have kpc : Kq [] J12 (upd J12 pc (.lst ((rows.take k).map strW))) := Kq.alloc npc
      have gpc : (upd J12 pc (.lst ((rows.take k).map strW))) pc = some (.lst ((rows.take k).map strW)) := upd_same
      have gR := kpc.get gR
      have gW := kpc.get gW
      have kk := kk.trans kpc
      have hDx := hDx.kq kpc
      have gc2 := kpc.get gc2
      generalize (upd J12 pc (.lst ((rows.take k).map strW))) = J13 at gpc gR gW kk hDx gc2 ⊢
      clear kpc npc
      refine ⟨⟨_, rfl⟩, _, rfl, bS, c2, nw.map S, rfl, rfl, .inl (SqL.of (by rw [List.map_map]; exact gc2)), by rw [sumL_len_S, List.length_map, show bS.length = 1 by decide +kernel]; omega, line16 (by show 1 ≤ 1000000; decide), fun d1 nd1 => ?_⟩
      rw [joinS, show TL.tl bS = [32] by decide +kernel, show (HO.lst [.str (S (TL.joinL [32] nw))]) = .lst ([TL.joinL [32] nw].map strW) from rfl]
      have kd1 : Kq [] J13 (upd J13 d1 (.lst ([TL.joinL [32] nw].map strW))) := Kq.alloc nd1
      have gd1 : (upd J13 d1 (.lst ([TL.joinL [32] nw].map strW))) d1 = some (.lst ([TL.joinL [32] nw].map strW)) := upd_same
      have gR := kd1.get gR
      have gW := kd1.get gW
      have kk := kk.trans kd1
      have hDx := hDx.kq kd1
      have gc2 := kd1.get gc2
      have gpc := kd1.get gpc
      generalize (upd J13 d1 (.lst ([TL.joinL [32] nw].map strW))) = J14 at gd1 gR gW kk hDx gc2 gpc ⊢
      clear kd1 nd1
      clear gc2
      refine ⟨pc, d1, _, _, rfl, rfl, gpc, gd1, line16 (by rw [List.length_map, List.length_map]; rw [List.length_take]; simp; omega), fun d2 nd2 => ?_⟩
      rw [show (rows.take k).map strW ++ ([TL.joinL [32] nw]).map strW = (rows.take k ++ [TL.joinL [32] nw]).map strW from (List.map_append).symm]
      have kd2 : Kq [] J14 (upd J14 d2 (.lst ((rows.take k ++ [TL.joinL [32] nw]).map strW))) := Kq.alloc nd2
      have gd2 : (upd J14 d2 (.lst ((rows.take k ++ [TL.joinL [32] nw]).map strW))) d2 = some (.lst ((rows.take k ++ [TL.joinL [32] nw]).map strW)) := upd_same
      have gR := kd2.get gR
      have gW := kd2.get gW
      have kk := kk.trans kd2
      have hDx := hDx.kq kd2
      have gpc := kd2.get gpc
      have gd1 := kd2.get gd1
      generalize (upd J14 d2 (.lst ((rows.take k ++ [TL.joinL [32] nw]).map strW))) = J15 at gd2 gR gW kk hDx gpc gd1 ⊢
      clear kd2 nd2
      clear gpc gd1
      refine ⟨_, rfl, _, rfl, _, _, rfl, rfl, _, rfl, R, _, rfl, SqL.of gR, fun pd npd => ?_⟩
      rw [show cutV (rows.map strW) (some ((k : Int) + 1)) none = (rows.drop (k + 1)).map strW from cutW_from rows (by simp)]
      have kpd : Kq [] J15 (upd J15 pd (.lst ((rows.drop (k + 1)).map strW))) := Kq.alloc npd
      have gpd : (upd J15 pd (.lst ((rows.drop (k + 1)).map strW))) pd = some (.lst ((rows.drop (k + 1)).map strW)) := upd_same
      have gR := kpd.get gR
      have gW := kpd.get gW
      have kk := kk.trans kpd
      have hDx := hDx.kq kpd
      have gd2 := kpd.get gd2
      generalize (upd J15 pd (.lst ((rows.drop (k + 1)).map strW))) = J16 at gpd gR gW kk hDx gd2 ⊢
      clear kpd npd
      refine ⟨d2, pd, _, _, rfl, rfl, gd2, gpd, line16 (by rw [List.length_map, List.length_map]; rw [List.length_append, List.length_take, List.length_drop]; simp; omega), fun d3 nd3 => ?_⟩
      rw [show (rows.take k ++ [TL.joinL [32] nw]).map strW ++ (rows.drop (k + 1)).map strW = (rows.take k ++ [TL.joinL [32] nw] ++ rows.drop (k + 1)).map strW from (List.map_append).symm]
      have kd3 : Kq [] J16 (upd J16 d3 (.lst ((rows.take k ++ [TL.joinL [32] nw] ++ rows.drop (k + 1)).map strW))) := Kq.alloc nd3
      have gd3 : (upd J16 d3 (.lst ((rows.take k ++ [TL.joinL [32] nw] ++ rows.drop (k + 1)).map strW))) d3 = some (.lst ((rows.take k ++ [TL.joinL [32] nw] ++ rows.drop (k + 1)).map strW)) := upd_same
      have gR := kd3.get gR
      have gW := kd3.get gW
      have kk := kk.trans kd3
      have hDx := hDx.kq kd3
      have gd2 := kd3.get gd2
      have gpd := kd3.get gpd
      generalize (upd J16 d3 (.lst ((rows.take k ++ [TL.joinL [32] nw] ++ rows.drop (k + 1)).map strW))) = J17 at gd3 gR gW kk hDx gd2 gpd ⊢
      clear kd3 nd3
      clear gd2 gpd
      have hjn := joinL_sum 32 nw
      have hall : sumL (rows.take k ++ [TL.joinL [32] nw] ++ rows.drop (k + 1)) + (rows.take k ++ [TL.joinL [32] nw] ++ rows.drop (k + 1)).length ≤ 2 * t.length + 18 := by
        rw [sumL_app, sumL_app, List.length_append, List.length_append, List.length_take, List.length_drop, sumL_cons, sumL_nil]
        simp only [List.length_cons, List.length_nil]
        omega
      refine ⟨nS, d3, (rows.take k ++ [TL.joinL [32] nw] ++ rows.drop (k + 1)).map S, rfl, rfl, .inl (SqL.of (by rw [List.map_map]; exact gd3)), by rw [sumL_len_S, List.length_map, show nS.length = 1 by decide +kernel]; omega, ?_⟩
      rw [joinS, show TL.tl nS = [10] by decide +kernel]
      refine kQ _ _ ?_ (goodT_join fun p hp => ?_) (k0x.kq kk) hDx
      · have := joinL_sum 10 (rows.take k ++ [TL.joinL [32] nw] ++ rows.drop (k + 1))
        omega
      · rcases List.mem_append.mp hp with z | z
        · rcases List.mem_append.mp z with y | y
          · exact hgood p (List.mem_of_mem_take y)
          · rw [List.mem_singleton.mp y]; exact goodT_joinW hnw1
        · exact hgood p (List.mem_of_mem_drop z)
end
end KT
set_option Elab.async false
set_option linter.all false
set_option maxRecDepth 100000
set_option maxHeartbeats 4000000
namespace KT
open PySem PySem.Spec PyProof.Rows L2
variable [GT]
/-! ### what is written has good signs -/
theorem goodT_ok {l : Ln} (h : ∀ c ∈ l, okSign c) : goodT l := fun c hc => .inl (h c hc)
theorem quote_good : ∀ {s : Ln}, (∀ c ∈ s, okSign c) → goodT (quote s)
  | [], _ => fun c hc => by cases hc
  | c :: r, h => by
    have ih := quote_good (s := r) fun d hd => h d (by simp [hd])
    have e : quote (c :: r) = qc c ++ quote r := by unfold quote; rw [List.flatMap_cons]
    rw [e]
    intro d hd
    rcases List.mem_append.mp hd with z | z
    · refine .inl ?_
      unfold qc at z
      split at z
      · simp only [List.mem_cons, List.not_mem_nil, or_false] at z
        rcases z with rfl | rfl <;> exact ⟨by decide, by decide⟩
      · split at z
        · simp only [List.mem_cons, List.not_mem_nil, or_false] at z
          rcases z with rfl | rfl <;> exact ⟨by decide, by decide⟩
        · rw [List.mem_singleton.mp z]; exact h c (by simp)
    · exact ih d z
theorem lits_good : ∀ z ∈ (["put", "find", "play", "till"] : List Str) ++ actWords, ∀ c ∈ TL.tl z, okSign c := by decide +kernel
theorem name_good {n : Nat} (h : n < 8) : goodT (TL.tl (nameS n)) := fun c hc => by
  have : c = 97 + n := List.mem_singleton.mp hc
  subst this
  exact .inl ⟨by omega, by omega⟩
theorem wordsL_good {ky : Ky} (h : ky.Ok) : ∀ w ∈ wordsL ky, goodT w := by
  have lit : ∀ z, z ∈ (["put", "find", "play", "till"] : List Str) ++ actWords → goodT (TL.tl z) := fun z hz => goodT_ok (lits_good z hz)
  have one : ∀ z : Str, z ∈ actWords → ∀ w ∈ [TL.tl z], goodT w := fun z hz w hw => by
    rw [List.mem_singleton.mp hw]; exact lit z (List.mem_append_right _ hz)
  intro w hw
  cases ky with
  | put s =>
    rcases List.mem_cons.mp (show w ∈ [TL.tl "put", quote s] from hw) with rfl | z
    · exact lit _ (by decide +kernel)
    · rw [List.mem_singleton.mp z]; exact quote_good h.2
  | find s =>
    rcases List.mem_cons.mp (show w ∈ [TL.tl "find", quote s] from hw) with rfl | z
    · exact lit _ (by decide +kernel)
    · rw [List.mem_singleton.mp z]; exact quote_good h.2.2
  | play n m =>
    obtain ⟨h1, h2, h3⟩ : n < 8 ∧ 1 ≤ m ∧ m ≤ 9 := h
    rcases List.mem_cons.mp (show w ∈ [TL.tl "play", TL.tl (nameS n), TL.tl ((toString ((m : Nat) : Int) : String) : Str)] from hw) with rfl | z
    · exact lit _ (by decide +kernel)
    · rcases List.mem_cons.mp z with rfl | z
      · exact name_good h1
      · rw [List.mem_singleton.mp z, num_str ⟨m, by omega⟩]
        show goodT [48 + m]
        intro c hc
        rw [List.mem_singleton.mp hc]
        exact .inl ⟨by omega, by omega⟩
  | till n =>
    rcases List.mem_cons.mp (show w ∈ [TL.tl "till", TL.tl (nameS n)] from hw) with rfl | z
    · exact lit _ (by decide +kernel)
    · rw [List.mem_singleton.mp z]; exact name_good h
  | brk => exact one "break" (by decide +kernel) w hw
  | rub => exact one "rub" (by decide +kernel) w hw
  | left => exact one "left" (by decide +kernel) w hw
  | right => exact one "right" (by decide +kernel) w hw
  | up => exact one "up" (by decide +kernel) w hw
  | down => exact one "down" (by decide +kernel) w hw
  | home => exact one "home" (by decide +kernel) w hw
  | end_ => exact one "end" (by decide +kernel) w hw
  | take => exact one "take" (by decide +kernel) w hw
  | lay => exact one "lay" (by decide +kernel) w hw
theorem text_good {d : Tps} (ok : TpsOk d) : goodT (TL.tl (textT d)) := by
  rw [text_tl]
  refine goodT_join fun p hp => ?_
  obtain ⟨e, he, rfl⟩ := List.mem_map.mp hp
  obtain ⟨o1, o2, o3⟩ := ok.2 e he
  refine goodT_joinW fun w hw => ?_
  rcases List.mem_cons.mp hw with z | z
  · rw [z]; exact name_good o1
  · obtain ⟨k, hk, hwk⟩ := List.mem_flatMap.mp z
    exact wordsL_good (o3 k hk) w hwk
theorem text_len {d : Tps} (ok : TpsOk d) (h8 : d.length ≤ 8) : (TL.tl (textT d)).length ≤ 6570 := by
  have hall : ∀ x ∈ d.map (fun p => rowS p.1 p.2), x.length ≤ 819 := fun x hx => by
    obtain ⟨p, hp, rfl⟩ := List.mem_map.mp hx
    obtain ⟨o1, o2, o3⟩ := ok.2 p hp
    exact rowS_len o3 o2
  have hsum := sum_len hall
  have hn1 : nS.length = 1 := by decide +kernel
  have h1 := join_len nS (d.map fun p => rowS p.1 p.2)
  rw [List.length_map] at hsum
  rw [hn1, List.length_map] at h1
  have h2 : (TL.tl (textT d)).length = (textT d).length := by show (textT d).cps.toList.length = (textT d).cps.size; simp
  rw [h2]
  unfold textT
  omega
/-! the odd texts -/
def goodZ (z : Str) : Prop := goodT (TL.tl z) ∧ (TL.tl z).length ≤ 1000
def some1 : List Str := ["", "\n", "a", "a rub", "a rub ", " a rub", "a put", "a put ", "a put ~_", "a put ~"]
def some2 : List Str := ["b rub\na rub", "i rub", Str.ofString "a" ++ repS (Str.ofString " rub") 30, Str.ofString "a" ++ repS (Str.ofString " rub") 31]
def some3 : List Str := ["a play b 0", "a play b 9", "a play b", "h find abcde"]
def someW : List Str := some1 ++ some2 ++ some3
instance (c : Nat) : Decidable (goodC c) := by unfold goodC; infer_instance
theorem someW_ok : ∀ z ∈ someW, (∀ c ∈ TL.tl z, goodC c) ∧ (TL.tl z).length ≤ 1000 := by decide +kernel
theorem some_word {r : Nat} (h : r < 18) : ∃ z : Ln, (someW.map V.str)[r]? = some (strW z) ∧ goodT z ∧ z.length ≤ 1000 := by
  have hl : r < someW.length := h
  obtain ⟨h1, h2⟩ := someW_ok _ (List.getElem_mem hl)
  refine ⟨TL.tl someW[r], ?_, h1, h2⟩
  rw [List.getElem?_map, List.getElem?_eq_getElem hl]
  show some (V.str someW[r]) = some (V.str (S (TL.tl someW[r])))
  rw [S_tl]
/-! what is read is what could have been written -/
theorem tapeV_keys {ws : List Ln} {xss : List (List V)} (h : tapeV ws = some xss) : ∃ ks : List Ky, xss = ks.map keyV ∧ ks.length ≤ 30 ∧ ks ≠ [] ∧ ∀ k ∈ ks, k.Ok := by
  have key : ∀ (n : Nat) (ws : List Ln) (xss : List (List V)), ws.length ≤ n → keysV ws = some xss → ∃ ks : List Ky, xss = ks.map keyV ∧ ∀ k ∈ ks, k.Ok := by
    intro n
    induction n with
    | zero =>
      intro ws xss hn h
      have : ws = [] := List.length_eq_zero_iff.mp (by omega)
      subst this
      rw [keysV_nil] at h
      cases h
      exact ⟨[], rfl, by simp⟩
    | succ n ih =>
      intro ws xss hn h
      cases ws with
      | nil =>
        rw [keysV_nil] at h
        cases h
        exact ⟨[], rfl, by simp⟩
      | cons w r =>
        rw [keysV_cons] at h
        split at h
        · rename_i hb
          obtain ⟨ys, hy, rfl⟩ := Option.map_eq_some_iff.mp h
          obtain ⟨k, hk, ek⟩ := keyB_ky hb
          have := (manyW_in w).1
          obtain ⟨ks, e, ok⟩ := ih _ ys (by rw [List.length_drop, List.length_cons] at *; omega) hy
          refine ⟨k :: ks, by rw [ek, e]; rfl, fun x hx => ?_⟩
          rcases List.mem_cons.mp hx with z | z
          · rw [z]; exact hk
          · exact ok x z
        · cases h
  unfold tapeV at h
  cases hk : keysV ws with
  | none => rw [hk] at h; cases h
  | some ys =>
    rw [hk] at h
    have h : (if ys.length = 0 ∨ 30 < ys.length then none else some ys) = some xss := h
    split at h
    · cases h
    · rename_i hn
      cases h
      obtain ⟨ks, e, ok⟩ := key _ ws xss (Nat.le_refl _) hk
      have hl : xss.length = ks.length := by rw [e, List.length_map]
      exact ⟨ks, e, by omega, fun z => hn (.inl (by rw [hl, z]; rfl)), ok⟩
theorem rows_tps : ∀ (rows : List Ln) (u : Str) (i : Nat) (rs : List (Str × List (List V))) (m : Nat), (u = Str.empty ∧ m = 0 ∨ ∃ n, u = nameS n ∧ m = n + 1) → m ≤ 8 → rowsV' u i rows = .inr rs → ∃ d : Tps, rs = rowsT d ∧ d.length + m ≤ 8 ∧ ∀ p ∈ d, p.1 < 8 ∧ p.2.length ≤ 30 ∧ ∀ k ∈ p.2, k.Ok
  | [], u, i, rs, m, _, hm, h => by
    have h : Sum.inr [] = Sum.inr rs := h
    cases h
    exact ⟨[], rfl, by simpa using hm, by simp⟩
  | row :: r, u, i, rs, m, hu, hm, h => by
    rw [rowsV'] at h
    split at h
    · cases h
    · rename_i z ws hs
      split at h
      · cases h
      · rename_i xss hx
        split at h
        · rename_i hr
          split at h
          · cases h
          · rename_i rs2 h2
            cases h
            have hr2 := hr
            unfold risesB at hr2
            rw [Bool.and_eq_true] at hr2
            obtain ⟨n, hn, en⟩ := name_of (l := z) hr2.1
            obtain ⟨ks, ek, k30, _, kok⟩ := tapeV_keys hx
            have hmn : m ≤ n := by
              rcases hu with ⟨_, rfl⟩ | ⟨n0, rfl, rfl⟩
              · exact Nat.zero_le _
              · rw [en] at hr
                have h8 : n0 < 8 := by omega
                rw [rises_two h8 hn] at hr
                have := of_decide_eq_true hr
                omega
            obtain ⟨d, ed, hl, hd⟩ := rows_tps r (S z) (i + 1) rs2 (n + 1) (.inr ⟨n, en, rfl⟩) (by omega) h2
            refine ⟨(n, ks) :: d, ?_, by rw [List.length_cons]; omega, fun p hp => ?_⟩
            · rw [ed, en, ek]; rfl
            · rcases List.mem_cons.mp hp with e | e
              · rw [e]; exact ⟨hn, k30, kok⟩
              · exact hd p e
        · cases h
theorem read_tps {l : Ln} {rs : List (Str × List (List V))} (h : readV l = .inr rs) : ∃ d : Tps, rs = rowsT d ∧ TpsOk d := by
  unfold readV at h
  split at h
  · cases h
    exact ⟨[], rfl, by decide, by simp⟩
  · obtain ⟨d, e, hl, hd⟩ := rows_tps _ _ _ _ 0 (.inl ⟨rfl, rfl⟩) (by decide) h
    exact ⟨d, e, by omega, hd⟩
end KT
set_option Elab.async false
set_option linter.all false
set_option maxRecDepth 100000
set_option maxHeartbeats 4000000
namespace KT
open PySem PySem.Spec PyProof.Rows L2 GxR
variable [GT]
section
variable {P : Program} {w : World} {K : PySem.W.Frag} {mg : Str → Option Value} {base : Heap}
theorem kind_tape {K : PySem.W.Frag} {t : TA} {σ : L2.St} {H : Hp} {Q : VK} {z : Ln} {i : Nat} (hz : readV z = .inl i) (hl : z.length ≤ 100000) (hT : TabG H (tS K)) (ht : ∀ k : List V → Hp → Prop, k [.str (S z)] H → t σ H k) (k : ∀ p H', Kq [] H H' → H' p = some (.tup [.str "BadTape", .int (i : Nat)]) → Q (.ref p) H') : TKind K (fun E2 H' Q' => tCF (sp_read K) E2 t σ H' Q') H Q := by
  unfold TKind
  refine ht _ ⟨z, rfl, hl, hT, fun rs L ps H' e => (by rw [hz] at e; cases e), fun j e d H1 k1 nd => ?_⟩
  rw [hz] at e
  cases e
  exact .inr (.inr ⟨d, _, rfl, rfl, upd_same, fun p H2 k2 hp => k p H2 (k1.trans ((Kq.alloc nd).trans k2)) hp⟩)
def badTD (i : Nat) : PyData := .tuple [.str "BadTape", .int (i : Int)]
theorem dp_badT {K : PySem.W.Frag} {H : Hp} {p : Addr} {i : Nat} (h : H p = some (.tup [.str "BadTape", .int (i : Nat)])) : Dp K H (.ref p) (badTD i) := .tup (SqT.of h) (.cons (.str _) (.cons (.int _) .nil))
theorem shaped_badT (i : Nat) : SeqAt.shaped (badTD i) = true := by
  have w0 : PyData.strOk "BadTape" = true := by decide +kernel
  simp [SeqAt.shaped, badTD, PyData.canLayAll0, PyData.canLay0, PyData.depth, PyData.depthAll, w0]
theorem eqv_badT (i : Nat) : PyData.eqv (badTD i) (badTD i) = true := SeqAt.eqv_refl _ (SeqAt.canLay_of_shaped (shaped_badT i))
def sp_law13 (K : PySem.W.Frag) : Sp := fun vs H Q _ => ∃ (a : Addr) (ns : List Int), vs = [.ref a] ∧ SqL K H a (ns.map V.int) ∧ TabG H (tS K) ∧ TabG H (tW K) ∧ LamX.TabS H (tLn K ("law", none)) (lamQ "law") ∧ ∀ H', Q (.bl true) H'
theorem sc_law : FnScope ["_law_script", "_law_name", "_law_one", "_law_h", "_law_some", "_law_turn", "_law_tapes", "_law_text_here", "_law_change", "_law_due_here"] ["_law_script"] (defScope s_law) := ⟨rfl, rfl, rfl, by decide +kernel, rfl, by decide +kernel, by decide +kernel⟩
theorem ok_law (T : Tx w K mg) (hP : SupP P fileS) (B : TabB base mg (cS K) (tS K)) (B2 : TabB base mg (cW K) (tW K)) (neW : ∀ q ∈ GT.l, q.1 ≠ tW K) (BL : LamX.TabB base mg (He.codeOf K ("law", none)) (tLn K ("law", none))) (GL : GT.l = [(tLn K ("law", none), lamQ "law")]) : Fk P w K mg base 16 (Ad K d_law.at_) ["_law_script"] (sp_law13 K) := by
  have F__law_alike := ok_alike (P := P) (base := base) T 5
  have F__law_due := ok__law_due (P := P) (base := base) T
  have F__law_mix := ok__law_mix (P := P) (base := base) T
  have F__law_next := ok__law_next (P := P) (base := base) T
  have F__law_spoilt := ok__law_spoilt (P := P) (base := base) T
  have F__law_tape := ok__law_tape (P := P) (base := base) T
  have F_read := ok_read (P := P) (base := base) T hP B
  have F_written := ok_written (P := P) (base := base) T hP B B2 neW
  refine mkF T.f_law sc_law rfl (fun _ _ _ _ _ _ us hl => match us, hl with | [_], _ => rfl) (fun vs H Q E h => by obtain ⟨_, _, rfl, _⟩ := h; rfl) (fun cdv A outer s H vs Q E hcd hcode hr h => ?_)
  have po : PassesOwn (model P w) (CxD P w K mg base ["_law_script", "_law_name", "_law_one", "_law_h", "_law_some", "_law_turn", "_law_tapes", "_law_text_here", "_law_change", "_law_due_here"] d_law cdv A outer s H E).A (CxD P w K mg base ["_law_script", "_law_name", "_law_one", "_law_h", "_law_some", "_law_turn", "_law_tapes", "_law_text_here", "_law_change", "_law_due_here"] d_law cdv A outer s H E).env (CxD P w K mg base ["_law_script", "_law_name", "_law_one", "_law_h", "_law_some", "_law_turn", "_law_tapes", "_law_text_here", "_law_change", "_law_due_here"] d_law cdv A outer s H E).xe := passes_of rfl
  refine ⟨_, (pss_cons (ps_asg (pe_cF F__law_mix (hr.mono (by decide)) T.g__law_mix px (pa_cons (pv 0) (pa_cons pe_int pa_nil))) (pg_name (i := 3) sc_law.nd rfl (.inr rfl)))
      (pss_cons (ps_asg (pe_lst (pa_cons pe_str (pa_cons pe_str (pa_cons pe_str (pa_cons pe_str (pa_cons pe_str (pa_cons pe_str (pa_cons pe_str (pa_cons pe_str (pa_cons pe_str (pa_cons pe_str pa_nil))))))))))) (pg_name (i := 4) sc_law.nd rfl (.inl rfl)))
      (pss_cons (ps_asg (pe_op op_cat (pv 4) (pe_lst (pa_cons pe_str (pa_cons pe_str (pa_cons (pe_op op_add_str pe_str (pe_op op_mulS pe_str pe_int)) (pa_cons (pe_op op_add_str pe_str (pe_op op_mulS pe_str pe_int)) pa_nil)))))) (pg_name (i := 4) sc_law.nd rfl (.inl rfl)))
      (pss_cons (ps_asg (pe_op op_cat (pv 4) (pe_lst (pa_cons pe_str (pa_cons pe_str (pa_cons pe_str (pa_cons pe_str pa_nil)))))) (pg_name (i := 4) sc_law.nd rfl (.inl rfl)))
      (pss_cons (ps_for po rfl (pi_range1 (by rfl) T.n_range (pa_cons pe_int pa_nil)) (pg_name (i := 5) sc_law.nd rfl (.inl rfl)) (pss_cons (ps_setLc (i := 6) (own := [("_law_name", 1)]) (by rfl) sc_law.nd rfl rfl (sw_true rfl rfl rfl (by decide +kernel)) (pi_str pe_str) (blkOk_by (own := [("_law_name", 1)]) (N := ["_law_script", "_law_name", "_law_one", "_law_h", "_law_some", "_law_turn", "_law_tapes", "_law_text_here", "_law_change", "_law_due_here"]) (sc := defScope s_law) (by decide +kernel)) (fun _ _ _ _ _ => (pg_name (i := 1) sc_law.nd rfl (.inl rfl))) (fun _ _ _ _ _ => pts_nil) (fun _ _ _ _ _ => (pe_tup (pa_cons (pv 1) (pa_cons (pe_cF F__law_tape (hr.mono (by decide)) T.g__law_tape passL (pa_cons (pv 3) (pa_cons pe_int pa_nil))) pa_nil)))))
      (pss_cons (ps_asg (pe_cF F_written (hr.mono (by decide)) T.g_written px (pa_cons (pe_lc (own := [("_law_one", 2)]) (by rfl) sc_law.nd (pi_list (pv 6)) (blkOk_by (own := [("_law_one", 2)]) (N := ["_law_script", "_law_name", "_law_one", "_law_h", "_law_some", "_law_turn", "_law_tapes", "_law_text_here", "_law_change", "_law_due_here"]) (sc := defScope s_law) (by decide +kernel)) (fun _ _ _ _ _ => (pg_name (i := 2) sc_law.nd rfl (.inl rfl))) (fun _ _ _ _ _ => (pts_one (PW.pt (pw_and (pt_cmpR (op_neDB (K := K) rfl hr.units) (pe_ix (ix_seqB (K := K) rfl) (pv 2) pe_int (fun _ _ => rfl)) (pe_tup pa_nil) (nomark _)) (pw_and1 (pt_cmpR op_eq (pe_cF F__law_next (hr.mono (by decide)) T.g__law_next passL (pa_cons (pv 3) (pa_cons pe_int pa_nil))) pe_int (nomark _))))))) (fun _ _ _ _ _ => (pv 2))) pa_nil)) (pg_name (i := 7) sc_law.nd rfl (.inl rfl)))
      (pss_cons (ps_for po rfl (pi_range1 (by rfl) T.n_range (pa_cons (pe_cF F__law_next (hr.mono (by decide)) T.g__law_next px (pa_cons (pv 3) (pa_cons pe_int pa_nil))) pa_nil)) (pg_name (i := 8) sc_law.nd rfl (.inl rfl)) (pss_one (ps_asg (pe_cF F__law_spoilt (hr.mono (by decide)) T.g__law_spoilt px (pa_cons (pv 3) (pa_cons (pv 7) pa_nil))) (pg_name (i := 7) sc_law.nd rfl (.inl rfl)))))
      (pss_one (ps_for po rfl (pi_list (pe_lst (pa_cons (pv 7) (pa_cons (pe_ix ix_list (pv 4) (pe_cF F__law_next (hr.mono (by decide)) T.g__law_next px (pa_cons (pv 3) (pa_cons pe_int pa_nil))) (fun _ _ => rfl)) pa_nil)))) (pg_name (i := 2) sc_law.nd rfl (.inr rfl)) (pss_cons (ps_asg (pe_cF F__law_due (hr.mono (by decide)) T.g__law_due px (pa_cons (pv 2) pa_nil)) (pg_name (i := 9) sc_law.nd rfl (.inl rfl)))
      (pss_one (ps_if (pt_val (pe_callB call_isi (by rfl) T.n_isinstance (by decide +kernel) (pa_cons (pv 9) (pa_cons (pe_bltn (v := .ty "tuple") (by rfl) T.n_tuple (by decide +kernel) rfl) pa_nil)))) (pss_one (ps_if (pt_cmpR (op_neD hr.units) (pe_kind (X := (CxD P w K mg base ["_law_script", "_law_name", "_law_one", "_law_h", "_law_some", "_law_turn", "_law_tapes", "_law_text_here", "_law_change", "_law_due_here"] d_law cdv A outer s H E)) T rfl (k := 12) rfl BL hcode (hr.mono (by decide)) (LamX.lamS_by (sc := defScope s_law) (by decide +kernel)) rfl (fun _ _ _ _ _ => rfl) (fun A2 o2 s2 H2 E2 f2 c2 room => (pe_cF F_read (room.mono (by decide)) T.g_read (lam_px (X := (CxD P w K mg base ["_law_script", "_law_name", "_law_one", "_law_h", "_law_some", "_law_turn", "_law_tapes", "_law_text_here", "_law_change", "_law_due_here"] d_law cdv A outer s H E)) (A := A2) (outer := o2) (s := s2) (H := H2) (E := E2) (f := f2) (c' := c2)) (pa_cons (pv 2) pa_nil)))) (pv 9) (nomark _)) (pss_one (ps_ret pe_bl)) pss_nil)) (pss_one (ps_if (pt_not (pt_val (pe_cF F__law_alike (hr.mono (by decide)) T.g__law_alike px (pa_cons (pe_cF F_read (hr.mono (by decide)) T.g_read px (pa_cons (pv 2) pa_nil)) (pa_cons (pv 9) pa_nil))))) (pss_one (ps_ret pe_bl)) pss_nil)))))))))))
      (pss_one (ps_ret pe_bl))))))), ?_⟩
  obtain ⟨a, ns, rfl, ha, hT, hT2, hTab, kQ⟩ := h
  have memL : (tLn K ("law", none), lamQ "law") ∈ GT.l := by rw [GL]; simp
  have unL : ∀ p ∈ GT.l, p.1 = tLn K ("law", none) → p.2 = lamQ "law" := fun p hp _ => by rw [GL] at hp; rw [List.mem_singleton.mp hp]
  have tabK : ∀ {S : List Addr} {Ha Hb : Hp}, Kq S Ha Hb → LamX.TabS Ha (tLn K ("law", none)) (lamQ "law") → LamX.TabS Hb (tLn K ("law", none)) (lamQ "law") := fun k z => k.tabS _ memL z
  refine ⟨_, rfl, a, ns, 43, rfl, ha, fun h l H1 nh nll k1 hD => ?_⟩
  have hT1 := k1.tab _ hT
  have hT21 := k1.tab _ hT2
  have hTab1 := tabK k1 hTab
  refine ⟨line16 (by show 10 ≤ 1000000; decide), fun o1 no1 => ?_⟩
  have ko1 : Kq [] H1 (upd H1 o1 (.lst (some1.map V.str))) := Kq.alloc no1
  have go1 : (upd H1 o1 (.lst (some1.map V.str))) o1 = some (.lst (some1.map V.str)) := upd_same
  have kk := ko1
  have hD := hD.kq ko1
  show gName 4 _ _ (upd H1 o1 (.lst (some1.map V.str))) _
  generalize (upd H1 o1 (.lst (some1.map V.str))) = G1 at ko1 go1 kk hD ⊢
  refine ⟨_, rfl, Str.ofString " rub", 30, rfl, rfl, by decide, by decide, by decide +kernel, by decide +kernel, Str.ofString "a", _, rfl, rfl, line16 (by decide +kernel), Str.ofString " rub", 31, rfl, rfl, by decide, by decide, by decide +kernel, by decide +kernel, Str.ofString "a", _, rfl, rfl, line16 (by decide +kernel), line16 (by show 4 ≤ 1000000; decide), fun o2 no2 => ?_⟩
  have ko2 : Kq [] G1 (upd G1 o2 (.lst (some2.map V.str))) := Kq.alloc no2
  have go2 : (upd G1 o2 (.lst (some2.map V.str))) o2 = some (.lst (some2.map V.str)) := upd_same
  have kk := kk.trans ko2
  have hD := hD.kq ko2
  have go1 := ko2.get go1
  show rCat _ _ (upd G1 o2 (.lst (some2.map V.str))) _
  generalize (upd G1 o2 (.lst (some2.map V.str))) = G2 at ko2 go2 kk hD go1 ⊢
  refine ⟨o1, o2, _, _, rfl, rfl, go1, go2, line16 (by show 10 + 4 ≤ 1000000; decide), fun o3 no3 => ?_⟩
  have ko3 : Kq [] G2 (upd G2 o3 (.lst ((some1 ++ some2).map V.str))) := Kq.alloc no3
  have go3 : (upd G2 o3 (.lst ((some1 ++ some2).map V.str))) o3 = some (.lst ((some1 ++ some2).map V.str)) := upd_same
  have kk := kk.trans ko3
  have hD := hD.kq ko3
  rw [← List.map_append]
  generalize (upd G2 o3 (.lst ((some1 ++ some2).map V.str))) = G3 at ko3 go3 kk hD ⊢
  refine ⟨_, rfl, line16 (by show 4 ≤ 1000000; decide), fun o4 no4 => ?_⟩
  have ko4 : Kq [] G3 (upd G3 o4 (.lst (some3.map V.str))) := Kq.alloc no4
  have go4 : (upd G3 o4 (.lst (some3.map V.str))) o4 = some (.lst (some3.map V.str)) := upd_same
  have kk := kk.trans ko4
  have hD := hD.kq ko4
  have go3 := ko4.get go3
  show rCat _ _ (upd G3 o4 (.lst (some3.map V.str))) _
  generalize (upd G3 o4 (.lst (some3.map V.str))) = G4 at ko4 go4 kk hD go3 ⊢
  refine ⟨o3, o4, _, _, rfl, rfl, go3, go4, line16 (by show 14 + 4 ≤ 1000000; decide), fun so nso => ?_⟩
  have kso : Kq [] G4 (upd G4 so (.lst (someW.map V.str))) := Kq.alloc nso
  have gso : (upd G4 so (.lst (someW.map V.str))) so = some (.lst (someW.map V.str)) := upd_same
  have mso : so ∉ [h, l] := fresh_ne hD.some nso
  have kk := kk.trans kso
  have hD := hD.kq kso
  have hT := kk.tab _ hT1
  have hW := kk.tab _ hT21
  have hL := tabK kk hTab1
  rw [← List.map_append]
  show gName 4 _ _ (upd G4 so (.lst (someW.map V.str))) _
  generalize (upd G4 so (.lst (someW.map V.str))) = G5 at kso gso kk hD hT hW hL ⊢
  clear ko1 go1 ko2 go2 ko3 go3 ko4 go4 kso kk no1 no2 no3 no4 nso nh nll k1 hT1 hT21 hTab1 ha hT2 hTab
  refine ⟨_, rfl, by omega, by omega, ?_⟩
  refine for_range (lo := 0) (n := (5 : Int).toNat) (fun i σ H' => DrAt H' h l ∧ H' so = some (.lst (someW.map V.str)) ∧ TabG H' (tS K) ∧ TabG H' (tW K) ∧ LamX.TabS H' (tLn K ("law", none)) (lamQ "law") ∧ ∃ v1 v2 v5 v6 v7 v8 v9, σ = [some (.ref a), v1, v2, some (.ref h), some (.ref so), v5, v6, v7, v8, v9]) ⟨hD, gso, hT, hW, hL, none, none, none, none, none, none, none, rfl⟩ ?_ ?_
  rotate_left
  · rintro σ H' ⟨_, _, _, _, _, v1, v2, v5, v6, v7, v8, v9, rfl⟩
    exact kQ H'
  clear hD gso hT hW hL
  rintro i0 σ H0 hi0 ⟨hD0, gso, hT0, hW0, hL0, v1, v2, v5, v6, v7, v8, v9, rfl⟩
  -- eight tapes
  refine ⟨_, rfl, fun D nD => ?_⟩
  have mD : D ∉ [h, l] := fresh_ne hD0.some nD
  have nDh : D ≠ h := fun e => mD (by rw [e]; simp)
  have nDl : D ≠ l := fun e => mD (by rw [e]; simp)
  refine lc_signs (fun i H' => Kf [h, l] H0 H' ∧ DrAt H' h l ∧ ∃ ps d, H' D = some (.lst (ps.map V.ref)) ∧ RowsAt K H' ps (rowsT d) ∧ d.length = i ∧ (∀ p ∈ d, p.1 < i ∧ p.2.length ≤ 30 ∧ ∀ k ∈ p.2, k.Ok) ∧ d.Pairwise (fun a b => a.1 < b.1)) ⟨Kf.of (Kq.alloc nD) hD0.wr, hD0.kq (Kq.alloc nD), [], [], upd_same, .nil, rfl, by simp, .nil⟩ ?_ ?_
  · rintro i c H' hc ⟨kk, hDi, ps, d, gD, hR, dl, dok, dpw⟩
    obtain ⟨hi8, rfl⟩ := namesS_cp hc
    have hlen : ps.length = d.length := by rw [hR.len]; unfold rowsT; rw [List.length_map]
    refine ⟨rfl, ?_⟩
    unfold tYes
    dsimp only
    rw [if_pos rfl]
    refine ⟨_, rfl, _, rfl, h, l, 8, rfl, hDi, by decide, fun T_ ks H3 hlk hok k3 hD3 hT_ => ⟨line16 (by show 2 ≤ 1000000; decide), fun q nq => ?_⟩⟩
    have kq : Kq [] H3 (upd H3 q (.tup [.str (nameS i), .ref T_])) := Kq.alloc nq
    have gq : SqT K (upd H3 q (.tup [.str (nameS i), .ref T_])) q [.str (nameS i), .ref T_] := SqT.of upd_same
    have gD3 := kq.get (k3.q.gets gD mD)
    obtain ⟨as, hs, hks⟩ := hT_
    have hR5 := ((hR.kf k3).kq kq).snoc gq (kq.tup hs) (TupsAt.ofKeys (kq.keys hks))
    have k0q := (kk.trans k3).kq kq
    have hDq := hD3.kq kq
    have kw : Kf [D] (upd H3 q (.tup [.str (nameS i), .ref T_])) (upd (upd H3 q (.tup [.str (nameS i), .ref T_])) D (.lst (ps.map V.ref ++ [.ref q]))) := Kf.one gD3
    have hDn := hDq.upd (D := D) (o := .lst (ps.map V.ref ++ [.ref q])) nDh nDl
    refine ⟨_, gD3, by rw [List.length_map]; exact small1000 (by omega), ⟨k0q.q.writeF nD gD3, hD0.wr, hDn.wr⟩, hDn, ps ++ [q], d ++ [(i, ks)], ?_, ?_, by rw [List.length_append, dl]; rfl, ?_, ?_⟩
    · rw [upd_same, List.map_append]; rfl
    · have e : rowsT (d ++ [(i, ks)]) = rowsT d ++ [(nameS i, ks.map keyV)] := by unfold rowsT; rw [List.map_append]; rfl
      rw [e]
      exact hR5.kf kw
    · intro p hp
      rcases List.mem_append.mp hp with z | z
      · obtain ⟨z1, z2, z3⟩ := dok p z
        exact ⟨by omega, z2, z3⟩
      · rw [List.mem_singleton.mp z]
        exact ⟨Nat.lt_succ_self i, by show ks.length ≤ 30; omega, hok⟩
    · refine List.pairwise_append.mpr ⟨dpw, List.pairwise_singleton _ _, fun x hx y hy => ?_⟩
      rw [List.mem_singleton.mp hy]
      exact (dok x hx).1
  rintro H2 ⟨kk, hD2, ps, d, gD, hR, dl, dok, dpw⟩
  rw [namesS_size] at dl dok
  have gso := kk.q.gets gso mso
  have hT2 := kk.q.tab _ hT0
  have hW2 := kk.q.tab _ hW0
  have hL2 := tabK kk.q hL0
  have hlen : ps.length = d.length := by rw [hR.len]; unfold rowsT; rw [List.length_map]
  clear kk hT0 hW0 hL0 hD0 nDh nDl
  -- some of them
  refine ⟨_, rfl, D, rfl, ⟨_, SqL.of gD⟩, fun D2 nD2 => ?_⟩
  have mD2 : D2 ∉ [h, l] := fresh_ne hD2.some nD2
  have nDh : D2 ≠ h := fun e => mD2 (by rw [e]; simp)
  have nDl : D2 ≠ l := fun e => mD2 (by rw [e]; simp)
  have nDD : D ≠ D2 := ne_of_none gD nD2
  refine lc_list (K := K) (a := D) (xs := ps.map V.ref) (fun i H' => Kf [h, l] H2 H' ∧ DrAt H' h l ∧ ∃ qs e, H' D2 = some (.lst (qs.map V.ref)) ∧ RowsAt K H' qs (rowsT e) ∧ e.Sublist (d.take i) ∧ ∀ p ∈ e, p.2 ≠ []) ⟨Kf.of (Kq.alloc nD2) hD2.wr, hD2.kq (Kq.alloc nD2), [], [], upd_same, .nil, List.nil_sublist _, by simp⟩ (fun i H' _ z => SqL.of (z.1.q.gets gD mD)) ?_ ?_
  · rintro i x H' hx ⟨kk, hDi, qs, e, gD2, hRq, hsb, hen⟩
    rw [List.getElem?_map] at hx
    obtain ⟨p, hp, rfl⟩ := Option.map_eq_some_iff.mp hx
    obtain ⟨en, t, he, sp, tp⟩ := (hR.kf kk).cases hp
    obtain ⟨n, ks⟩ := en
    have hid : i < d.length := (List.getElem?_eq_some_iff.mp he).1
    obtain ⟨o1, o2, o3⟩ := dok _ (List.mem_of_getElem? he)
    have hok : ∀ k ∈ ks, k.Ok := o3
    have htake : d.take (i + 1) = d.take i ++ [(n, ks)] := by rw [List.take_succ, he]; rfl
    have hskip : e.Sublist (d.take (i + 1)) := by rw [htake]; exact hsb.trans (List.sublist_append_left _ _)
    have hql : qs.length ≤ 100 := by
      have h1 := hRq.len
      unfold rowsT at h1
      rw [List.length_map] at h1
      have h2 := hsb.length_le
      rw [List.length_take] at h2
      omega
    obtain ⟨as, hs, hks⟩ := tp
    refine ⟨rfl, ?_⟩
    refine ⟨_, rfl, .inr (.inl ⟨p, _, _, .ref t, rfl, rfl, sp, at_of (j := 1) rfl rfl, line16 (by show 0 ≤ 1000000; decide), fun pe npe => ?_⟩)⟩
    have kpe : Kq [] H' (upd H' pe (.tup [])) := Kq.alloc npe
    have gpe : SqT K (upd H' pe (.tup [])) pe [] := SqT.of upd_same
    have gD3 := kpe.get gD2
    have hRq3 := hRq.kq kpe
    have hR3 := kpe.tup sp
    have hDe := hDi.kq kpe
    have kke := kk.kq kpe
    have hs3 := kpe.tup hs
    have hks3 := kpe.keys hks
    generalize (upd H' pe (.tup [])) = He at kpe gpe gD3 hRq3 hR3 hDe kke hs3 hks3 ⊢
    refine ⟨tapeD ks, .tuple [], dp_tape ⟨as, hs3, hks3⟩ hok, .tup gpe .nil, shaped_tape hok, by decide, _, rfl, ?_⟩
    rw [show tapeD ks = .tuple (ks.map keyD) from rfl, eqv_tnil']
    cases hkn : ks with
    | nil => exact ⟨kke, hDe, qs, e, gD3, hRq3, hskip, hen⟩
    | cons ky0 ks0 =>
      have hne : ks ≠ [] := by rw [hkn]; exact List.cons_ne_nil _ _
      rw [List.map_cons, List.isEmpty_cons, Bool.not_false, if_pos rfl]
      clear hkn
      refine ⟨_, rfl, h, l, 2, rfl, hDe, by decide, by decide, fun r Hf hr kf hDf => ⟨rfl, _, rfl, ?_⟩⟩
      have gD4 := kf.q.gets gD3 mD2
      have hRq4 := hRq3.kf kf
      have kkf := kke.trans kf
      refine iteD (fun _ => ?_) (fun _ => ⟨kkf, hDf, qs, e, gD4, hRq4, hskip, hen⟩)
      have kw : Kf [D2] Hf (upd Hf D2 (.lst (qs.map V.ref ++ [.ref p]))) := Kf.one gD4
      have hDn := hDf.upd (D := D2) (o := .lst (qs.map V.ref ++ [.ref p])) nDh nDl
      refine ⟨_, rfl, _, gD4, by rw [List.length_map]; exact small1000 (by omega), ⟨kkf.q.writeF nD2 gD4, hD2.wr, hDn.wr⟩, hDn, qs ++ [p], e ++ [(n, ks)], ?_, ?_, ?_, ?_⟩
      · rw [upd_same, List.map_append]; rfl
      · have e1 : rowsT (e ++ [(n, ks)]) = rowsT e ++ [(nameS n, ks.map keyV)] := by unfold rowsT; rw [List.map_append]; rfl
        rw [e1]
        exact (hRq4.snoc (kf.tup hR3) (kf.tup hs3) (TupsAt.ofKeys (kf.keys hks3))).kf kw
      · rw [htake]
        exact hsb.append_right _
      · intro q hq
        rcases List.mem_append.mp hq with z | z
        · exact hen q z
        · rw [List.mem_singleton.mp z]; exact hne
  rintro H3 ⟨kk, hD3, qs, e, gD2, hRq, hsb, hen⟩
  rw [List.length_map, hlen, List.take_length] at hsb
  have gso := kk.q.gets gso mso
  have hT3 := kk.q.tab _ hT2
  have hW3 := kk.q.tab _ hW2
  have hL3 := tabK kk.q hL2
  have hel := hsb.length_le
  have tok : TpsOk e := ⟨by omega, fun p hp => dok p (hsb.subset hp)⟩
  have hpw := dpw.sublist hsb
  clear kk hT2 hW2 hL2 hD2 nDh nDl gD hR
  have hrise : riseAll Str.empty ((rowsT e).map (·.1)) = true := rise_of (fun p hp => (tok.2 p hp).1) hpw (fun _ _ => .inl rfl)
  have hchk : chkT ((rowsT e).map (·.2)) = .ok := chk_ok (fun p hp => (tok.2 p hp).2) hen
  have hodd : ∀ r ∈ rowsT e, (∀ xs ∈ r.2, OddOk K xs) ∧ r.2.length ≤ 100 := fun r hr => by
    obtain ⟨p, hp, rfl⟩ := List.mem_map.mp hr
    obtain ⟨o1, o2, o3⟩ := tok.2 p hp
    refine ⟨fun xs hx => ?_, by show (p.2.map keyV).length ≤ 100; rw [List.length_map]; omega⟩
    obtain ⟨k, hk, rfl⟩ := List.mem_map.mp hx
    exact oddOk_key T (o3 k hk)
  refine ⟨D2, qs, rowsT e, rfl, SqL.of gD2, hRq, hodd, hT3, hW3, .inl ⟨e, rfl, tok, hrise, hchk, fun H4 k4 => ?_⟩⟩
  have gso := k4.get gso
  have hT4 := k4.tab _ hT3
  have hW4 := k4.tab _ hW3
  have hL4 := tabK k4 hL3
  have hD4 := hD3.kq k4
  have htl := text_len tok (by omega)
  have htg := text_good tok
  rw [show V.str (textT e) = V.str (S (TL.tl (textT e))) by rw [S_tl]]
  generalize TL.tl (textT e) = t0 at htl htg ⊢
  clear k4 hT3 hW3 hL3 hD3 hodd hchk hrise hRq gD2 hpw tok hel hsb hen mD2 mD nDD nD nD2 dok dpw dl
  refine ⟨_, rfl, h, l, 4, rfl, hD4, by decide, by decide, fun r4 H5 hr4 k5 hD5 => ⟨_, rfl, by omega, by omega, ?_⟩⟩
  have gso := k5.q.gets gso mso
  have hT5 := k5.q.tab _ hT4
  have hW5 := k5.q.tab _ hW4
  have hL5 := tabK k5.q hL4
  clear k5 hT4 hW4 hL4 hD4
  refine for_range (lo := 0) (n := (r4 : Int).toNat) (fun j σ H' => DrAt H' h l ∧ H' so = some (.lst (someW.map V.str)) ∧ TabG H' (tS K) ∧ TabG H' (tW K) ∧ LamX.TabS H' (tLn K ("law", none)) (lamQ "law") ∧ ∃ t v8, σ = [some (.ref a), v1, v2, some (.ref h), some (.ref so), some (.int ((0 : Int) + (i0 : Int))), some (.ref D), some (.str (S t)), v8, v9] ∧ t.length + 20 ≤ 6600 * 2 ^ j ∧ goodT t) ⟨hD5, gso, hT5, hW5, hL5, t0, v8, rfl, by show _ ≤ 6600 * 1; omega, htg⟩ ?_ ?_
  · rintro j σ H6 hj ⟨hD6, gso, hT6, hW6, hL6, t, v8', rfl, htl, htg⟩
    rw [Int.toNat_natCast] at hj
    have hp2 : 2 ^ j ≤ 8 := by
      have : ∀ n : Nat, n < 4 → 2 ^ n ≤ 8 := by decide
      exact this j (by omega)
    refine ⟨_, rfl, _, rfl, h, l, t, rfl, hD6, by omega, htg, fun t' H7 hl' hg' k7 hD7 => ?_⟩
    refine ⟨hD7, k7.q.gets gso mso, k7.q.tab _ hT6, k7.q.tab _ hW6, tabK k7.q hL6, t', _, rfl, ?_, hg'⟩
    rw [Nat.pow_succ]
    omega
  rintro σ H6 ⟨hD6, gso, hT6, hW6, hL6, t, v8', rfl, htl, htg⟩
  rw [Int.toNat_natCast] at htl
  have htl2 : t.length ≤ 100000 := by
    have hp2 : 2 ^ r4 ≤ 8 := by
      have : ∀ n : Nat, n < 4 → 2 ^ n ≤ 8 := by decide
      exact this r4 hr4
    omega
  clear htl hD5 hT5 hW5 hL5
  -- what is read
  refine ⟨_, rfl, _, rfl, _, rfl, h, l, 18, rfl, hD6, by decide, by decide, fun r6 H7 hr6 k7 hD7 => ?_⟩
  have gso := k7.q.gets gso mso
  have hT7 := k7.q.tab _ hT6
  have hW7 := k7.q.tab _ hW6
  have hL7 := tabK k7.q hL6
  obtain ⟨z0, ez, hzg, hzl⟩ := some_word hr6
  refine ⟨so, _, _, strW z0, rfl, rfl, SqL.of gso, at_of (j := r6) rfl ez, line16 (by show 2 ≤ 1000000; decide), fun L nL => ?_⟩
  have kL : Kq [] H7 (upd H7 L (.lst [.str (S t), strW z0])) := Kq.alloc nL
  have gL : (upd H7 L (.lst [.str (S t), strW z0])) L = some (.lst [.str (S t), strW z0]) := upd_same
  have gso := kL.get gso
  have hT8 := kL.tab _ hT7
  have hW8 := kL.tab _ hW7
  have hL8 := tabK kL hL7
  have hD8 := hD7.kq kL
  clear k7 hT6 hW6 hL6 hD6 hT7 hW7 hL7 hD7
  show ∃ a_1, _
  generalize (upd H7 L (.lst [.str (S t), strW z0])) = H8 at kL gL gso hT8 hW8 hL8 hD8 ⊢
  refine ⟨L, rfl, ⟨_, SqL.of gL⟩, ?_⟩
  refine for_list (K := K) (a := L) (xs := [strW t, strW z0]) (fun i σ H' => Kq [] H8 H' ∧ LamX.TabS H' (tLn K ("law", none)) (lamQ "law") ∧ ∃ v2 v9, σ = [some (.ref a), v1, v2, some (.ref h), some (.ref so), some (.int ((0 : Int) + (i0 : Int))), some (.ref D), some (.str (S t)), v8', v9]) ⟨Kq.refl, hL8, _, _, rfl⟩ (fun i σ H' _ z => SqL.of (z.1.get gL)) ?_ ?_
  rotate_left
  · rintro σ H' ⟨k1, hLx, v2', v9', rfl⟩
    exact ⟨hD8.kq k1, k1.get gso, k1.tab _ hT8, k1.tab _ hW8, hLx, _, _, _, _, _, _, _, rfl⟩
  rintro i x σ H9 hx ⟨k1, hL9, v2', v9', rfl⟩
  obtain ⟨z, rfl, hzg2, hzl2⟩ : ∃ z : Ln, x = .str (S z) ∧ goodT z ∧ z.length ≤ 100000 := by
    match i, hx with
    | 0, hx => cases hx; exact ⟨t, rfl, htg, htl2⟩
    | 1, hx => cases hx; exact ⟨z0, rfl, hzg, by omega⟩
    | n + 2, hx => cases hx
  have hT9 := k1.tab _ hT8
  refine ⟨_, rfl, z, rfl, hzl2, hzg2, fun rs L2 ps2 Ha hrd k2 nL2 gL2 hR2 => ?_, fun i2 hrd p Ha k2 gp => ?_⟩
  · refine ⟨_, rfl, _, _, _, _, false, rfl, .ty _, .base (.lst gL2), kit_ty (by decide +kernel), _, rfl, iteF ?_⟩
    obtain ⟨d2, rfl, tok⟩ := read_tps hrd
    refine ⟨_, rfl, z, rfl, hzl2, k2.tab _ hT9, fun rs3 L3 ps3 Hb hrd3 k3 nL3 gL3 hR3 => ?_, fun i3 hrd3 => by rw [hrd] at hrd3; cases hrd3⟩
    rw [hrd] at hrd3
    have hrd3 := Sum.inr.inj hrd3
    subst hrd3
    refine ⟨_, rfl, _, _, rfl, al_rows gL3 (k3.get gL2) hR3 (hR2.kq k3) tok, fun Hc k4 => ⟨_, rfl, iteF ?_⟩⟩
    exact ⟨((k1.trans k2).trans k3).trans k4, tabK ((k2.trans k3).trans k4) hL9, _, _, rfl⟩
  · refine ⟨_, rfl, _, _, _, _, true, rfl, .ty _, .base (.tup gp), kit_ty (by decide +kernel), _, rfl, iteT ?_⟩
    have hLa := tabK k2 hL9
    refine ⟨hLa, fun Hb gr => ?_⟩
    have k3 := gr.kq hLa unL
    have hLb := gr.tab
    refine kind_tape hrd hzl2 (k3.tab _ (k2.tab _ hT9)) (fun k y => ⟨_, rfl, y⟩) fun q Hc k4 gq => ?_
    refine ⟨_, rfl, badTD i2, badTD i2, dp_badT gq, dp_badT ((k3.trans k4).get gp), shaped_badT i2, shaped_badT i2, _, rfl, ?_⟩
    rw [eqv_badT]
    exact iteF ⟨((k1.trans k2).trans k3).trans k4, tabK k4 hLb, _, _, rfl⟩
end
end KT
set_option Elab.async false
set_option linter.all false
set_option maxRecDepth 100000
set_option maxHeartbeats 0
namespace KT
open PySem PySem.Spec PyProof.Rows L2
open PySem.W PySem.Calls
abbrev qv : Program := PySem.W.view R.prog [74]
theorem map3 {α β γ δ : Type} {X : Option α} {a : α → β} {b : α → γ} {c : α → δ} {x : β} {y : γ} {z : δ} (h1 : X.map a = some x) (h2 : X.map b = some y) (h3 : X.map c = some z) : X.map (fun s => (a s, b s, c s)) = some (x, y, z) := by
  cases X with
  | none => cases h1
  | some s =>
    have e1 : a s = x := Option.some.inj h1
    have e2 : b s = y := Option.some.inj h2
    have e3 : c s = z := Option.some.inj h3
    show some (a s, b s, c s) = some (x, y, z)
    rw [e1, e2, e3]
noncomputable def endW (w : World) (os : OsState) : Option PySem.W.SharedT := HandSHeadRun.endF (HandSHeadRun.stepQ (HandSHeadRun.denQ HandSHeadRun.tabQ) R.prog w) 9000 R.prog w os
def wB (b : Bool) (w : World) : World := World.withFollow w "special-get-raises" b
theorem run1_false (w : World) (os : OsState) : (endW (wB false w) os).map (fun s => HandSHeadRun.looksF R.prog (boot_heap (wB false w).params) s.abs) = some true := by kernel_rfl
theorem run2_false (w : World) (os : OsState) : (endW (wB false w) os).map (fun s => HandSHeadRun.seenQ qv loose (importedModules R.prog.main.body) (fun s => PySem.W.xlAt qv [] s && PySem.W.recOk R.toRowW.records s) s.abs) = some (PySem.W.openGood qv loose) := by kernel_rfl
theorem run3_false (w : World) (os : OsState) : (endW (wB false w) os).map (fun s => ob s) = some (hk.val (wB false w)) := by kernel_rfl
theorem run_false (w : World) : HandSHeadRun.RunEq R qv hk ob 9000 loose (wB false w) := fun os => map3 (run1_false w os) (run2_false w os) (run3_false w os)
theorem run1_true (w : World) (os : OsState) : (endW (wB true w) os).map (fun s => HandSHeadRun.looksF R.prog (boot_heap (wB true w).params) s.abs) = some true := by kernel_rfl
theorem run2_true (w : World) (os : OsState) : (endW (wB true w) os).map (fun s => HandSHeadRun.seenQ qv loose (importedModules R.prog.main.body) (fun s => PySem.W.xlAt qv [] s && PySem.W.recOk R.toRowW.records s) s.abs) = some (PySem.W.openGood qv loose) := by kernel_rfl
theorem run3_true (w : World) (os : OsState) : (endW (wB true w) os).map (fun s => ob s) = some (hk.val (wB true w)) := by kernel_rfl
theorem run_true (w : World) : HandSHeadRun.RunEq R qv hk ob 9000 loose (wB true w) := fun os => map3 (run1_true w os) (run2_true w os) (run3_true w os)
theorem run (w : World) : HandSHeadRun.RunEq R qv hk ob 9000 loose w := PySem.W.byRow2 "special-get-raises" (P := fun w => HandSHeadRun.RunEq R qv hk ob 9000 loose w) run_false run_true w
end KT
set_option Elab.async false
set_option linter.all false
set_option maxRecDepth 100000
set_option maxHeartbeats 4000000
namespace KT
open PySem PySem.Spec PyProof.Rows L2
theorem end_binds {w : World} {K : PySem.W.Frag} {mg : Str → Option Value} (T : Tx w K mg) (s : Shared) (v : Value) : BindsTo s (fdOf K (Ad K d_law.at_)) ⟨[v], []⟩ [("_law_script", v)] := by
  have F := T.f_law
  unfold FnT at F
  have e : d_law.dvs K = [] := rfl
  rw [e] at F
  exact (FunD.bindsA (ps := ["_law_script"]) F fun _ _ _ _ _ _ us hl => match us, hl with | [_], _ => rfl) s [v] rfl
theorem end_law {w : World} {K : PySem.W.Frag} {h : Heap} {mg : Str → Option Value} {f : Addr} (X : K.In h) (G : h.Ns mainGlobals mg) (hfa : mg ("law" : Str) = some (.ref f)) (c : He.SaysX fa fn ts tf ex w h K) :
    LamX.LawAtS PySem.Challenge.rw_keytape_k13_texts_refused w K (L2.CX (PySem.Challenge.rw_keytape_k13_texts_refused).prog w) 16 63 "_law_script" mg f h := by
  have T : Tx w K mg := ⟨h, X, G, c⟩
  have e := hfa.symm.trans T.g_law
  cases e
  letI : GT := ⟨(He.cT K ("are_signs", none)).2, [((He.cT K ("law", none)).2, lamQ "law")], by
    intro p hp
    have h1 := T.more1
    unfold ex1 makers at h1
    simp only [List.all_cons, List.all_nil, Bool.and_eq_true, decide_eq_true_eq, Bool.and_true] at h1
    simp only [List.mem_cons, List.not_mem_nil, or_false] at hp
    rcases hp with rfl
    · exact h1.2⟩
  have h2 := T.x2
  unfold makers gens at h2
  simp only [List.all_cons, List.all_nil, Bool.and_eq_true, decide_eq_true_eq, Bool.and_true] at h2
  have ne0 : ∀ q ∈ GT.l, q.1 ≠ (He.cT K ("written", none)).2 := by
    intro q hq
    have hq : q ∈ [((He.cT K ("law", none)).2, lamQ "law")] := hq
    simp only [List.mem_cons, List.not_mem_nil, or_false] at hq
    rcases hq with rfl <;> first | exact h2 | exact h2.1 | exact h2.2 | simp_all
  refine ⟨fdOf K (Ad K d_law.at_), [He.cT K ("are_signs", none), He.cT K ("written", none), He.cT K ("law", none)], sp_law13 K, fun p hp => ?_, fun p hp => ?_, fun p hp => ?_, fun s v => end_binds T s v, fun H a ns hl _ ht hS => ⟨a, ns, rfl, hS, ?_, ?_, LamX.TabS.nil (ht (He.cT K ("law", none)) (by simp)), fun _ => rfl⟩, fun base KX2 G2 B => ?_⟩
  · simp only [List.mem_cons, List.not_mem_nil, or_false] at hp
    rcases hp with rfl | rfl | rfl <;> exact c.empty _ (by simp [tf, gens, makers])
  · simp only [List.mem_cons, List.not_mem_nil, or_false] at hp
    rcases hp with rfl | rfl | rfl <;> exact c.out _ (by simp [tf, gens, makers])
  · simp only [List.mem_cons, List.not_mem_nil, or_false] at hp
    rcases hp with rfl | rfl | rfl <;> exact PySem.W.codeHd_of_K X (c.hd _ (by simp [tf, gens, makers]))
  · exact ⟨#[], ht (He.cT K ("are_signs", none)) (by simp), by first | trivial | exact .nil | (show TriplesOk []; simp [TriplesOk])⟩
  · exact ⟨#[], ht (He.cT K ("written", none)) (by simp), by first | trivial | exact .nil | (show TriplesOk []; simp [TriplesOk])⟩
  · have b := B (He.cT K ("are_signs", none)) (by simp)
    have g0 := B (He.cT K ("written", none)) (by simp)
    have b0 := B (He.cT K ("law", none)) (by simp)
    exact (ok_law T ⟨rfl, rfl⟩ ⟨b.code, b.bm, b.gP⟩ ⟨g0.code, g0.bm, g0.gP⟩ ne0 ⟨b0.code, b0.bm, b0.gP⟩ rfl).ok
end KT
open PySem PySem.W PySem.Calls PyProof.Rows
theorem PySem.Challenge.cw_keytape_k13_texts_refused_holds : PySem.Challenge.rw_keytape_k13_texts_refused.Holds := by
  w_on; o_law
  refine HandSHeadRun.head_any (r := OpenLaw.row PySem.Challenge.rw_keytape_k13_texts_refused) (q := view (OpenLaw.row PySem.Challenge.rw_keytape_k13_texts_refused).prog [74]) (H := KT.hk) (ob := KT.ob) (M := 9000) (loose := KT.loose) (d := HandSHeadRun.topDef (OpenLaw.row PySem.Challenge.rw_keytape_k13_texts_refused).prog 74) (kwd := []) KT.ob_eq
    (by kernel_rfl) (fun s => by kernel_rfl) KT.run (by kernel_rfl) (by kernel_rfl) (by kernel_rfl) (by rfl) (by first | assumption | decide +kernel) (by decide +kernel) ⟨rfl, rfl, rfl, rfl, rfl, by decide +kernel⟩ ?hw ?hc
  case hw => w_witness2
  case hc =>
    refine LamX.walk_ofTsE (l := PySem.Challenge.rw_keytape_k13_texts_refused) (n := 63) (k := 16) (x := "_law_script") (CX := fun w => L2.CX (PySem.Challenge.rw_keytape_k13_texts_refused).prog w) rfl (by decide) (by kernel_rfl) ⟨rfl, by decide, by decide⟩ ?F ?c
    case F =>
      intro w mg fa h Y G hmg0
      obtain ⟨K, KX, c⟩ := Y
      have hmg : mg ("law" : PySem.Str) = some (.ref fa) := by
        have e : (HandSHeadRun.topDef (OpenLaw.row PySem.Challenge.rw_keytape_k13_texts_refused).prog 74).name = ("law" : PySem.Str) := by kernel_rfl
        rw [← e]
        exact hmg0
      exact ⟨K, KX, KT.end_law KX G hmg c⟩
    case c =>
      intro w H s e s' hc
      obtain ⟨a, B, H', cls, d, _, _, _, _, _, _, _, hE⟩ := hc
      exact hE

import PyProof.Rows.All
import Wide.All
import OpenK.AllK
import Wide.FinOn
import HandS.Base
import HandS.Call
import HandS.List
import HandS.Comp
import HandS.Ends
import HandS.More
import HandS.Words
import HandS.WordsList
import HandS.WordsDict
import HandS.WordsExc
import HandS.Dict
import HandS.Iter
import HandS.Text
import HandS.Exc
import HandS.ExcOwn
import HandS.Defaults
import HandS.Head0
import HandS.Head1
import HandS.Head2
import HandS.HeadEnd
import HandS.HeadHook1
import HandS.HeadHook2
import HandS.HeadHook3
import HandS.HeadHook4
import HandS.TupAny
import HandS.AnyAll
import HandS.Lambda
import HandS.JoinGen
import HandS.StrMore
import HandS.RaiseOp
import HandS.IsInst
import PyProof.Rows.MatchSeqLen
import PyProof.Rows.TupAssign
import HandS.DictComp
import HandS.Codes
import HandS.Deep
import HandS.TupLe
import KE.GoesMore
import HandS.Style
import KE.KRevSl
import PyProof.P3Eq
import PyProof.DictUpdate
import HandS.ReplaceLit
import HandS.HeadWalk
import PySem.Challenge.RW_keytape_k09_whole_alike_ones_on_any_row
set_option Elab.async false
set_option linter.all false
set_option maxRecDepth 100000
set_option maxHeartbeats 0
namespace KT
open PySem PySem.Spec PyProof.Rows L2
def top (i : Nat) : Stmt := PySem.Challenge.pw_keytape_k09_whole_alike_ones_on_any_row.main.body.getD i (.Pass ⟨0, 0, 0, 0⟩)
abbrev s_Page___init__ : Stmt := inClass (top 12) 0
abbrev s_are_signs : Stmt := top 13
abbrev s_first_page : Stmt := top 14
abbrev s_line_at : Stmt := top 15
abbrev s_moved : Stmt := top 16
abbrev s_with_lines : Stmt := top 17
abbrev s_write : Stmt := top 19
abbrev s_break_row : Stmt := top 20
abbrev s_join_row : Stmt := top 21
abbrev s_rub : Stmt := top 22
abbrev s_go_left : Stmt := top 23
abbrev s_go_right : Stmt := top 24
abbrev s_go_to_row : Stmt := top 25
abbrev s_go_up : Stmt := top 26
abbrev s_go_down : Stmt := top 27
abbrev s_go_home : Stmt := top 28
abbrev s_go_end : Stmt := top 29
abbrev s_find_word : Stmt := top 30
abbrev s_take : Stmt := top 31
abbrev s_lay : Stmt := top 32
abbrev s_page_behind : Stmt := top 34
abbrev s_is_word : Stmt := top 42
abbrev s_is_number : Stmt := top 43
abbrev s_is_key : Stmt := top 44
abbrev s_is_plain_key : Stmt := top 45
abbrev s_check_key : Stmt := top 46
abbrev s_check_name : Stmt := top 47
abbrev s_check_keys : Stmt := top 48
abbrev s_check_plain_keys : Stmt := top 49
abbrev s_check_each : Stmt := top 50
abbrev s_alike : Stmt := top 55
abbrev s_check_number : Stmt := top 56
abbrev s_signs_not_put : Stmt := top 57
abbrev s_played : Stmt := top 58
abbrev s_Player___init__ : Stmt := inClass (top 62) 0
abbrev s_Player_do : Stmt := inClass (top 62) 1
abbrev s_Player_play : Stmt := inClass (top 62) 2
abbrev s_Player_play_till : Stmt := inClass (top 62) 3
abbrev s_Player_play_once : Stmt := inClass (top 62) 4
abbrev s_Player_add_thing : Stmt := inClass (top 62) 5
abbrev s_Editor___init__ : Stmt := inClass (top 64) 0
abbrev s_Editor_text : Stmt := inClass (top 64) 1
abbrev s_Editor_place : Stmt := inClass (top 64) 2
abbrev s_Editor_clip : Stmt := inClass (top 64) 3
abbrev s_Editor_press : Stmt := inClass (top 64) 4
abbrev s_Editor_hand : Stmt := inClass (top 64) 5
abbrev s_Editor_tape : Stmt := inClass (top 64) 6
abbrev s_Editor_tape_of : Stmt := inClass (top 64) 7
abbrev s_Editor_record : Stmt := inClass (top 64) 8
abbrev s_Editor_stop : Stmt := inClass (top 64) 9
abbrev s_Editor_back : Stmt := inClass (top 64) 10
abbrev s_Editor_forth : Stmt := inClass (top 64) 11
abbrev s_Editor_go_to : Stmt := inClass (top 64) 12
abbrev s__law_mix : Stmt := top 66
abbrev s__law_next : Stmt := top 67
abbrev s__law_alike : Stmt := top 68
abbrev s__law_sign : Stmt := top 69
abbrev s__law_plain : Stmt := top 70
abbrev s__law_like : Stmt := top 71
abbrev s__law_played : Stmt := top 72
abbrev s_law : Stmt := top 73
def d_Page___init__ : He.DefD := ⟨("Page", some "__init__"), "__init__", "Page.__init__", defArgs s_Page___init__, defBody s_Page___init__, defScope s_Page___init__, [], []⟩
def d_are_signs : He.DefD := ⟨("are_signs", none), "are_signs", "are_signs", defArgs s_are_signs, defBody s_are_signs, defScope s_are_signs, [], []⟩
def d_first_page : He.DefD := ⟨("first_page", none), "first_page", "first_page", defArgs s_first_page, defBody s_first_page, defScope s_first_page, [], []⟩
def d_line_at : He.DefD := ⟨("line_at", none), "line_at", "line_at", defArgs s_line_at, defBody s_line_at, defScope s_line_at, [], []⟩
def d_moved : He.DefD := ⟨("moved", none), "moved", "moved", defArgs s_moved, defBody s_moved, defScope s_moved, [], []⟩
def d_with_lines : He.DefD := ⟨("with_lines", none), "with_lines", "with_lines", defArgs s_with_lines, defBody s_with_lines, defScope s_with_lines, [], []⟩
def d_write : He.DefD := ⟨("write", none), "write", "write", defArgs s_write, defBody s_write, defScope s_write, [], []⟩
def d_break_row : He.DefD := ⟨("break_row", none), "break_row", "break_row", defArgs s_break_row, defBody s_break_row, defScope s_break_row, [], []⟩
def d_join_row : He.DefD := ⟨("join_row", none), "join_row", "join_row", defArgs s_join_row, defBody s_join_row, defScope s_join_row, [], []⟩
def d_rub : He.DefD := ⟨("rub", none), "rub", "rub", defArgs s_rub, defBody s_rub, defScope s_rub, [], []⟩
def d_go_left : He.DefD := ⟨("go_left", none), "go_left", "go_left", defArgs s_go_left, defBody s_go_left, defScope s_go_left, [], []⟩
def d_go_right : He.DefD := ⟨("go_right", none), "go_right", "go_right", defArgs s_go_right, defBody s_go_right, defScope s_go_right, [], []⟩
def d_go_to_row : He.DefD := ⟨("go_to_row", none), "go_to_row", "go_to_row", defArgs s_go_to_row, defBody s_go_to_row, defScope s_go_to_row, [], []⟩
def d_go_up : He.DefD := ⟨("go_up", none), "go_up", "go_up", defArgs s_go_up, defBody s_go_up, defScope s_go_up, [], []⟩
def d_go_down : He.DefD := ⟨("go_down", none), "go_down", "go_down", defArgs s_go_down, defBody s_go_down, defScope s_go_down, [], []⟩
def d_go_home : He.DefD := ⟨("go_home", none), "go_home", "go_home", defArgs s_go_home, defBody s_go_home, defScope s_go_home, [], []⟩
def d_go_end : He.DefD := ⟨("go_end", none), "go_end", "go_end", defArgs s_go_end, defBody s_go_end, defScope s_go_end, [], []⟩
def d_find_word : He.DefD := ⟨("find_word", none), "find_word", "find_word", defArgs s_find_word, defBody s_find_word, defScope s_find_word, [], []⟩
def d_take : He.DefD := ⟨("take", none), "take", "take", defArgs s_take, defBody s_take, defScope s_take, [], []⟩
def d_lay : He.DefD := ⟨("lay", none), "lay", "lay", defArgs s_lay, defBody s_lay, defScope s_lay, [], []⟩
def d_page_behind : He.DefD := ⟨("page_behind", none), "page_behind", "page_behind", defArgs s_page_behind, defBody s_page_behind, defScope s_page_behind, [], []⟩
def d_is_word : He.DefD := ⟨("is_word", none), "is_word", "is_word", defArgs s_is_word, defBody s_is_word, defScope s_is_word, [], []⟩
def d_is_number : He.DefD := ⟨("is_number", none), "is_number", "is_number", defArgs s_is_number, defBody s_is_number, defScope s_is_number, [], []⟩
def d_is_key : He.DefD := ⟨("is_key", none), "is_key", "is_key", defArgs s_is_key, defBody s_is_key, defScope s_is_key, [], []⟩
def d_is_plain_key : He.DefD := ⟨("is_plain_key", none), "is_plain_key", "is_plain_key", defArgs s_is_plain_key, defBody s_is_plain_key, defScope s_is_plain_key, [], []⟩
def d_check_key : He.DefD := ⟨("check_key", none), "check_key", "check_key", defArgs s_check_key, defBody s_check_key, defScope s_check_key, [], []⟩
def d_check_name : He.DefD := ⟨("check_name", none), "check_name", "check_name", defArgs s_check_name, defBody s_check_name, defScope s_check_name, [], []⟩
def d_check_keys : He.DefD := ⟨("check_keys", none), "check_keys", "check_keys", defArgs s_check_keys, defBody s_check_keys, defScope s_check_keys, [], []⟩
def d_check_plain_keys : He.DefD := ⟨("check_plain_keys", none), "check_plain_keys", "check_plain_keys", defArgs s_check_plain_keys, defBody s_check_plain_keys, defScope s_check_plain_keys, [], []⟩
def d_check_each : He.DefD := ⟨("check_each", none), "check_each", "check_each", defArgs s_check_each, defBody s_check_each, defScope s_check_each, [], []⟩
def d_alike : He.DefD := ⟨("alike", none), "alike", "alike", defArgs s_alike, defBody s_alike, defScope s_alike, [], []⟩
def d_check_number : He.DefD := ⟨("check_number", none), "check_number", "check_number", defArgs s_check_number, defBody s_check_number, defScope s_check_number, [], []⟩
def d_signs_not_put : He.DefD := ⟨("signs_not_put", none), "signs_not_put", "signs_not_put", defArgs s_signs_not_put, defBody s_signs_not_put, defScope s_signs_not_put, [], []⟩
def d_played : He.DefD := ⟨("played", none), "played", "played", defArgs s_played, defBody s_played, defScope s_played, [], []⟩
def d_Player___init__ : He.DefD := ⟨("Player", some "__init__"), "__init__", "Player.__init__", defArgs s_Player___init__, defBody s_Player___init__, defScope s_Player___init__, [], []⟩
def d_Player_do : He.DefD := ⟨("Player", some "do"), "do", "Player.do", defArgs s_Player_do, defBody s_Player_do, defScope s_Player_do, [], []⟩
def d_Player_play : He.DefD := ⟨("Player", some "play"), "play", "Player.play", defArgs s_Player_play, defBody s_Player_play, defScope s_Player_play, [], []⟩
def d_Player_play_till : He.DefD := ⟨("Player", some "play_till"), "play_till", "Player.play_till", defArgs s_Player_play_till, defBody s_Player_play_till, defScope s_Player_play_till, [], []⟩
def d_Player_play_once : He.DefD := ⟨("Player", some "play_once"), "play_once", "Player.play_once", defArgs s_Player_play_once, defBody s_Player_play_once, defScope s_Player_play_once, [], []⟩
def d_Player_add_thing : He.DefD := ⟨("Player", some "add_thing"), "add_thing", "Player.add_thing", defArgs s_Player_add_thing, defBody s_Player_add_thing, defScope s_Player_add_thing, [], []⟩
def d_Editor___init__ : He.DefD := ⟨("Editor", some "__init__"), "__init__", "Editor.__init__", defArgs s_Editor___init__, defBody s_Editor___init__, defScope s_Editor___init__, [], []⟩
def d_Editor_text : He.DefD := ⟨("Editor", some "text"), "text", "Editor.text", defArgs s_Editor_text, defBody s_Editor_text, defScope s_Editor_text, [], []⟩
def d_Editor_place : He.DefD := ⟨("Editor", some "place"), "place", "Editor.place", defArgs s_Editor_place, defBody s_Editor_place, defScope s_Editor_place, [], []⟩
def d_Editor_clip : He.DefD := ⟨("Editor", some "clip"), "clip", "Editor.clip", defArgs s_Editor_clip, defBody s_Editor_clip, defScope s_Editor_clip, [], []⟩
def d_Editor_press : He.DefD := ⟨("Editor", some "press"), "press", "Editor.press", defArgs s_Editor_press, defBody s_Editor_press, defScope s_Editor_press, [], []⟩
def d_Editor_hand : He.DefD := ⟨("Editor", some "hand"), "hand", "Editor.hand", defArgs s_Editor_hand, defBody s_Editor_hand, defScope s_Editor_hand, [], []⟩
def d_Editor_tape : He.DefD := ⟨("Editor", some "tape"), "tape", "Editor.tape", defArgs s_Editor_tape, defBody s_Editor_tape, defScope s_Editor_tape, [], []⟩
def d_Editor_tape_of : He.DefD := ⟨("Editor", some "tape_of"), "tape_of", "Editor.tape_of", defArgs s_Editor_tape_of, defBody s_Editor_tape_of, defScope s_Editor_tape_of, [], []⟩
def d_Editor_record : He.DefD := ⟨("Editor", some "record"), "record", "Editor.record", defArgs s_Editor_record, defBody s_Editor_record, defScope s_Editor_record, [], []⟩
def d_Editor_stop : He.DefD := ⟨("Editor", some "stop"), "stop", "Editor.stop", defArgs s_Editor_stop, defBody s_Editor_stop, defScope s_Editor_stop, [], []⟩
def d_Editor_back : He.DefD := ⟨("Editor", some "back"), "back", "Editor.back", defArgs s_Editor_back, defBody s_Editor_back, defScope s_Editor_back, [], []⟩
def d_Editor_forth : He.DefD := ⟨("Editor", some "forth"), "forth", "Editor.forth", defArgs s_Editor_forth, defBody s_Editor_forth, defScope s_Editor_forth, [], []⟩
def d_Editor_go_to : He.DefD := ⟨("Editor", some "go_to"), "go_to", "Editor.go_to", defArgs s_Editor_go_to, defBody s_Editor_go_to, defScope s_Editor_go_to, [], []⟩
def d__law_mix : He.DefD := ⟨("_law_mix", none), "_law_mix", "_law_mix", defArgs s__law_mix, defBody s__law_mix, defScope s__law_mix, [], []⟩
def d__law_next : He.DefD := ⟨("_law_next", none), "_law_next", "_law_next", defArgs s__law_next, defBody s__law_next, defScope s__law_next, [], []⟩
def d__law_alike : He.DefD := ⟨("_law_alike", none), "_law_alike", "_law_alike", defArgs s__law_alike, defBody s__law_alike, defScope s__law_alike, [], []⟩
def d__law_sign : He.DefD := ⟨("_law_sign", none), "_law_sign", "_law_sign", defArgs s__law_sign, defBody s__law_sign, defScope s__law_sign, [], []⟩
def d__law_plain : He.DefD := ⟨("_law_plain", none), "_law_plain", "_law_plain", defArgs s__law_plain, defBody s__law_plain, defScope s__law_plain, [], []⟩
def d__law_like : He.DefD := ⟨("_law_like", none), "_law_like", "_law_like", defArgs s__law_like, defBody s__law_like, defScope s__law_like, [], []⟩
def d__law_played : He.DefD := ⟨("_law_played", none), "_law_played", "_law_played", defArgs s__law_played, defBody s__law_played, defScope s__law_played, [], []⟩
def d_law : He.DefD := ⟨("law", none), "law", "law", defArgs s_law, defBody s_law, defScope s_law, [], []⟩
def fn : List He.DefD := [d_Page___init__, d_are_signs, d_first_page, d_line_at, d_moved, d_with_lines, d_write, d_break_row, d_join_row, d_rub, d_go_left, d_go_right, d_go_to_row, d_go_up, d_go_down, d_go_home, d_go_end, d_find_word, d_take, d_lay, d_page_behind, d_is_word, d_is_number, d_is_key, d_is_plain_key, d_check_key, d_check_name, d_check_keys, d_check_plain_keys, d_check_each, d_alike, d_check_number, d_signs_not_put, d_played, d_Player___init__, d_Player_do, d_Player_play, d_Player_play_till, d_Player_play_once, d_Player_add_thing, d_Editor___init__, d_Editor_text, d_Editor_place, d_Editor_clip, d_Editor_press, d_Editor_hand, d_Editor_tape, d_Editor_tape_of, d_Editor_record, d_Editor_stop, d_Editor_back, d_Editor_forth, d_Editor_go_to, d__law_mix, d__law_next, d__law_alike, d__law_sign, d__law_plain, d__law_like, d__law_played, d_law]
def fa : List He.Fa := [.glo "TapeError", .glo "BadText", .glo "BadKey", .glo "BadKeys", .glo "BadName", .glo "BadNumbers", .glo "TooLong", .glo "Page", .glo "are_signs", .glo "first_page", .glo "line_at", .glo "moved", .glo "with_lines", .glo "write", .glo "break_row", .glo "join_row", .glo "rub", .glo "go_left", .glo "go_right", .glo "go_to_row", .glo "go_up", .glo "go_down", .glo "go_home", .glo "go_end", .glo "find_word", .glo "take", .glo "lay", .glo "page_behind", .glo "is_word", .glo "is_number", .glo "is_key", .glo "is_plain_key", .glo "check_key", .glo "check_name", .glo "check_keys", .glo "check_plain_keys", .glo "check_each", .glo "alike", .glo "check_number", .glo "signs_not_put", .glo "played", .glo "Player", .glo "Editor", .glo "_law_mix", .glo "_law_next", .glo "_law_alike", .glo "_law_sign", .glo "_law_plain", .glo "_law_like", .glo "_law_played", .glo "law", .glo "ACTIONS", .glo "NAMES", .free "all", .free "bool", .free "enumerate", .free "int", .free "isinstance", .free "len", .free "list", .free "max", .free "min", .free "range", .free "str", .free "super", .free "tuple", .int "MOST_ROWS" 12, .int "MOST_SIGNS" 60, .int "MOST_KEYS" 30, .int "MOST_PLAIN_KEYS" 6, .int "MOST_TIMES" 9, .int "LONGEST_WORD" 4, .int "MOST_ASKED" 9, .int "MOST_BESIDE" 20, .str "SIGNS" "abcdefghijklmnopqrstuvwxyzABCDEFGHIJKLMNOPQRSTUVWXYZ0123456789", .int "MOST_THINGS" 400, .int "MOST_AROUND" 20, .glo "PLAIN", .exc "BadText", .exc "BadKey", .exc "BadName", .exc "TooLong", .exc "BadNumbers", .cls "Page", .mkr "Page", .noat "Page" "rows", .noat "Page" "row", .noat "Page" "column", .noat "Page" "clipped", .cls "Player", .mkr "Player", .noat "Player" "page", .noat "Player" "tapes", .noat "Player" "typed", .noat "Player" "things", .meth "Player" "do", .meth "Player" "play", .meth "Player" "play_till", .meth "Player" "play_once", .meth "Player" "add_thing", .cls "Editor", .mkr "Editor", .noat "Editor" "page", .noat "Editor" "tapes", .noat "Editor" "recorded", .noat "Editor" "pressed", .noat "Editor" "units", .noat "Editor" "undone", .meth "Editor" "text", .meth "Editor" "place", .meth "Editor" "clip", .meth "Editor" "press", .meth "Editor" "hand", .meth "Editor" "tape", .meth "Editor" "tape_of", .meth "Editor" "record", .meth "Editor" "stop", .meth "Editor" "back", .meth "Editor" "forth", .meth "Editor" "go_to"]
def ts : List He.Tab := [((fun K => He.ga K "ACTIONS"), ["break", "rub", "left", "right", "up", "down", "home", "end", "take", "lay"])]
def acts : List (Str × He.Dv) := [("break", .glo "break_row"), ("rub", .glo "rub"), ("left", .glo "go_left"), ("right", .glo "go_right"), ("up", .glo "go_up"), ("down", .glo "go_down"), ("home", .glo "go_home"), ("end", .glo "go_end"), ("take", .glo "take"), ("lay", .glo "lay")]
def ex0 (K : PySem.W.Frag) : Bool := He.tupB K "NAMES" [.str "a", .str "b", .str "c", .str "d", .str "e", .str "f", .str "g", .str "h"] && He.valsB K (He.ga K "ACTIONS") acts
def kinds10 : List Str := ["BadKeys", "BadTape", "BadText", "BadKey", "BadName", "BadNames", "BadNumbers", "Taping", "NotTaping", "TooLong"]
def excs : List Str := []
def excB (K : PySem.W.Frag) (x : Str) : Bool := He.eqO (PySem.W.findIn K (.ref (He.ga K x)) "__getattribute__") (some (some (.builtin "BaseException.__getattribute__"))) && (He.eqO (PySem.W.findIn K (.ref (He.ga K x)) "__getattr__") (some none) && (decide (PySem.W.subIn K (.ref (He.ga K x)) (.type "BaseException") = some true) && (PySem.W.hasDictIn K (He.ga K x) && (He.eqO (PySem.W.findIn K (.ref (He.ga K x)) "__class__") (some (some (.builtin "object.__class__"))) && (He.eqO (PySem.W.specialIn K (.builtin "object.__class__") "__get__") (some (some (.builtin "getset_descriptor.__get__"))) && (decide (PySem.W.takesIn K (.builtin "object.__class__") = some true) && (decide (PySem.W.mroIn K (He.ga K x) (.type "object") = some true) && (kinds10.all (fun y => decide (PySem.W.kitOne K (.ref (He.ga K x)) (.ref (He.ga K y)) = some (decide (x = y)))) && (decide (PySem.W.kitOne K (.ref (He.ga K x)) (.type "ValueError") = some true) && decide (PySem.W.exmOne K (.ref (He.ga K x)) (.ref (He.ga K "TapeError")) = some true))))))))))
def makers : List He.Defn := []
def ex1 (K : PySem.W.Frag) : Bool := excs.all (excB K) && (makers.all fun p => decide ((He.cT K p).2 ≠ (He.cT K ("are_signs", none)).2))
def gens : List He.Defn := [("signs_not_put", none)]
def ex2 (K : PySem.W.Frag) : Bool := He.tupB K "PLAIN" [.str "put", .str "rub", .str "left", .str "right", .str "home", .str "end"] && gens.all (fun q => decide ((He.cT K q).2 ≠ (He.cT K ("are_signs", none)).2))
def ex (K : PySem.W.Frag) : Bool := (ex0 K && ex1 K) && ex2 K
def tf : List He.Defn := ("are_signs", none) :: (gens ++ makers)
abbrev R : PySem.W.OpenRow := PySem.W.OpenLaw.row PySem.Challenge.rw_keytape_k09_whole_alike_ones_on_any_row
abbrev hk : PySem.W.Hook := He.hookX 4 fa fn ts tf ex
def ob (s : PySem.W.SharedT) : He.AlX := He.obsX 4 fa fn ts tf ex (HandSHeadRun.getT s)
theorem ob_eq (s : PySem.W.SharedT) : ob s = hk.obs s.abs := He.obsX_eq (HandSHeadRun.getT_eq s)
def lo0 : List Str := ["_wall", "__name__", "TapeError", "BadText", "BadKey", "BadKeys", "BadName", "BadNumbers", "TooLong", "MOST_ROWS", "MOST_SIGNS", "Page", "are_signs", "first_page", "line_at", "moved", "with_lines", "write", "break_row", "join_row", "rub", "go_left", "go_right", "go_to_row", "go_up", "go_down", "go_home", "go_end", "find_word", "take"]
def lo1 : List Str := ["lay", "ACTIONS", "page_behind", "NAMES", "MOST_KEYS", "MOST_PLAIN_KEYS", "MOST_TIMES", "LONGEST_WORD", "PLAIN", "is_word", "is_number", "is_key", "is_plain_key", "check_key", "check_name", "check_keys", "check_plain_keys", "check_each", "MOST_ASKED", "MOST_BESIDE", "SIGNS", "alike", "check_number", "signs_not_put", "played", "MOST_THINGS", "MOST_AROUND", "Player", "Editor", "_law_mix"]
def lo2 : List Str := ["_law_next", "_law_alike", "_law_sign", "_law_plain", "_law_like", "_law_played"]
def loose : List Str := lo0 ++ lo1 ++ lo2
structure Tx (w : World) (K : PySem.W.Frag) (mg : Str → Option Value) : Prop where
  ex : ∃ h : Heap, K.In h ∧ h.Ns mainGlobals mg ∧ He.SaysX fa fn ts tf ex w h K
abbrev Ad (K : PySem.W.Frag) (p : Str × Option Str) : Addr := He.fAd K p
def fdOf (K : PySem.W.Frag) (a : Addr) : FuncData := match K.lookup a with
  | some ⟨_, _, .func fd, _⟩ => fd
  | _ => PySem.W.fnOf "" "" ⟨[], [], none, [], [], none, []⟩ [] ⟨.function, [], false, false, []⟩ .none .none .none .none none .none .none
section
variable {w : World} {K : PySem.W.Frag} {mg : Str → Option Value}
abbrev FnT (K : PySem.W.Frag) (d : He.DefD) : Prop := FunD K d.name d.qual d.params d.body d.scope (d.dvs K) (d.kws K) (Ad K d.at_) (fdOf K (Ad K d.at_))
theorem Tx.fn (T : Tx w K mg) (i : Nat) {d : He.DefD} (h : KT.fn[i]? = some d := by rfl) : FnT K d := by
  obtain ⟨_, _, _, c⟩ := T.ex
  obtain ⟨fd, F⟩ := c.t.d.def_ i (d := d) h
  have e : fdOf K (Ad K d.at_) = fd := by
    obtain ⟨oc, od, dV, kV, doc, pm, an, cdv, ct, osl, e, lk, _⟩ := F.ex
    unfold fdOf
    rw [lk]
  unfold FnT
  rw [e]
  exact F
theorem Tx.glo (T : Tx w K mg) (i : Nat) {x : Str} (h : KT.fa[i]? = some (.glo x) := by rfl) : mg x = some (.ref (He.ga K x)) := by
  obtain ⟨_, X, G, c⟩ := T.ex
  exact He.glo_ok X G (c.t.d.fact i h)
theorem Tx.free (T : Tx w K mg) (i : Nat) {x : Str} (h : KT.fa[i]? = some (.free x) := by rfl) : mg x = none := by
  obtain ⟨_, X, G, c⟩ := T.ex
  exact He.free_ok X G (c.t.d.fact i h)
theorem Tx.int (T : Tx w K mg) (i : Nat) {x : Str} {n : Int} (h : KT.fa[i]? = some (.int x n) := by rfl) : ∃ t, mg x = some (.int n t) := by
  obtain ⟨_, X, G, c⟩ := T.ex
  exact He.int_ok X G (c.t.d.fact i h)
theorem Tx.fact (T : Tx w K mg) (i : Nat) {f : He.Fa} (h : KT.fa[i]? = some f := by rfl) : f.ok K = true := by
  obtain ⟨_, _, _, c⟩ := T.ex
  exact c.t.d.fact i h
theorem Tx.more0 (T : Tx w K mg) : ex0 K = true := by
  obtain ⟨_, _, _, c⟩ := T.ex
  have := c.more
  unfold KT.ex at this
  exact (He.ba (He.ba this).1).1
theorem Tx.more1 (T : Tx w K mg) : ex1 K = true := by
  obtain ⟨_, _, _, c⟩ := T.ex
  have := c.more
  unfold KT.ex at this
  exact (He.ba (He.ba this).1).2
theorem Tx.more2 (T : Tx w K mg) : ex2 K = true := by
  obtain ⟨_, _, _, c⟩ := T.ex
  have := c.more
  unfold KT.ex at this
  exact (He.ba this).2
theorem Tx.f_Page___init__ (T : Tx w K mg) : FnT K d_Page___init__ := T.fn 0
theorem Tx.f_are_signs (T : Tx w K mg) : FnT K d_are_signs := T.fn 1
theorem Tx.f_first_page (T : Tx w K mg) : FnT K d_first_page := T.fn 2
theorem Tx.f_line_at (T : Tx w K mg) : FnT K d_line_at := T.fn 3
theorem Tx.f_moved (T : Tx w K mg) : FnT K d_moved := T.fn 4
theorem Tx.f_with_lines (T : Tx w K mg) : FnT K d_with_lines := T.fn 5
theorem Tx.f_write (T : Tx w K mg) : FnT K d_write := T.fn 6
theorem Tx.f_break_row (T : Tx w K mg) : FnT K d_break_row := T.fn 7
theorem Tx.f_join_row (T : Tx w K mg) : FnT K d_join_row := T.fn 8
theorem Tx.f_rub (T : Tx w K mg) : FnT K d_rub := T.fn 9
theorem Tx.f_go_left (T : Tx w K mg) : FnT K d_go_left := T.fn 10
theorem Tx.f_go_right (T : Tx w K mg) : FnT K d_go_right := T.fn 11
theorem Tx.f_go_to_row (T : Tx w K mg) : FnT K d_go_to_row := T.fn 12
theorem Tx.f_go_up (T : Tx w K mg) : FnT K d_go_up := T.fn 13
theorem Tx.f_go_down (T : Tx w K mg) : FnT K d_go_down := T.fn 14
theorem Tx.f_go_home (T : Tx w K mg) : FnT K d_go_home := T.fn 15
theorem Tx.f_go_end (T : Tx w K mg) : FnT K d_go_end := T.fn 16
theorem Tx.f_find_word (T : Tx w K mg) : FnT K d_find_word := T.fn 17
theorem Tx.f_take (T : Tx w K mg) : FnT K d_take := T.fn 18
theorem Tx.f_lay (T : Tx w K mg) : FnT K d_lay := T.fn 19
theorem Tx.f_page_behind (T : Tx w K mg) : FnT K d_page_behind := T.fn 20
theorem Tx.f_is_word (T : Tx w K mg) : FnT K d_is_word := T.fn 21
theorem Tx.f_is_number (T : Tx w K mg) : FnT K d_is_number := T.fn 22
theorem Tx.f_is_key (T : Tx w K mg) : FnT K d_is_key := T.fn 23
theorem Tx.f_is_plain_key (T : Tx w K mg) : FnT K d_is_plain_key := T.fn 24
theorem Tx.f_check_key (T : Tx w K mg) : FnT K d_check_key := T.fn 25
theorem Tx.f_check_name (T : Tx w K mg) : FnT K d_check_name := T.fn 26
theorem Tx.f_check_keys (T : Tx w K mg) : FnT K d_check_keys := T.fn 27
theorem Tx.f_check_plain_keys (T : Tx w K mg) : FnT K d_check_plain_keys := T.fn 28
theorem Tx.f_check_each (T : Tx w K mg) : FnT K d_check_each := T.fn 29
theorem Tx.f_alike (T : Tx w K mg) : FnT K d_alike := T.fn 30
theorem Tx.f_check_number (T : Tx w K mg) : FnT K d_check_number := T.fn 31
theorem Tx.f_signs_not_put (T : Tx w K mg) : FnT K d_signs_not_put := T.fn 32
theorem Tx.f_played (T : Tx w K mg) : FnT K d_played := T.fn 33
theorem Tx.f_Player___init__ (T : Tx w K mg) : FnT K d_Player___init__ := T.fn 34
theorem Tx.f_Player_do (T : Tx w K mg) : FnT K d_Player_do := T.fn 35
theorem Tx.f_Player_play (T : Tx w K mg) : FnT K d_Player_play := T.fn 36
theorem Tx.f_Player_play_till (T : Tx w K mg) : FnT K d_Player_play_till := T.fn 37
theorem Tx.f_Player_play_once (T : Tx w K mg) : FnT K d_Player_play_once := T.fn 38
theorem Tx.f_Player_add_thing (T : Tx w K mg) : FnT K d_Player_add_thing := T.fn 39
theorem Tx.f_Editor___init__ (T : Tx w K mg) : FnT K d_Editor___init__ := T.fn 40
theorem Tx.f_Editor_text (T : Tx w K mg) : FnT K d_Editor_text := T.fn 41
theorem Tx.f_Editor_place (T : Tx w K mg) : FnT K d_Editor_place := T.fn 42
theorem Tx.f_Editor_clip (T : Tx w K mg) : FnT K d_Editor_clip := T.fn 43
theorem Tx.f_Editor_press (T : Tx w K mg) : FnT K d_Editor_press := T.fn 44
theorem Tx.f_Editor_hand (T : Tx w K mg) : FnT K d_Editor_hand := T.fn 45
theorem Tx.f_Editor_tape (T : Tx w K mg) : FnT K d_Editor_tape := T.fn 46
theorem Tx.f_Editor_tape_of (T : Tx w K mg) : FnT K d_Editor_tape_of := T.fn 47
theorem Tx.f_Editor_record (T : Tx w K mg) : FnT K d_Editor_record := T.fn 48
theorem Tx.f_Editor_stop (T : Tx w K mg) : FnT K d_Editor_stop := T.fn 49
theorem Tx.f_Editor_back (T : Tx w K mg) : FnT K d_Editor_back := T.fn 50
theorem Tx.f_Editor_forth (T : Tx w K mg) : FnT K d_Editor_forth := T.fn 51
theorem Tx.f_Editor_go_to (T : Tx w K mg) : FnT K d_Editor_go_to := T.fn 52
theorem Tx.f__law_mix (T : Tx w K mg) : FnT K d__law_mix := T.fn 53
theorem Tx.f__law_next (T : Tx w K mg) : FnT K d__law_next := T.fn 54
theorem Tx.f__law_alike (T : Tx w K mg) : FnT K d__law_alike := T.fn 55
theorem Tx.f__law_sign (T : Tx w K mg) : FnT K d__law_sign := T.fn 56
theorem Tx.f__law_plain (T : Tx w K mg) : FnT K d__law_plain := T.fn 57
theorem Tx.f__law_like (T : Tx w K mg) : FnT K d__law_like := T.fn 58
theorem Tx.f__law_played (T : Tx w K mg) : FnT K d__law_played := T.fn 59
theorem Tx.f_law (T : Tx w K mg) : FnT K d_law := T.fn 60
theorem Tx.g_TapeError (T : Tx w K mg) : mg "TapeError" = some (.ref (He.ga K "TapeError")) := T.glo 0
theorem Tx.g_BadText (T : Tx w K mg) : mg "BadText" = some (.ref (He.ga K "BadText")) := T.glo 1
theorem Tx.g_BadKey (T : Tx w K mg) : mg "BadKey" = some (.ref (He.ga K "BadKey")) := T.glo 2
theorem Tx.g_BadKeys (T : Tx w K mg) : mg "BadKeys" = some (.ref (He.ga K "BadKeys")) := T.glo 3
theorem Tx.g_BadName (T : Tx w K mg) : mg "BadName" = some (.ref (He.ga K "BadName")) := T.glo 4
theorem Tx.g_BadNumbers (T : Tx w K mg) : mg "BadNumbers" = some (.ref (He.ga K "BadNumbers")) := T.glo 5
theorem Tx.g_TooLong (T : Tx w K mg) : mg "TooLong" = some (.ref (He.ga K "TooLong")) := T.glo 6
theorem Tx.g_Page (T : Tx w K mg) : mg "Page" = some (.ref (He.ga K "Page")) := T.glo 7
theorem Tx.g_are_signs (T : Tx w K mg) : mg "are_signs" = some (.ref (He.ga K "are_signs")) := T.glo 8
theorem Tx.g_first_page (T : Tx w K mg) : mg "first_page" = some (.ref (He.ga K "first_page")) := T.glo 9
theorem Tx.g_line_at (T : Tx w K mg) : mg "line_at" = some (.ref (He.ga K "line_at")) := T.glo 10
theorem Tx.g_moved (T : Tx w K mg) : mg "moved" = some (.ref (He.ga K "moved")) := T.glo 11
theorem Tx.g_with_lines (T : Tx w K mg) : mg "with_lines" = some (.ref (He.ga K "with_lines")) := T.glo 12
theorem Tx.g_write (T : Tx w K mg) : mg "write" = some (.ref (He.ga K "write")) := T.glo 13
theorem Tx.g_break_row (T : Tx w K mg) : mg "break_row" = some (.ref (He.ga K "break_row")) := T.glo 14
theorem Tx.g_join_row (T : Tx w K mg) : mg "join_row" = some (.ref (He.ga K "join_row")) := T.glo 15
theorem Tx.g_rub (T : Tx w K mg) : mg "rub" = some (.ref (He.ga K "rub")) := T.glo 16
theorem Tx.g_go_left (T : Tx w K mg) : mg "go_left" = some (.ref (He.ga K "go_left")) := T.glo 17
theorem Tx.g_go_right (T : Tx w K mg) : mg "go_right" = some (.ref (He.ga K "go_right")) := T.glo 18
theorem Tx.g_go_to_row (T : Tx w K mg) : mg "go_to_row" = some (.ref (He.ga K "go_to_row")) := T.glo 19
theorem Tx.g_go_up (T : Tx w K mg) : mg "go_up" = some (.ref (He.ga K "go_up")) := T.glo 20
theorem Tx.g_go_down (T : Tx w K mg) : mg "go_down" = some (.ref (He.ga K "go_down")) := T.glo 21
theorem Tx.g_go_home (T : Tx w K mg) : mg "go_home" = some (.ref (He.ga K "go_home")) := T.glo 22
theorem Tx.g_go_end (T : Tx w K mg) : mg "go_end" = some (.ref (He.ga K "go_end")) := T.glo 23
theorem Tx.g_find_word (T : Tx w K mg) : mg "find_word" = some (.ref (He.ga K "find_word")) := T.glo 24
theorem Tx.g_take (T : Tx w K mg) : mg "take" = some (.ref (He.ga K "take")) := T.glo 25
theorem Tx.g_lay (T : Tx w K mg) : mg "lay" = some (.ref (He.ga K "lay")) := T.glo 26
theorem Tx.g_page_behind (T : Tx w K mg) : mg "page_behind" = some (.ref (He.ga K "page_behind")) := T.glo 27
theorem Tx.g_is_word (T : Tx w K mg) : mg "is_word" = some (.ref (He.ga K "is_word")) := T.glo 28
theorem Tx.g_is_number (T : Tx w K mg) : mg "is_number" = some (.ref (He.ga K "is_number")) := T.glo 29
theorem Tx.g_is_key (T : Tx w K mg) : mg "is_key" = some (.ref (He.ga K "is_key")) := T.glo 30
theorem Tx.g_is_plain_key (T : Tx w K mg) : mg "is_plain_key" = some (.ref (He.ga K "is_plain_key")) := T.glo 31
theorem Tx.g_check_key (T : Tx w K mg) : mg "check_key" = some (.ref (He.ga K "check_key")) := T.glo 32
theorem Tx.g_check_name (T : Tx w K mg) : mg "check_name" = some (.ref (He.ga K "check_name")) := T.glo 33
theorem Tx.g_check_keys (T : Tx w K mg) : mg "check_keys" = some (.ref (He.ga K "check_keys")) := T.glo 34
theorem Tx.g_check_plain_keys (T : Tx w K mg) : mg "check_plain_keys" = some (.ref (He.ga K "check_plain_keys")) := T.glo 35
theorem Tx.g_check_each (T : Tx w K mg) : mg "check_each" = some (.ref (He.ga K "check_each")) := T.glo 36
theorem Tx.g_alike (T : Tx w K mg) : mg "alike" = some (.ref (He.ga K "alike")) := T.glo 37
theorem Tx.g_check_number (T : Tx w K mg) : mg "check_number" = some (.ref (He.ga K "check_number")) := T.glo 38
theorem Tx.g_signs_not_put (T : Tx w K mg) : mg "signs_not_put" = some (.ref (He.ga K "signs_not_put")) := T.glo 39
theorem Tx.g_played (T : Tx w K mg) : mg "played" = some (.ref (He.ga K "played")) := T.glo 40
theorem Tx.g_Player (T : Tx w K mg) : mg "Player" = some (.ref (He.ga K "Player")) := T.glo 41
theorem Tx.g_Editor (T : Tx w K mg) : mg "Editor" = some (.ref (He.ga K "Editor")) := T.glo 42
theorem Tx.g__law_mix (T : Tx w K mg) : mg "_law_mix" = some (.ref (He.ga K "_law_mix")) := T.glo 43
theorem Tx.g__law_next (T : Tx w K mg) : mg "_law_next" = some (.ref (He.ga K "_law_next")) := T.glo 44
theorem Tx.g__law_alike (T : Tx w K mg) : mg "_law_alike" = some (.ref (He.ga K "_law_alike")) := T.glo 45
theorem Tx.g__law_sign (T : Tx w K mg) : mg "_law_sign" = some (.ref (He.ga K "_law_sign")) := T.glo 46
theorem Tx.g__law_plain (T : Tx w K mg) : mg "_law_plain" = some (.ref (He.ga K "_law_plain")) := T.glo 47
theorem Tx.g__law_like (T : Tx w K mg) : mg "_law_like" = some (.ref (He.ga K "_law_like")) := T.glo 48
theorem Tx.g__law_played (T : Tx w K mg) : mg "_law_played" = some (.ref (He.ga K "_law_played")) := T.glo 49
theorem Tx.g_law (T : Tx w K mg) : mg "law" = some (.ref (He.ga K "law")) := T.glo 50
theorem Tx.g_ACTIONS (T : Tx w K mg) : mg "ACTIONS" = some (.ref (He.ga K "ACTIONS")) := T.glo 51
theorem Tx.g_NAMES (T : Tx w K mg) : mg "NAMES" = some (.ref (He.ga K "NAMES")) := T.glo 52
theorem Tx.n_all (T : Tx w K mg) : mg "all" = none := T.free 53
theorem Tx.n_bool (T : Tx w K mg) : mg "bool" = none := T.free 54
theorem Tx.n_enumerate (T : Tx w K mg) : mg "enumerate" = none := T.free 55
theorem Tx.n_int (T : Tx w K mg) : mg "int" = none := T.free 56
theorem Tx.n_isinstance (T : Tx w K mg) : mg "isinstance" = none := T.free 57
theorem Tx.n_len (T : Tx w K mg) : mg "len" = none := T.free 58
theorem Tx.n_list (T : Tx w K mg) : mg "list" = none := T.free 59
theorem Tx.n_max (T : Tx w K mg) : mg "max" = none := T.free 60
theorem Tx.n_min (T : Tx w K mg) : mg "min" = none := T.free 61
theorem Tx.n_range (T : Tx w K mg) : mg "range" = none := T.free 62
theorem Tx.n_str (T : Tx w K mg) : mg "str" = none := T.free 63
theorem Tx.n_super (T : Tx w K mg) : mg "super" = none := T.free 64
theorem Tx.n_tuple (T : Tx w K mg) : mg "tuple" = none := T.free 65
theorem Tx.i_MOST_ROWS (T : Tx w K mg) : ∃ t, mg "MOST_ROWS" = some (.int 12 t) := T.int 66
theorem Tx.i_MOST_SIGNS (T : Tx w K mg) : ∃ t, mg "MOST_SIGNS" = some (.int 60 t) := T.int 67
theorem Tx.i_MOST_KEYS (T : Tx w K mg) : ∃ t, mg "MOST_KEYS" = some (.int 30 t) := T.int 68
theorem Tx.i_MOST_PLAIN_KEYS (T : Tx w K mg) : ∃ t, mg "MOST_PLAIN_KEYS" = some (.int 6 t) := T.int 69
theorem Tx.i_MOST_TIMES (T : Tx w K mg) : ∃ t, mg "MOST_TIMES" = some (.int 9 t) := T.int 70
theorem Tx.i_LONGEST_WORD (T : Tx w K mg) : ∃ t, mg "LONGEST_WORD" = some (.int 4 t) := T.int 71
theorem Tx.i_MOST_ASKED (T : Tx w K mg) : ∃ t, mg "MOST_ASKED" = some (.int 9 t) := T.int 72
theorem Tx.i_MOST_BESIDE (T : Tx w K mg) : ∃ t, mg "MOST_BESIDE" = some (.int 20 t) := T.int 73
theorem Tx.s_SIGNS (T : Tx w K mg) : ∃ t, mg "SIGNS" = some (.str "abcdefghijklmnopqrstuvwxyzABCDEFGHIJKLMNOPQRSTUVWXYZ0123456789" t) := by
  obtain ⟨_, X, G, c⟩ := T.ex
  exact He.str_ok X G (c.t.d.fact 74 (f := .str "SIGNS" "abcdefghijklmnopqrstuvwxyzABCDEFGHIJKLMNOPQRSTUVWXYZ0123456789") rfl)
theorem Tx.i_MOST_THINGS (T : Tx w K mg) : ∃ t, mg "MOST_THINGS" = some (.int 400 t) := T.int 75
theorem Tx.i_MOST_AROUND (T : Tx w K mg) : ∃ t, mg "MOST_AROUND" = some (.int 20 t) := T.int 76
theorem Tx.g_PLAIN (T : Tx w K mg) : mg "PLAIN" = some (.ref (He.ga K "PLAIN")) := T.glo 77
theorem Tx.e_BadText (T : Tx w K mg) : PySem.W.excIn K (He.ga K "BadText") He.veBase "ValueError.__new__" = true ∧ PySem.W.keepIn K (.ref (He.ga K "BadText")) = true ∧ PySem.W.subIn K (.ref (He.ga K "BadText")) (.type "BaseException") = some true ∧ PySem.W.typeIn K (.ref (He.ga K "BadText")) = some (.type "type") := He.exc_ok (T.fact 78 (f := .exc "BadText"))
theorem pmk_BadText {P : Program} {base : Heap} {N : List Str} {d : He.DefD} {cdv : Value} {A : Around} {outer : List Env} {s : Shared} {H : Hp} {E : XK} {m : Str} {j : Nat} {p p2 pos : Pos} (T : Tx w K mg) (hg : Gl (cxOf (L2.CX P w) P w K mg base N d.qual d.scope (Ad K d.at_) cdv A outer s H E) "BadText") : PMk (cxOf (L2.CX P w) P w K mg base N d.qual d.scope (Ad K d.at_) cdv A outer s H E) (.Call (.Name "BadText" p) [.Constant (.str m) j p2] [] pos) (fun _ H Q => Q (.ref (He.ga K "BadText")) none H) := pmk_own PySem.F.excBase_ValueError T.e_BadText.1 T.g_BadText T.e_BadText.2.1 (raises_own T.e_BadText.2.2.1 T.e_BadText.2.2.2) hg
theorem Tx.e_BadKey (T : Tx w K mg) : PySem.W.excIn K (He.ga K "BadKey") He.veBase "ValueError.__new__" = true ∧ PySem.W.keepIn K (.ref (He.ga K "BadKey")) = true ∧ PySem.W.subIn K (.ref (He.ga K "BadKey")) (.type "BaseException") = some true ∧ PySem.W.typeIn K (.ref (He.ga K "BadKey")) = some (.type "type") := He.exc_ok (T.fact 79 (f := .exc "BadKey"))
theorem pmk_BadKey {P : Program} {base : Heap} {N : List Str} {d : He.DefD} {cdv : Value} {A : Around} {outer : List Env} {s : Shared} {H : Hp} {E : XK} {m : Str} {j : Nat} {p p2 pos : Pos} (T : Tx w K mg) (hg : Gl (cxOf (L2.CX P w) P w K mg base N d.qual d.scope (Ad K d.at_) cdv A outer s H E) "BadKey") : PMk (cxOf (L2.CX P w) P w K mg base N d.qual d.scope (Ad K d.at_) cdv A outer s H E) (.Call (.Name "BadKey" p) [.Constant (.str m) j p2] [] pos) (fun _ H Q => Q (.ref (He.ga K "BadKey")) none H) := pmk_own PySem.F.excBase_ValueError T.e_BadKey.1 T.g_BadKey T.e_BadKey.2.1 (raises_own T.e_BadKey.2.2.1 T.e_BadKey.2.2.2) hg
theorem Tx.e_BadName (T : Tx w K mg) : PySem.W.excIn K (He.ga K "BadName") He.veBase "ValueError.__new__" = true ∧ PySem.W.keepIn K (.ref (He.ga K "BadName")) = true ∧ PySem.W.subIn K (.ref (He.ga K "BadName")) (.type "BaseException") = some true ∧ PySem.W.typeIn K (.ref (He.ga K "BadName")) = some (.type "type") := He.exc_ok (T.fact 80 (f := .exc "BadName"))
theorem pmk_BadName {P : Program} {base : Heap} {N : List Str} {d : He.DefD} {cdv : Value} {A : Around} {outer : List Env} {s : Shared} {H : Hp} {E : XK} {m : Str} {j : Nat} {p p2 pos : Pos} (T : Tx w K mg) (hg : Gl (cxOf (L2.CX P w) P w K mg base N d.qual d.scope (Ad K d.at_) cdv A outer s H E) "BadName") : PMk (cxOf (L2.CX P w) P w K mg base N d.qual d.scope (Ad K d.at_) cdv A outer s H E) (.Call (.Name "BadName" p) [.Constant (.str m) j p2] [] pos) (fun _ H Q => Q (.ref (He.ga K "BadName")) none H) := pmk_own PySem.F.excBase_ValueError T.e_BadName.1 T.g_BadName T.e_BadName.2.1 (raises_own T.e_BadName.2.2.1 T.e_BadName.2.2.2) hg
theorem Tx.e_TooLong (T : Tx w K mg) : PySem.W.excIn K (He.ga K "TooLong") He.veBase "ValueError.__new__" = true ∧ PySem.W.keepIn K (.ref (He.ga K "TooLong")) = true ∧ PySem.W.subIn K (.ref (He.ga K "TooLong")) (.type "BaseException") = some true ∧ PySem.W.typeIn K (.ref (He.ga K "TooLong")) = some (.type "type") := He.exc_ok (T.fact 81 (f := .exc "TooLong"))
theorem pmk_TooLong {P : Program} {base : Heap} {N : List Str} {d : He.DefD} {cdv : Value} {A : Around} {outer : List Env} {s : Shared} {H : Hp} {E : XK} {m : Str} {j : Nat} {p p2 pos : Pos} (T : Tx w K mg) (hg : Gl (cxOf (L2.CX P w) P w K mg base N d.qual d.scope (Ad K d.at_) cdv A outer s H E) "TooLong") : PMk (cxOf (L2.CX P w) P w K mg base N d.qual d.scope (Ad K d.at_) cdv A outer s H E) (.Call (.Name "TooLong" p) [.Constant (.str m) j p2] [] pos) (fun _ H Q => Q (.ref (He.ga K "TooLong")) none H) := pmk_own PySem.F.excBase_ValueError T.e_TooLong.1 T.g_TooLong T.e_TooLong.2.1 (raises_own T.e_TooLong.2.2.1 T.e_TooLong.2.2.2) hg
theorem Tx.e_BadNumbers (T : Tx w K mg) : PySem.W.excIn K (He.ga K "BadNumbers") He.veBase "ValueError.__new__" = true ∧ PySem.W.keepIn K (.ref (He.ga K "BadNumbers")) = true ∧ PySem.W.subIn K (.ref (He.ga K "BadNumbers")) (.type "BaseException") = some true ∧ PySem.W.typeIn K (.ref (He.ga K "BadNumbers")) = some (.type "type") := He.exc_ok (T.fact 82 (f := .exc "BadNumbers"))
theorem pmk_BadNumbers {P : Program} {base : Heap} {N : List Str} {d : He.DefD} {cdv : Value} {A : Around} {outer : List Env} {s : Shared} {H : Hp} {E : XK} {m : Str} {j : Nat} {p p2 pos : Pos} (T : Tx w K mg) (hg : Gl (cxOf (L2.CX P w) P w K mg base N d.qual d.scope (Ad K d.at_) cdv A outer s H E) "BadNumbers") : PMk (cxOf (L2.CX P w) P w K mg base N d.qual d.scope (Ad K d.at_) cdv A outer s H E) (.Call (.Name "BadNumbers" p) [.Constant (.str m) j p2] [] pos) (fun _ H Q => Q (.ref (He.ga K "BadNumbers")) none H) := pmk_own PySem.F.excBase_ValueError T.e_BadNumbers.1 T.g_BadNumbers T.e_BadNumbers.2.1 (raises_own T.e_BadNumbers.2.2.1 T.e_BadNumbers.2.2.2) hg
theorem Tx.c_Page (T : Tx w K mg) : Cls K (He.ga K "Page") := He.cls_ok (T.fact 83)
theorem Tx.k_Page (T : Tx w K mg) : Mk K (He.ga K "Page") (Ad K ("Page", some "__init__")) := He.mkr_ok (T.fact 84)
theorem Tx.a_Page_rows (T : Tx w K mg) : NoAttr K (He.ga K "Page") "rows" := He.noat_ok (T.fact 85)
theorem Tx.a_Page_row (T : Tx w K mg) : NoAttr K (He.ga K "Page") "row" := He.noat_ok (T.fact 86)
theorem Tx.a_Page_column (T : Tx w K mg) : NoAttr K (He.ga K "Page") "column" := He.noat_ok (T.fact 87)
theorem Tx.a_Page_clipped (T : Tx w K mg) : NoAttr K (He.ga K "Page") "clipped" := He.noat_ok (T.fact 88)
theorem Tx.c_Player (T : Tx w K mg) : Cls K (He.ga K "Player") := He.cls_ok (T.fact 89)
theorem Tx.k_Player (T : Tx w K mg) : Mk K (He.ga K "Player") (Ad K ("Player", some "__init__")) := He.mkr_ok (T.fact 90)
theorem Tx.a_Player_page (T : Tx w K mg) : NoAttr K (He.ga K "Player") "page" := He.noat_ok (T.fact 91)
theorem Tx.a_Player_tapes (T : Tx w K mg) : NoAttr K (He.ga K "Player") "tapes" := He.noat_ok (T.fact 92)
theorem Tx.a_Player_typed (T : Tx w K mg) : NoAttr K (He.ga K "Player") "typed" := He.noat_ok (T.fact 93)
theorem Tx.a_Player_things (T : Tx w K mg) : NoAttr K (He.ga K "Player") "things" := He.noat_ok (T.fact 94)
theorem Tx.m_Player_do (T : Tx w K mg) : Meth K (He.ga K "Player") "do" (Ad K ("Player", some "do")) := He.meth_ok (T.fact 95)
theorem Tx.m_Player_play (T : Tx w K mg) : Meth K (He.ga K "Player") "play" (Ad K ("Player", some "play")) := He.meth_ok (T.fact 96)
theorem Tx.m_Player_play_till (T : Tx w K mg) : Meth K (He.ga K "Player") "play_till" (Ad K ("Player", some "play_till")) := He.meth_ok (T.fact 97)
theorem Tx.m_Player_play_once (T : Tx w K mg) : Meth K (He.ga K "Player") "play_once" (Ad K ("Player", some "play_once")) := He.meth_ok (T.fact 98)
theorem Tx.m_Player_add_thing (T : Tx w K mg) : Meth K (He.ga K "Player") "add_thing" (Ad K ("Player", some "add_thing")) := He.meth_ok (T.fact 99)
theorem Tx.c_Editor (T : Tx w K mg) : Cls K (He.ga K "Editor") := He.cls_ok (T.fact 100)
theorem Tx.k_Editor (T : Tx w K mg) : Mk K (He.ga K "Editor") (Ad K ("Editor", some "__init__")) := He.mkr_ok (T.fact 101)
theorem Tx.a_Editor_page (T : Tx w K mg) : NoAttr K (He.ga K "Editor") "page" := He.noat_ok (T.fact 102)
theorem Tx.a_Editor_tapes (T : Tx w K mg) : NoAttr K (He.ga K "Editor") "tapes" := He.noat_ok (T.fact 103)
theorem Tx.a_Editor_recorded (T : Tx w K mg) : NoAttr K (He.ga K "Editor") "recorded" := He.noat_ok (T.fact 104)
theorem Tx.a_Editor_pressed (T : Tx w K mg) : NoAttr K (He.ga K "Editor") "pressed" := He.noat_ok (T.fact 105)
theorem Tx.a_Editor_units (T : Tx w K mg) : NoAttr K (He.ga K "Editor") "units" := He.noat_ok (T.fact 106)
theorem Tx.a_Editor_undone (T : Tx w K mg) : NoAttr K (He.ga K "Editor") "undone" := He.noat_ok (T.fact 107)
theorem Tx.m_Editor_text (T : Tx w K mg) : Meth K (He.ga K "Editor") "text" (Ad K ("Editor", some "text")) := He.meth_ok (T.fact 108)
theorem Tx.m_Editor_place (T : Tx w K mg) : Meth K (He.ga K "Editor") "place" (Ad K ("Editor", some "place")) := He.meth_ok (T.fact 109)
theorem Tx.m_Editor_clip (T : Tx w K mg) : Meth K (He.ga K "Editor") "clip" (Ad K ("Editor", some "clip")) := He.meth_ok (T.fact 110)
theorem Tx.m_Editor_press (T : Tx w K mg) : Meth K (He.ga K "Editor") "press" (Ad K ("Editor", some "press")) := He.meth_ok (T.fact 111)
theorem Tx.m_Editor_hand (T : Tx w K mg) : Meth K (He.ga K "Editor") "hand" (Ad K ("Editor", some "hand")) := He.meth_ok (T.fact 112)
theorem Tx.m_Editor_tape (T : Tx w K mg) : Meth K (He.ga K "Editor") "tape" (Ad K ("Editor", some "tape")) := He.meth_ok (T.fact 113)
theorem Tx.m_Editor_tape_of (T : Tx w K mg) : Meth K (He.ga K "Editor") "tape_of" (Ad K ("Editor", some "tape_of")) := He.meth_ok (T.fact 114)
theorem Tx.m_Editor_record (T : Tx w K mg) : Meth K (He.ga K "Editor") "record" (Ad K ("Editor", some "record")) := He.meth_ok (T.fact 115)
theorem Tx.m_Editor_stop (T : Tx w K mg) : Meth K (He.ga K "Editor") "stop" (Ad K ("Editor", some "stop")) := He.meth_ok (T.fact 116)
theorem Tx.m_Editor_back (T : Tx w K mg) : Meth K (He.ga K "Editor") "back" (Ad K ("Editor", some "back")) := He.meth_ok (T.fact 117)
theorem Tx.m_Editor_forth (T : Tx w K mg) : Meth K (He.ga K "Editor") "forth" (Ad K ("Editor", some "forth")) := He.meth_ok (T.fact 118)
theorem Tx.m_Editor_go_to (T : Tx w K mg) : Meth K (He.ga K "Editor") "go_to" (Ad K ("Editor", some "go_to")) := He.meth_ok (T.fact 119)
end
end KT
set_option linter.all false
namespace KT
abbrev Ln := List Nat
/-! ### pages -/
structure Pg where
  rows : List Ln
  row : Nat
  col : Nat
  clip : Ln
def Pg.line (g : Pg) : Ln := g.rows.getD g.row []
abbrev okSign (c : Nat) : Prop := 32 ≤ c ∧ c ≤ 126
/-- what a page of the program is like -/
structure Pg.Ok (g : Pg) : Prop where
  many : g.rows.length ≤ 12
  long : ∀ l ∈ g.rows, l.length ≤ 60
  row : g.row < g.rows.length
  col : g.col ≤ g.line.length
  clip : g.clip.length ≤ 60
  sig : ∀ l ∈ g.rows, ∀ c ∈ l, okSign c
  csig : ∀ c ∈ g.clip, okSign c
/-- other lines for so many rows -/
def Pg.others (g : Pg) (f n : Nat) (ls : List Ln) : List Ln := g.rows.take f ++ ls ++ g.rows.drop (f + n)
def Pg.write (s : Ln) (g : Pg) : Option Pg :=
  if 60 < g.line.length + s.length then none else some { rows := g.others g.row 1 [g.line.take g.col ++ s ++ g.line.drop g.col], row := g.row, col := g.col + s.length, clip := g.clip }
def Pg.brk (g : Pg) : Option Pg :=
  if 12 ≤ g.rows.length then none else some { rows := g.others g.row 1 [g.line.take g.col, g.line.drop g.col], row := g.row + 1, col := 0, clip := g.clip }
def Pg.join (g : Pg) : Option Pg :=
  if g.row = 0 then none else
  if 60 < (g.rows.getD (g.row - 1) [] ++ g.line).length then none else
  some { rows := g.others (g.row - 1) 2 [g.rows.getD (g.row - 1) [] ++ g.line], row := g.row - 1, col := (g.rows.getD (g.row - 1) []).length, clip := g.clip }
def Pg.rub (g : Pg) : Option Pg :=
  if g.col = 0 then g.join else some { rows := g.others g.row 1 [g.line.take (g.col - 1) ++ g.line.drop g.col], row := g.row, col := g.col - 1, clip := g.clip }
def Pg.at_ (g : Pg) (r c : Nat) : Pg := { g with row := r, col := c }
def Pg.left (g : Pg) : Option Pg :=
  if 0 < g.col then some (g.at_ g.row (g.col - 1)) else if g.row = 0 then none else some (g.at_ (g.row - 1) (g.rows.getD (g.row - 1) []).length)
def Pg.right (g : Pg) : Option Pg :=
  if g.col < g.line.length then some (g.at_ g.row (g.col + 1)) else if g.row + 1 = g.rows.length then none else some (g.at_ (g.row + 1) 0)
def Pg.toRow (i : Int) (g : Pg) : Option Pg :=
  if i < 0 ∨ (g.rows.length : Int) ≤ i then none else some (g.at_ i.toNat (min g.col (g.rows.getD i.toNat []).length))
def Pg.up (g : Pg) : Option Pg := g.toRow ((g.row : Int) - 1)
def Pg.down (g : Pg) : Option Pg := g.toRow ((g.row : Int) + 1)
def Pg.home (g : Pg) : Option Pg := some (g.at_ g.row 0)
def Pg.end_ (g : Pg) : Option Pg := some (g.at_ g.row g.line.length)
/-- w stands in l at c -/
def stands (w l : Ln) (c : Nat) : Bool := decide (c + w.length ≤ l.length) && decide ((l.drop c).take w.length = w)
/-- the first place from c on, n places looked at -/
def firstAt (w l : Ln) : Nat → Nat → Option Nat
  | _, 0 => none
  | c, n + 1 => if stands w l c then some c else firstAt w l (c + 1) n
def findL (w l : Ln) (c : Nat) : Option Nat := firstAt w l c (l.length + 1 - c)
def seek (w : Ln) : List Ln → Nat → Nat → Option (Nat × Nat)
  | [], _, _ => none
  | l :: r, k, c => match findL w l c with
    | some j => some (k, j)
    | none => seek w r (k + 1) 0
def Pg.find (w : Ln) (g : Pg) : Option Pg := (seek w (g.rows.drop g.row) g.row (g.col + 1)).map fun p => g.at_ p.1 p.2
def isLet (c : Nat) : Bool := decide (97 ≤ c) && decide (c ≤ 122)
def lets (l : Ln) : Nat := (l.takeWhile isLet).length
def Pg.take (g : Pg) : Option Pg :=
  let m := lets (g.line.drop g.col)
  if m = 0 then none else some { rows := g.others g.row 1 [g.line.take g.col ++ g.line.drop (g.col + m)], row := g.row, col := g.col, clip := (g.line.drop g.col).take m }
def Pg.lay (g : Pg) : Option Pg := if g.clip = [] then none else g.write g.clip
/-! ### keys -/
inductive Ky where
  | put (s : Ln) | find (w : Ln)
  | brk | rub | left | right | up | down | home | end_ | take | lay
  | play (n : Nat) (many : Nat) | till (n : Nat)
  deriving DecidableEq
/-- what the program takes for a key -/
def Ky.Ok : Ky → Prop
  | .put s => s.length = 1 ∧ ∀ c ∈ s, okSign c
  | .find s => 1 ≤ s.length ∧ s.length ≤ 4 ∧ ∀ c ∈ s, okSign c
  | .play n m => n < 8 ∧ 1 ≤ m ∧ m ≤ 9
  | .till n => n < 8
  | _ => True
/-- it plays nothing -/
def Ky.single : Ky → Bool
  | .play _ _ => false
  | .till _ => false
  | _ => true
/-- a key that plays no tape -/
def Pg.does (g : Pg) : Ky → Option Pg
  | .put s => g.write s
  | .find w => g.find w
  | .brk => g.brk
  | .rub => g.rub
  | .left => g.left
  | .right => g.right
  | .up => g.up
  | .down => g.down
  | .home => g.home
  | .end_ => g.end_
  | .take => g.take
  | .lay => g.lay
  | _ => none
end KT
namespace KT
/-! ### playing -/
/-- what a player is at -/
structure PSt where
  page : Pg
  typed : List Ky
  things : Nat
inductive Res where
  | long
  | fin (fits : Bool) (st : PSt)
def addT (st : PSt) : Option PSt := if st.things < 400 then some { st with things := st.things + 1 } else none
/-- keys in turn, up to one that doesn't fit -/
def keysR (f : Ky → PSt → Res) : List Ky → PSt → Res
  | [], st => .fin true st
  | k :: ks, st => match f k st with
    | .fin true st' => keysR f ks st'
    | r => r
/-- a tape, once more -/
def once (f : Ky → PSt → Res) (ks : List Ky) (st : PSt) : Res := match addT st with
  | none => .long
  | some st' => keysR f ks st'
def timesR (g : PSt → Res) : Nat → PSt → Res
  | 0, st => .fin true st
  | m + 1, st => match g st with
    | .fin true st' => timesR g m st'
    | r => r
def tillR (g : PSt → Res) : Nat → PSt → Res
  | 0, _ => .long
  | n + 1, st => match g st with
    | .fin true st' => tillR g n st'
    | .fin false st' => .fin true st'
    | .long => .long
/-- a key that plays nothing -/
def singleR (k : Ky) (st : PSt) : Res := match st.page.does k with
  | none => .fin false st
  | some g => .fin true ⟨g, st.typed ++ [k], st.things⟩
/-- what a play or till does, with so many others yet allowed around -/
def playR (tp : Nat → List Ky) (o : Option (Ky → PSt → Res)) (k : Ky) (st : PSt) : Res := match k with
  | .play n m => match o with
    | none => .fin false st
    | some f => timesR (once f (tp n)) m st
  | .till n => match o with
    | none => .fin false st
    | some f => tillR (once f (tp n)) 401 st
  | k => singleR k st
def doK (tp : Nat → List Ky) : Nat → Ky → PSt → Res
  | 0, k, st => match addT st with
    | none => .long
    | some st' => playR tp none k st'
  | d + 1, k, st => match addT st with
    | none => .long
    | some st' => playR tp (some (doK tp d)) k st'
/-- below the play or till at d others -/
def under (tp : Nat → List Ky) : Nat → Option (Ky → PSt → Res)
  | 0 => none
  | d + 1 => some (doK tp d)
theorem doK_eq (tp : Nat → List Ky) (d : Nat) (k : Ky) (st : PSt) : doK tp d k st = match addT st with
    | none => .long
    | some st' => playR tp (under tp d) k st' := by
  cases d <;> rfl
end KT
set_option Elab.async false
set_option linter.all false
set_option maxRecDepth 100000
set_option maxHeartbeats 4000000
namespace KT
open PySem PySem.Spec PyProof.Rows L2 GxR
/-! ### heaps -/
def noTbl : HO → Bool
  | .tbl _ => false
  | _ => true
/-- what may be written over -/
def wrO : HO → Bool
  | .tbl _ => false
  | .ext _ => false
  | _ => true
theorem wr_noTbl {u : HO} (h : wrO u = true) : noTbl u = true := by cases u <;> first | rfl | cases h
/-- the table of are_signs, and the tables of the defs that make lambdas, with the lambdas' names -/
class GT where
  a : Addr
  l : List (Addr × Str)
  ne : ∀ p ∈ l, p.1 ≠ a
variable [GT]
theorem tabS_imp {H H' : Hp} {P : Addr} {q : Str} (t : LamX.TabS H P q) (h1 : ∀ ps, H P = some (.tbl ps) → H' P = some (.tbl ps)) (h2 : ∀ c, H c = some (LamX.CodeO c q) → H' c = some (LamX.CodeO c q)) : LamX.TabS H' P q := by
  obtain ⟨ps, a1, a2, a3⟩ := t
  refine ⟨ps, h1 _ a1, a2, fun pos cv hc => ?_⟩
  obtain ⟨c, e1, e2⟩ := a3 pos cv hc
  exact ⟨c, e1, h2 _ e2⟩
theorem wr_ne {H : Hp} {p c : Addr} {u : HO} {q : Str} (hp : H p = some u) (n : wrO u = true) (h : H c = some (LamX.CodeO c q)) : c ≠ p := fun e => by
  subst e
  rw [hp] at h
  unfold LamX.CodeO at h
  cases h
  cases n
theorem wr_tbl {H : Hp} {p P : Addr} {u : HO} {ps : Array Value} (hp : H p = some u) (n : wrO u = true) (h : H P = some (.tbl ps)) : P ≠ p := fun e => by
  subst e
  rw [hp] at h
  cases h
  cases n
/-- H' is H, but for what stands at the addresses of S; the tables may have grown -/
structure Kq (S : List Addr) (H H' : Hp) : Prop where
  at_ : ∀ b o, H b = some o → noTbl o = true → b ∉ S → H' b = some o
  tab : ∀ p, TabG H p → TabG H' p
  fr : ∀ b, H' b = none → H b = none
  tabS : ∀ p ∈ GT.l, LamX.TabS H p.1 p.2 → LamX.TabS H' p.1 p.2
theorem Kq.refl {S : List Addr} {H : Hp} : Kq S H H := ⟨fun _ _ h _ _ => h, fun _ h => h, fun _ h => h, fun _ _ h => h⟩
theorem Kq.trans {S : List Addr} {H H1 H2 : Hp} (a : Kq S H H1) (b : Kq S H1 H2) : Kq S H H2 :=
  ⟨fun c o h n m => b.at_ c o (a.at_ c o h n m) n m, fun p h => b.tab p (a.tab p h), fun c h => a.fr c (b.fr c h), fun p m h => b.tabS p m (a.tabS p m h)⟩
theorem Kq.mono {S S' : List Addr} {H H1 : Hp} (a : Kq S H H1) (h : ∀ b ∈ S, b ∈ S') : Kq S' H H1 :=
  ⟨fun c o q n m => a.at_ c o q n fun z => m (h c z), a.tab, a.fr, a.tabS⟩
theorem Kq.of {S : List Addr} {H H1 : Hp} (a : Kq [] H H1) : Kq S H H1 := a.mono fun b h => absurd h (by simp)
theorem Kq.get {H H1 : Hp} (a : Kq [] H H1) {b : Addr} {o : HO} (h : H b = some o) (n : noTbl o = true := by rfl) : H1 b = some o := a.at_ b o h n (by simp)
theorem Kq.gets {S : List Addr} {H H1 : Hp} (a : Kq S H H1) {b : Addr} {o : HO} (h : H b = some o) (m : b ∉ S) (n : noTbl o = true := by rfl) : H1 b = some o := a.at_ b o h n m
theorem Kq.alloc {S : List Addr} {H : Hp} {p : Addr} {o : HO} (hp : H p = none) (n : noTbl o = true := by rfl) : Kq S H (upd H p o) := by
  refine ⟨fun b u h _ _ => ?_, fun q h => ?_, fun b h => ?_, fun q _ h => h.ext fun b u e => by rw [upd_ne (ne_of_none e hp)]; exact e⟩
  · rw [upd_ne (ne_of_none h hp)]; exact h
  · obtain ⟨ps, h1, h2⟩ := h
    exact ⟨ps, by rw [upd_ne (ne_of_none h1 hp)]; exact h1, h2⟩
  · by_cases e : b = p
    · subst e; exact hp
    · rw [upd_ne e] at h; exact h
theorem Kq.write {S : List Addr} {H : Hp} {p : Addr} {o u : HO} (hp : H p = some u) (hS : p ∈ S) (n : wrO u = true := by rfl) : Kq S H (upd H p o) := by
  refine ⟨fun b v h _ m => ?_, fun q h => ?_, fun b h => ?_, fun q _ h => tabS_imp h (fun ps e => by rw [upd_ne (wr_tbl hp n e)]; exact e) (fun c e => by rw [upd_ne (wr_ne hp n e)]; exact e)⟩
  · rw [upd_ne (fun e => m (by rw [e]; exact hS))]; exact h
  · obtain ⟨ps, h1, h2⟩ := h
    have : q ≠ p := fun e => by
      subst e
      rw [hp] at h1
      cases h1
      cases n
    exact ⟨ps, by rw [upd_ne this]; exact h1, h2⟩
  · by_cases e : b = p
    · subst e; rw [upd_same] at h; cases h
    · rw [upd_ne e] at h; exact h
theorem Kq.tabbed {S : List Addr} {H H' : Hp} {p : Addr} (t : Tabbed p H H') (hp : TabG H p) (ea : p = GT.a := by rfl) : Kq S H H' := by
  obtain ⟨t1, t2⟩ := t
  refine ⟨fun b u h n _ => ?_, fun q h => ?_, fun b h => ?_, fun q m h => tabS_imp h (fun ps e => by rw [t2 _ (by rw [ea]; exact GT.ne q m)]; exact e) (fun c e => ?_)⟩
  rotate_left 3
  · have : c ≠ p := fun z => by
      subst z
      obtain ⟨ps, h1, _⟩ := hp
      rw [h1] at e
      unfold LamX.CodeO at e
      cases e
    rw [t2 c this]; exact e
  · have : b ≠ p := fun e => by
      subst e
      obtain ⟨ps, h1, _⟩ := hp
      rw [h] at h1
      cases h1
      cases n
    rw [t2 b this]; exact h
  · by_cases e : q = p
    · subst e; exact t1
    · obtain ⟨ps, h1, h2⟩ := h
      exact ⟨ps, by rw [t2 q e]; exact h1, h2⟩
  · by_cases e : b = p
    · subst e
      obtain ⟨ps, h1, _⟩ := t1
      rw [h] at h1; cases h1
    · rw [t2 b e] at h; exact h
theorem Kq.seq {K : PySem.W.Frag} {H H1 : Hp} (a : Kq [] H H1) {l : Addr} {xs : List V} (h : SqL K H l xs) : SqL K H1 l xs := by
  rcases h with (h | ⟨o, h⟩) | h
  · exact .inl (.inl (a.get h))
  · exact .inl (.inr ⟨o, a.get h⟩)
  · exact .inr h
theorem Kq.tup {K : PySem.W.Frag} {H H1 : Hp} (a : Kq [] H H1) {l : Addr} {xs : List V} (h : SqT K H l xs) : SqT K H1 l xs := by
  rcases h with (h | ⟨o, h⟩) | h
  · exact .inl (.inl (a.get h))
  · exact .inl (.inr ⟨o, a.get h⟩)
  · exact .inr h
/-! ### defs -/
/-- the def at f keeps its promise -/
structure Fk (P : Program) (w : World) (K : PySem.W.Frag) (mg : Str → Option Value) (base : Heap) (k : Nat) (f : Addr) (ps : List Str) (sp : Sp) : Prop where
  ok : FnOk P w K mg base (L2.CX P w) k f (fdOf K f) ps sp
  b : Binds K (fdOf K f) ps []
  kp : PySem.W.keepIn K (.ref f) = true
theorem Fk.mono {P : Program} {w : World} {K : PySem.W.Frag} {mg : Str → Option Value} {base : Heap} {j k : Nat} {f : Addr} {ps : List Str} {sp : Sp} (F : Fk P w K mg base j f ps sp) (h : j ≤ k) : Fk P w K mg base k f ps sp := ⟨F.ok.mono h, F.b, F.kp⟩
section
variable {P : Program} {w : World} {K : PySem.W.Frag} {mg : Str → Option Value} {base : Heap}
abbrev CxD (P : Program) (w : World) (K : PySem.W.Frag) (mg : Str → Option Value) (base : Heap) (N : List Str) (d : He.DefD) (cdv : Value) (A : Around) (outer : List Env) (s : Shared) (H : Hp) (E : XK) : Cx :=
  cxOf (L2.CX P w) P w K mg base N d.qual d.scope (Ad K d.at_) cdv A outer s H E
theorem mkF {d : He.DefD} {N ps : List Str} {k : Nat} {sp : Sp} (F : FnT K d) (S : FnScope N ps d.scope) (hd : d.dfl = [])
    (hb : ∀ (kV doc pm : Value) (an : Option Addr) (cdv ct : Value) (us : List Value), us.length = ps.length → bindArgs (PySem.W.fnOf d.name d.qual d.params d.body d.scope .none kV doc pm an cdv ct) ⟨us, []⟩ = pure (ps.zip us))
    (len : ∀ vs H Q E, sp vs H Q E → vs.length = ps.length)
    (hbody : ∀ (cdv : Value) (A : Around) (outer : List Env) (s : Shared) (H : Hp) (vs : List V) (Q : VK) (E : XK),
      PySem.W.codeIn K cdv d.qual = true → cdv = .ref (He.codeOf K d.at_) →
      Room k (CxD P w K mg base N d cdv A outer s H E).A → sp vs H Q E →
      ∃ t, PSs (CxD P w K mg base N d cdv A outer s H E) d.body t ∧ t { nx := fun _ H' => Q .non H', rt := Q } (start N vs) H) : Fk P w K mg base (k + 1) (Ad K d.at_) ps sp := by
  have F' : FunD K d.name d.qual d.params d.body d.scope [] (d.kws K) (Ad K d.at_) (fdOf K (Ad K d.at_)) := by
    have e : d.dvs K = [] := by unfold He.DefD.dvs; rw [hd]; rfl
    have := F
    unfold FnT at this
    rw [e] at this
    exact this
  refine ⟨?_, F'.bindsN hb, F'.kp⟩
  obtain ⟨oc, od, dV, kV, doc, pm, an, cdv, ct, osl, e, lk, hcd, _, _⟩ := F'.ex
  have hcode : cdv = .ref (He.codeOf K d.at_) := by
    obtain ⟨c, hc⟩ := He.codeIn_ref hcd
    rw [hc]
    have : He.codeOf K d.at_ = c := He.codeOf_eq lk (by rw [e]; exact hc)
    rw [this]
  rw [e] at lk ⊢
  refine fn_of lk hcd S len fun A outer s H vs Q E hr hsp => ?_
  exact hbody cdv A outer s H vs Q E hcd hcode hr hsp
end
section
variable {X : Cx} {k : Nat} {f C : Addr} {ps : List Str} {sp : Sp} {E : XK} {x m : Str} {p pos apos : Pos} {e o : Expr} {es : List Expr} {ta : TE} {t : TA}
/-- f(e, ..) -/
def tCF (sp : Sp) (E : XK) (t : TA) : TE := fun σ H Q => t σ H fun vs H1 => sp vs H1 Q E
theorem pe_cF (F : Fk X.prog X.w X.K X.mg X.base k f ps sp) (hr : Room k X.A) (hm : X.mg x = some (.ref f)) (hx : Passes (L2.CX X.prog X.w) X E) (ha : PA X (e :: es) t) (hg : Gl X x := by rfl)
    (hdb : (x == ("__debug__" : Str)) = false := by decide)
    (he : starEach (e :: es) X.env = (false, eval e X.env) :: starEach es X.env := by rfl) (hpl : (backTo pos (starEach es X.env)).any (·.1) = false := by rfl) : PE X (.Call (.Name x p) (e :: es) [] pos) (tCF sp E t) := by
  have h := pe_call (p := p) (pos := pos) F.ok hr hg hm F.kp F.b .nil hx ha hdb he hpl
  refine ⟨fun pins s σ H Q I q => h.run pins s σ H Q I ?_⟩
  have e0 : (fun (vs : List V) (H1 : Hp) => sp (vs ++ []) H1 Q E) = fun vs H1 => sp vs H1 Q E := by
    funext vs H1
    rw [List.append_nil]
  show t σ H (fun vs H1 => sp (vs ++ []) H1 Q E)
  rw [e0]
  exact q
/-- o.m(e, ..) -/
def tMF (C : Addr) (m : Str) (sp : Sp) (E : XK) (ta : TE) (t : TA) : TE := fun σ H Q => ta σ H fun x H1 => ∃ a dx fs, x = .ref a ∧ H1 a = some (.ins C dx fs) ∧ fs.lookup m = none ∧ t σ H1 fun vs H2 => sp (x :: vs) H2 Q E
theorem tMF_eq (C : Addr) (m : Str) (sp : Sp) (E : XK) (ta : TE) (t : TA) : tMF C m sp E ta t = tMeth C m sp [] E ta t := by
  unfold tMF tMeth
  funext σ H Q
  simp only [List.append_nil]
theorem pe_mF (pl : Sem Bool) (he : PE X o ta) (c : Cls X.K C) (hm : Meth X.K C m f) (F : Fk X.prog X.w X.K X.mg X.base k f ps sp) (hr : Room k X.A) (hx : Passes (L2.CX X.prog X.w) X E) (ha : PA X (e :: es) t)
    (hst : starEach (e :: es) X.env = (false, eval e X.env) :: starEach es X.env := by rfl) (hpl : (backTo pos (starEach es X.env)).any (·.1) = false := by rfl)
    (ht : eval (.Call (.Attribute o m apos) (e :: es) [] pos) X.env = (do
      let ov ← eval o X.env
      standAt apos.atName
      let (f, first) ← holding [ov] (getMethod ov m pl)
      callWith pos f first (backTo pos (starEach (e :: es) X.env)) (backToKw pos (keywordEach [] X.env))) := by rfl) :
    PE X (.Call (.Attribute o m apos) (e :: es) [] pos) (tMF C m sp E ta t) := by
  rw [tMF_eq]
  exact pe_meth (pl := pl) he c hm F.ok hr F.b .nil hx ha hst hpl ht
theorem pe_mF0 (pl : Sem Bool) (he : PE X o ta) (c : Cls X.K C) (hm : Meth X.K C m f) (F : Fk X.prog X.w X.K X.mg X.base k f ps sp) (hr : Room k X.A) (hx : Passes (L2.CX X.prog X.w) X E)
    (ht : eval (.Call (.Attribute o m apos) [] [] pos) X.env = (do
      let ov ← eval o X.env
      standAt apos.atName
      let (f, first) ← holding [ov] (getMethod ov m pl)
      callWith pos f first (backTo pos (starEach [] X.env)) (backToKw pos (keywordEach [] X.env))) := by rfl) :
    PE X (.Call (.Attribute o m apos) [] [] pos) (tMF C m sp E ta tNil) := by
  rw [tMF_eq]
  exact pe_meth0 (pl := pl) he c hm F.ok hr F.b .nil hx ht
/-- C(e, ..) by what the making comes to -/
theorem pe_kF {spN : Sp} (M : Mk X.K C f) (F : Fk X.prog X.w X.K X.mg X.base k f ps sp) (hr : Room (k + 1) X.A) (hm : X.mg x = some (.ref C)) (hx : Passes (L2.CX X.prog X.w) X E)
    (imp : ∀ vs H Q, spN vs H Q E → ∀ x dx, H x = none → H dx = none → dx ≠ x → sp (.ref x :: vs) (upd (upd H dx (.own x)) x (.ins C dx [])) (fun v H2 => v = .non ∧ Q (.ref x) H2) E)
    (ha : PA X (e :: es) t) (hg : Gl X x := by rfl) (hdb : (x == ("__debug__" : Str)) = false := by decide) (he : starEach (e :: es) X.env = (false, eval e X.env) :: starEach es X.env := by rfl) (hpl : (backTo pos (starEach es X.env)).any (·.1) = false := by rfl) :
    PE X (.Call (.Name x p) (e :: es) [] pos) (tCF spN E t) := by
  refine ⟨fun pins s σ H Q I h => ?_⟩
  refine wpAny_Call_Name_kw (ld_glob I hg hm ?_ hdb)
  refine PySem.W.callWith_K (h₀ := X.base) I.ok.mod.kin M.kp (thn (ha.run pos pins s σ H _ I h) fun us s1 ⟨vs, H1, I1, r, q⟩ => ⟨I1.kIn, ?_⟩) he hpl
  exact run_make M F.ok hr F.b .nil hx I1 r (by
    rw [List.append_nil]
    exact imp vs H1 Q q)
end
section
variable {P : Program} {w : World} {K : PySem.W.Frag} {mg : Str → Option Value} {base : Heap}
/-- what a call lets out, the def lets out -/
theorem px {N : List Str} {d : He.DefD} {cdv : Value} {A : Around} {outer : List Env} {s : Shared} {H : Hp} {E : XK} : Passes (L2.CX P w) (CxD P w K mg base N d cdv A outer s H E) E :=
  passes_call (takes_of (E := E) rfl rfl rfl rfl) fun _ _ _ _ z => z
end
/-! ### tuples: one way out -/
section
variable {X : Cx}
theorem op_catU : OpR X (binaryOp .Add) (fun x y H Q => ∃ a b xs ys, x = .ref a ∧ y = .ref b ∧ SqT X.K H a xs ∧ SqT X.K H b ys ∧ xs.length + ys.length ≤ sizeLine ∧ ∀ q H', Kq [] H H' → SqT X.K H' q (xs ++ ys) → Q (.ref q) H') := by
  intro pins s σ H x y v u Q I rx ry h
  obtain ⟨a, b, xs, ys, e1, e2, ha, hb, hl, k⟩ := h
  refine op_catA pins s σ H x y v u Q I rx ry ⟨a, b, xs, ys, e1, e2, ha, hb, hl, fun e => ?_, fun _ e => ?_, fun _ _ p np => ?_⟩
  · subst e; exact k b H Kq.refl hb
  · subst e; exact k a H Kq.refl (by rw [List.append_nil]; exact ha)
  · exact k p _ (Kq.alloc np) (SqT.of upd_same)
theorem sl_tupU : SlR X (fun x lo hi H Q => ∃ a xs, x = .ref a ∧ SqT X.K H a xs ∧ ∀ q H', Kq [] H H' → SqT X.K H' q (cutV xs lo hi) → Q (.ref q) H') := by
  intro pins s σ H x v vl vu lo hi sl Q I rx hs pl pu h
  obtain ⟨a, xs, e1, ha, k⟩ := h
  refine sl_tupA pins s σ H x v vl vu lo hi sl Q I rx hs pl pu ⟨a, xs, e1, ha, fun e => k a H Kq.refl ?_, fun _ p np => k p _ (Kq.alloc np) (SqT.of upd_same)⟩
  have : cutV xs lo hi = xs := by
    unfold cutV
    rw [e.1, e.2]
    simp
  rw [this]; exact ha
end
/-! ### texts as lists of codes -/
abbrev S (l : Ln) : Str := ⟨l.toArray⟩
theorem S_tl (x : Str) : S (TL.tl x) = x := TL.mk_tl x
theorem S_len (l : Ln) : (S l).length = l.length := by simp [Str.length]
theorem S_inj {a b : Ln} (h : S a = S b) : a = b := by
  have : (S a).cps.toList = (S b).cps.toList := by rw [h]
  simpa using this
theorem S_app (a b : Ln) : S a ++ S b = S (a ++ b) := TL.ext_tl (by rw [TL.tl_append])
end KT
set_option Elab.async false
set_option linter.all false
set_option maxRecDepth 100000
set_option maxHeartbeats 4000000
namespace KT
open PySem PySem.Spec PyProof.Rows L2 GxR
/-! ### sep.join(x for x in text if x not in list) -/
def pickB (ws : List Str) (c : Nat) : Bool := !inV (.str ⟨#[c]⟩) (ws.map V.str)
def picked (a : Str) (ws : List Str) : List Str := (a.cps.toList.filter (pickB ws)).map fun c => ⟨#[c]⟩
def pzL (l : List Nat) (p : Nat → Bool) (i : Nat) : Bool := match l[i]? with
  | some c => p c
  | none => false
theorem filter_range (l : List Nat) (p : Nat → Bool) : l.filter p = ((List.range l.length).filter (pzL l p)).map fun i => l.getD i 0 := by
  have e : l = (List.range l.length).map fun i => l.getD i 0 := by
    refine List.ext_getElem (by simp) fun i h1 h2 => ?_
    rw [List.getElem_map, List.getElem_range, List.getD_eq_getElem?_getD, List.getElem?_eq_getElem h1]; rfl
  have h := List.filter_map (p := p) (f := fun i => l.getD i 0) (l := List.range l.length)
  rw [← e] at h
  rw [h]
  congr 1
  refine List.filter_congr fun i hi => ?_
  have hi := List.mem_range.mp hi
  show p (l.getD i 0) = pzL l p i
  unfold pzL
  rw [List.getD_eq_getElem?_getD, List.getElem?_eq_getElem hi]; rfl
theorem picked_at {a : Str} {ws : List Str} {j i : Nat} (h : ((List.range a.cps.size).filter (pzL a.cps.toList (pickB ws)))[j]? = some i) {cc : Nat} (hc : a.cps[i]? = some cc) : (picked a ws)[j]? = some ⟨#[cc]⟩ := by
  unfold picked
  rw [filter_range]
  have e : a.cps.toList.length = a.cps.size := by simp
  rw [e, List.map_map, List.getElem?_map, h]
  show some (⟨#[a.cps.toList.getD i 0]⟩ : Str) = _
  rw [List.getD_eq_getElem?_getD, Array.getElem?_toList, hc]; rfl
theorem picked_len (a : Str) (ws : List Str) : (picked a ws).length = ((List.range a.cps.size).filter (pzL a.cps.toList (pickB ws))).length := by
  unfold picked
  rw [filter_range]
  simp
section
variable {X : Cx} {pins : List (Addr × Obj)} {σ : L2.St} {H : Hp} {s : Shared}
/-- as GenS; what it captures the def has -/
structure GenC (sc scope : Scope) (x : Str) : Prop where
  kind : scope.kind = .function
  co : scope.isCoroutine = false
  cell : ∀ y ∈ scope.names, y.2 ≠ .cell
  dot : scope.names.lookup (".0" : Str) = some NameKind.local
  loc : scope.names.lookup x = some .local
  free : ∀ y ∈ scope.names, y.2 = .free → sc.names.lookup y.1 = some .cell ∨ sc.names.lookup y.1 = some .free
theorem GenC.toS {scope : Scope} {x : Str} (g : GenC X.env.scope scope x) (I : Inv X pins σ H s) : GxR.GenS X.env scope x :=
  ⟨g.kind, g.co, g.cell, g.dot, g.loc, fun y hy e => by rcases g.free y hy e with k | k <;> exact I.ok.has _ (by first | exact .inl k | exact .inr k)⟩
theorem gen_pick {c P : Addr} {iter : Expr} {x y : Str} {px p0 p1 p2 pc gpos : Pos} {scope : Scope} {te : TE} {k ix : Nat} {Q' : Value → Shared → Prop} {R : Str → List Str → Hp → Prop}
    (hr : Room k X.A) (TB : GxR.TabB X.base X.mg c P) (hcode : X.env.code = .ref c) (S0 : GenC X.env.scope scope x) (hi : PE X iter te)
    (hN : X.N[ix]? = some y) (hyc : X.env.scope.names.lookup y = some .cell) (hyf : scope.names.lookup y = some .free)
    (hs : ∀ v, genFold iter X.env v = pure v) (I : Inv X pins σ H s) (h : te σ H fun v H1 => ∃ (a : Str) (L : Addr) (ws : List Str), v = .str a ∧ σ[ix]? = some (some (.ref L)) ∧ SqL X.K H1 L (ws.map V.str) ∧ GxR.TabG H1 P ∧ R a ws H1)
    (hQ : ∀ a ws H1 g s5, R a ws H1 → J1.ReadyS X pins σ H1 P (picked a ws) id g s5 → Q' (.ref g) s5)
    (hxd : (x == ("__debug__" : Str)) = false := by decide) (hyd : (y == ("__debug__" : Str)) = false := by decide) (hyk : (y == ("__classdict__" : Str)) = false := by decide) :
    wpAny (model X.prog X.w) X.A (eval (.GeneratorExp (.Name x p0) [⟨.Name x px, iter, [.Compare (.Name x p1) [.NotIn] [.Name y p2] pc], 0⟩] scope gpos) X.env) Q' X.xe s := by
  have S := S0.toS I
  refine wpAny_GeneratorExp_walksQ hr.hd S.co (closure_ok S.free) S.cell S.dot S.loc S.kind (by have := hr.dp; omega) ?_ hs
  refine thn (hi.run pins s σ H _ I h) fun xv s1 ⟨v, H1, I1, r1, q1⟩ => ?_
  obtain ⟨a, L, ws, rfl, hσ, hL, ⟨ps, hP, ht⟩, q1⟩ := q1
  obtain ⟨t, rfl⟩ := _root_.id r1
  -- the list, and its cell
  obtain ⟨its, rv, hLl, hz⟩ := I1.list hL
  have hIL := hLl.isList
  obtain ⟨m1, hn1, hl1⟩ := I1.loc
  obtain ⟨u1, ru1, how⟩ := hl1 ix y (.ref L) hN hσ (.inr (.inl hyc))
  obtain rfl : u1 = Value.ref L := ru1
  have hcl : ∃ cy, X.env.cells.lookup y = some cy ∧ s1.heap.IsCell cy (some (.ref L)) := by
    rcases how with ⟨b, _⟩ | ⟨_, c3, e5, isC⟩
    · rw [show X.env.scope.names.lookup y = _ from b] at hyc; cases hyc
    · exact ⟨c3, e5, isC⟩
  obtain ⟨cy, hcy, oc, hoc, hocd⟩ := hcl
  have hclo : (cloFrom X.env.cells scope.names []).lookup y = some cy := by
    obtain ⟨c0, e0⟩ : ∃ c, (cloFrom X.env.cells scope.names []).lookup y = some c := mem_lookup (cloFrom_has (cells := X.env.cells) (acc := []) (PySem.mem_of_lookup hyf))
    rcases cloFrom_mem (PySem.mem_of_lookup e0) with inNil | ⟨isFree, same⟩
    · exact nomatch inNil
    · obtain ⟨c1, e1⟩ := S.free _ isFree rfl
      have e2 : X.env.cells.lookup y = some c1 := e1
      have : c0 = c1 := by rw [same, e2] <;> rfl
      rw [e0, this]
      rw [hcy] at e2
      exact e2.symm
  refine wpAny_pyIter_str fun o St W hst => ?_
  have hPs : s1.heap.get? P = some { cls := .none, data := .fields ps } := I1.hok P _ hP
  have hPlt : P < s1.heap.objs.size := Heap.lt_size hPs
  have hP2 : (s1.heap.push o).get? P = some { cls := .none, data := .fields ps } := Heap.get?_push_of_some _ hPs
  have cd : PySem.W.CodeHd (s1.heap.push o) c P := TB.code.keeps fun b u e => Heap.get?_push_of_some _ (I1.bk b u e)
  have lim2 : (s1.heap.push o).NoLimit := I1.nolimit.push o
  have cont : ∀ (code : Value) (h3 : Heap) (tk : Nat) (ps' : Array Value), Heap.ExtBut P (s1.heap.push o) h3 → (s1.heap.push o).objs.size ≤ h3.objs.size → h3.get? P = some { cls := .none, data := .fields ps' } → (∃ more, ps' = ps ++ more) → TriplesOk ps'.toList →
      wpAny (model X.prog X.w) X.A (builtinsFor X.env.globals X.env.builtins) (fun bi s₄ =>
        ∃ Ia fp wr n₀ Pf St₀ pz F, Value.ref s1.heap.objs.size = .ref Ia ∧ (∀ A' : Around, A'.handled = none → Walks X.prog X.w A' Ia fp wr n₀ Pf St₀) ∧ St₀ 0 s₄.heap ∧ (∀ b ∈ fp, b < s₄.heap.objs.size) ∧ s₄.heap.NoLimit ∧ cStatics ∉ wr ∧
          (∀ href : Heap, (∀ b o, s₄.heap.get? b = some o → href.get? b = some o) →
            QuietGen X.prog X.w (genEnv scope (cloFrom X.env.cells scope.names []) s₄.heap.objs.size code bi X.env) x [.Compare (.Name x p1) [.NotIn] [.Name y p2] pc] (.Name x p0) (List.range s₄.heap.objs.size) wr Pf pz F href) ∧
          (∀ a h₅ tk gs, gs.bare = true → s₄.heap.objs.size < a → h₅.objs.size = a + 1 → (∀ b o, s₄.heap.get? b = some o → h₅.get? b = some o) →
            WalksS X.prog X.w X.A.in4 a (a :: s₄.heap.objs.size :: List.range s₄.heap.objs.size) (s₄.heap.objs.size :: wr) (GenOnlyQ s₄.gens.size) (passing pz n₀ 0).length
              (fun j y => ∃ i, (passing pz n₀ 0)[j]? = some i ∧ F i y) (GenAt X.prog X.w X.A.in4 a s₄.gens.size s₄.heap.objs.size (List.range s₄.heap.objs.size) wr pz n₀ F) →
            GenAt X.prog X.w X.A.in4 a s₄.gens.size s₄.heap.objs.size (List.range s₄.heap.objs.size) wr pz n₀ F 0 { s₄ with gens := s₄.gens.push gs, toks := tk, heap := h₅ } →
            Q' (.ref a) { s₄ with gens := s₄.gens.push gs, toks := tk, heap := h₅ })) X.xe { s1 with heap := h3, toks := tk } := by
    intro code h3 tk ps' hx hsz hP3 hmore ht3
    obtain ⟨bm, ob, e1, e2, e3, e4, e5, e6, e7, e8⟩ := TB.bm
    have hcP : cStatics ≠ P := fun e => by
      obtain ⟨_, hns, _⟩ := I1.nolimit
      obtain ⟨o', es, ep, ho, hd, _⟩ := hns
      rw [e, hPs] at ho
      cases ho
      cases hd
    have hcl : cStatics < s1.heap.objs.size := let ⟨_, hns, _⟩ := I1.nolimit; hns.lt
    have sz2 : (s1.heap.push o).objs.size = s1.heap.objs.size + 1 := Heap.size_push ..
    have keep3 : ∀ b u, b ≠ P → s1.heap.get? b = some u → h3.get? b = some u := fun b u hb e => hx b u hb (Heap.get?_push_of_some _ e)
    refine wpAny_builtinsFor (m := X.mg) (by rw [I1.ok.glob]; exact ((I1.mod.glob.keeps I1.bk).push o).extBut hx TB.gP) e1 e2 (keep3 _ _ e4 (I1.bk _ _ e5)) e6 e7 e8 ?_
    have hLP : L ≠ P := fun z => by
      obtain ⟨_, e, hc1, _, hd1⟩ := _root_.id hIL
      rw [z, hPs] at e
      cases e
      cases hd1
    have hcyP : cy ≠ P := fun z => by
      rw [z, hPs] at hoc
      cases hoc
      cases hocd
    have hLlt : L < s1.heap.objs.size := by
      obtain ⟨_, e, _⟩ := _root_.id hIL
      exact Heap.lt_size e
    have hclt : cy < s1.heap.objs.size := Heap.lt_size hoc
    have h3sz : s1.heap.objs.size < h3.objs.size := by omega
    refine ⟨s1.heap.objs.size, [s1.heap.objs.size], [s1.heap.objs.size], a.cps.size, SignAt a, St, pzL a.cps.toList (pickB ws), (fun i y => ∃ cc tt, a.cps[i]? = some cc ∧ y = .str ⟨#[cc]⟩ tt), rfl, W, ?_, ?_, lim2.extBut hx hcP, ?_, ?_, ?_⟩
    · refine (W X.A hr.hd).frame _ _ _ hst fun b hb u e => hx b u (fun z => ?_) e
      rcases List.mem_cons.mp hb with z2 | z2
      · exact Nat.ne_of_lt hPlt (z.symm.trans z2)
      · cases z2
    · intro b hb
      rcases List.mem_cons.mp hb with z | z
      · rw [z]
        show s1.heap.objs.size < h3.objs.size
        omega
      · cases z
    · intro z
      rcases List.mem_cons.mp z with z | z
      · exact Nat.ne_of_lt hcl z
      · cases z
    · intro href hhref
      have there : ∀ {b : Addr} {u : Obj} {s₂ : Shared}, (∀ b ∈ List.range h3.objs.size, b ∉ [s1.heap.objs.size] → ∀ o, href.get? b = some o → s₂.heap.get? b = some o) → b ≠ P → s1.heap.get? b = some u → s₂.heap.get? b = some u := fun {b u s₂} hk hb e => by
        have hlt := Heap.lt_size e
        refine hk b (List.mem_range.mpr (Nat.lt_trans hlt h3sz)) (fun z => ?_) u (hhref b u (keep3 b u hb e))
        rw [List.mem_singleton.mp z] at hlt
        exact Nat.lt_irrefl _ hlt
      refine ⟨fun A' E' i v s₂ m₂ hA hPv hn hm hk => ?_, fun A' E' i v s₂ m₂ hA hPv hp hn hm hk => ?_⟩
      · obtain ⟨cc, u, hcc, rfl⟩ := hPv
        have hIL2 : s₂.heap.IsList L its.toArray := by
          obtain ⟨ob, e, r⟩ := _root_.id hIL
          exact ⟨ob, there hk hLP e, r⟩
        have hcell2 : s₂.heap.IsCell cy (some (.ref L)) := ⟨oc, there hk hcyP hoc, hocd⟩
        have hpz : pzL a.cps.toList (pickB ws) i = !its.toArray.any (eqU (.str ⟨#[cc]⟩)) := by
          unfold pzL
          rw [Array.getElem?_toList, hcc]
          show (!inV (.str ⟨#[cc]⟩) (ws.map V.str)) = _
          have fs : (ws.map V.str).all flatV = true := by rw [List.all_eq_true]; intro z hz; obtain ⟨q, _, rfl⟩ := List.mem_map.mp hz; rfl
          rw [show its.toArray.any (eqU (.str ⟨#[cc]⟩)) = its.any (eqU (.str ⟨#[cc]⟩)) by simp, any_eqU rv fs]; rfl
        have fs : (ws.map V.str).all flatV = true := by rw [List.all_eq_true]; intro z hz; obtain ⟨q, _, rfl⟩ := List.mem_map.mp hz; rfl
        simp only [List.forIn_cons, List.forIn_nil, if_true]
        refine wpAny_bind (wpAny_bind (wpAny_isTrue_Compare1 ?_))
        refine wpAny_Name (wpAny_loadName_local S.kind S.loc hn hm ?_) hxd
        refine wpAny_Name (wpAny_loadName_free S.kind hyf hclo hcell2 ?_ hyk) hyd
        refine SeqAt.notIn_listAt (eqU (.str ⟨#[cc]⟩)) hIL2 (fun w hw => mem_eqAt (x := .str ⟨#[cc]⟩) ⟨u, rfl⟩ rfl rv fs w (by simpa using hw)) ?_
        refine wpAny_truthy_bool (wpAny_pure (wpAny_pure ⟨hpz.symm, keeps_refl _⟩))
      · obtain ⟨cc, u, hcc, rfl⟩ := hPv
        exact wpAny_Name (wpAny_loadName_local S.kind S.loc hn hm ⟨⟨cc, u, hcc, rfl⟩, keeps_refl _⟩) hxd
    · intro g h5 tk5 gs hgb hag hsz5 hk5 W5 hgat
      have e0 : (passing (pzL a.cps.toList (pickB ws)) a.cps.size 0) = (List.range a.cps.size).filter (pzL a.cps.toList (pickB ws)) := by unfold passing; rw [List.drop_zero]
      rw [e0] at W5
      rw [← picked_len] at W5
      refine hQ a ws H1 g _ q1 ⟨_, _, _, _, _, W5.in4_2, hgat, ?_, List.mem_cons_self, fun i s9 h9 => ?_, ?_, fun s' hm => ?_⟩
      · intro b hb
        show b < h5.objs.size
        have e5 : h5.objs.size = g + 1 := hsz5
        have h8 : h3.objs.size < g := hag
        rw [e5]
        rcases List.mem_cons.mp hb with z | z
        · rw [z]
          exact Nat.lt_succ_self g
        · rcases List.mem_cons.mp z with z | z
          · rw [z]
            exact Nat.lt_succ_of_lt h8
          · have z2 := List.mem_range.mp z
            have h7 : b < h3.objs.size := z2
            exact Nat.lt_succ_of_lt (Nat.lt_trans h7 h8)
      · obtain ⟨hg9, _⟩ := h9
        exact hg9.typeIs
      · intro j v hv
        obtain ⟨i, hij, cc, tt, hcc, e⟩ := hv
        exact ⟨⟨#[cc]⟩, tt, picked_at hij hcc, e⟩
      · obtain ⟨more, em⟩ := hmore
        have nwr : ∀ b u, s1.heap.get? b = some u → b ∉ h3.objs.size :: [s1.heap.objs.size] := fun b u e hb => by
          have hl := Heap.lt_size e
          rcases List.mem_cons.mp hb with z | z
          · rw [z] at hl
            have h9 : (h3.objs.size : Nat) < s1.heap.objs.size := hl
            omega
          · rcases List.mem_cons.mp z with z | z
            · rw [z] at hl
              exact Nat.lt_irrefl _ hl
            · cases z
        have J := GxR.inv_tab (more := more) (h' := s'.heap) (g' := s'.gens) (d' := s'.drawn) (t' := s'.toks) I1 hP (fun b u hb e => hm.heap b u (nwr b u e) (hk5 b u (keep3 b u hb e)))
          (by rw [← em]; exact hm.heap P _ (nwr P _ hPs) (hk5 P _ hP3)) (AllBare.movedS (I1.bare.push hgb) hm)
        rw [GxR.sh_eta s1 s' hm.os] at J
        refine ⟨upd H1 P (.tbl (ps ++ more)), ⟨⟨ps ++ more, upd_same, by rw [← em]; exact ht3⟩, fun b hb => upd_ne hb⟩, J⟩
  refine ⟨lim2, ?_⟩
  cases hf : codeAmong gpos ps.toList with
  | none =>
    refine wpAny_genexprCodeX hcode (cd.code hP2 ht) (cd.tab hP2) hf fun c' h' tk hx hge hlt hco' _ htab' _ => ?_
    obtain ⟨o1, vs, f1, tf, fl, tg, inF, tx, tt, op, _, _, _, _, _, _, _, _, _, htr, _⟩ := hco'
    exact cont _ h' tk _ hx (Nat.le_trans hge (Nat.le_of_lt hlt)) htab'.2 ⟨_, rfl⟩ htr
  | some cv =>
    refine wpAny_genexprCode_hit hcode (cd.code hP2 ht) hf ?_
    exact cont cv (s1.heap.push o) s1.toks ps (Heap.ExtBut.refl _ _) (Nat.le_refl _) hP2 ⟨#[], by simp⟩ ht
def tJoinP (K : PySem.W.Frag) (P : Addr) (ix : Nat) (to te : TE) : TE := fun σ H Q => to σ H fun v H1 => ∃ sep : Str, v = .str sep ∧ te σ H1 fun u H2 => ∃ (a : Str) (L : Addr) (ws : List Str), u = .str a ∧ σ[ix]? = some (some (.ref L)) ∧ SqL K H2 L (ws.map V.str) ∧ GxR.TabG H2 P ∧
  JoinOk sep (picked a ws) = true ∧ (picked a ws).length ≤ sizeLine ∧ ∀ H3, GxR.Tabbed P H2 H3 → Q (.str (Txt.join sep (picked a ws))) H3
theorem pe_joinP {c P : Addr} {o iter : Expr} {x y : Str} {px p0 p1 p2 pc apos cpos gpos : Pos} {scope : Scope} {to te : TE} {k ix : Nat}
    (hr : Room k X.A) (TB : GxR.TabB X.base X.mg c P) (hcode : X.env.code = .ref c) (S0 : GenC X.env.scope scope x) (ho : PE X o to) (hi : PE X iter te)
    (hN : X.N[ix]? = some y) (hyc : X.env.scope.names.lookup y = some .cell) (hyf : scope.names.lookup y = some .free)
    (hs : ∀ v, genFold iter X.env v = pure v)
    (hxd : (x == ("__debug__" : Str)) = false := by decide) (hyd : (y == ("__debug__" : Str)) = false := by decide) (hyk : (y == ("__classdict__" : Str)) = false := by decide)
    (hbase : attributeBase o "join" X.env (eval o X.env) = eval o X.env := by rfl)
    (hfew : ((backTo cpos (starEach [.GeneratorExp (.Name x p0) [⟨.Name x px, iter, [.Compare (.Name x p1) [.NotIn] [.Name y p2] pc], 0⟩] scope gpos] X.env)).all (fun x => !x.1) && (backToKw cpos (keywordEach [] X.env)).all (fun x => x.1.isSome)
      && decide (([.GeneratorExp (.Name x p0) [⟨.Name x px, iter, [.Compare (.Name x p1) [.NotIn] [.Name y p2] pc], 0⟩] scope gpos] : List Expr).length + ([] : List Keyword).length + (if ([] : List Keyword).isEmpty then 0 else 1) < 30)) = true := by rfl)
    (hline : (apos.endLine == cpos.line) = true := by rfl)
    (he : starEach [.GeneratorExp (.Name x p0) [⟨.Name x px, iter, [.Compare (.Name x p1) [.NotIn] [.Name y p2] pc], 0⟩] scope gpos] X.env = (false, eval (.GeneratorExp (.Name x p0) [⟨.Name x px, iter, [.Compare (.Name x p1) [.NotIn] [.Name y p2] pc], 0⟩] scope gpos) X.env) :: starEach [] X.env := by rfl)
    (hplain : (backTo cpos (starEach [] X.env)).any (·.1) = false := by rfl) :
    PE X (.Call (.Attribute o "join" apos) [.GeneratorExp (.Name x p0) [⟨.Name x px, iter, [.Compare (.Name x p1) [.NotIn] [.Name y p2] pc], 0⟩] scope gpos] [] cpos) (tJoinP X.K P ix to te) := by
  refine ⟨fun pins s σ H Q I h => ?_⟩
  refine wpAny_Call_method_late hbase hfew hline rfl (thn (ho.run pins s σ H _ I h) fun v s1 ⟨x', H1, I1, r1, sep, ex, q1⟩ => ?_)
  subst ex
  obtain ⟨tk, rfl⟩ := (show ∃ t, v = Value.str sep t from r1)
  refine ⟨"str", _, PySem.F.plainAttrs_str, PySem.F.slot_str_join, PySem.F.type_str_join, typeIs_str _ _ _, (fun _ e => nomatch e), ?_⟩
  rw [he]
  refine Calls.callWith_builtin (by show (false || (backTo cpos (starEach [] X.env)).any (·.1)) = false; rw [hplain] <;> rfl) (Calls.evalArgs_plain ?_)
  show wpAny _ _ (spliced ((false, eval (.GeneratorExp (.Name x p0) [⟨.Name x px, iter, [.Compare (.Name x p1) [.NotIn] [.Name y p2] pc], 0⟩] scope gpos) X.env) :: backTo cpos (starEach [] X.env))) _ _ s1
  refine Calls.spliced_cons (gen_pick (R := fun a ws H2 => JoinOk sep (picked a ws) = true ∧ (picked a ws).length ≤ sizeLine ∧ ∀ H3, GxR.Tabbed P H2 H3 → Q (.str (Txt.join sep (picked a ws))) H3) hr TB hcode S0 hi hN hyc hyf hs I1 q1 (fun a ws H2 g s5 hR hG => ?_) hxd hyd hyk)
  refine Calls.spliced_nil ?_
  obtain ⟨fp, wr, G, F, St, W, hst, hfp, hg, hT, hstr, hinv⟩ := hG
  obtain ⟨jok, jl, jq⟩ := hR
  refine PySem.SC.joinGen W hT hst hfp hg (fun i v hv => ?_) (fun s' l hm hio => ?_) jl
  · obtain ⟨a, t, _, e⟩ := hstr i v hv
    exact ⟨_, _, e⟩
  · have hl0 : l.length = (picked a ws).length := by
      have e0 := hio.1
      rw [List.size_toArray] at e0
      unfold strValues at e0
      rw [List.length_map] at e0
      exact e0
    have e : l.map (·.1) = picked a ws := by
      refine List.ext_getElem? fun j => ?_
      rw [List.getElem?_map]
      cases hj : l[j]? with
      | none =>
        have h1 : (picked a ws)[j]? = none := by
          rw [List.getElem?_eq_none_iff] at hj ⊢
          omega
        rw [h1] <;> rfl
      | some p =>
        have h2 : (strValues l).toArray[j]? = some (.str p.1 p.2) := by
          show (strValues l).toArray[j]? = _
          rw [List.getElem?_toArray]
          unfold strValues
          rw [List.getElem?_map, hj] <;> rfl
        obtain ⟨b, t, hb, ev⟩ := hstr j _ (hio.2 j _ h2)
        have e1 : p.1 = b := by
          injection ev
        rw [hb]
        show some p.1 = some b
        rw [e1]
    obtain ⟨H3, ht, J⟩ := hinv s' hm
    rw [e]
    exact ⟨jok, fun t' k' => ⟨.str _, H3, J.tok k', ⟨t', rfl⟩, jq H3 ht⟩⟩
end
end KT
set_option linter.all false
namespace KT
theorem others_len (g : Pg) {f n : Nat} {ls : List Ln} (h : f ≤ g.rows.length) : (g.others f n ls).length = f + ls.length + (g.rows.length - (f + n)) := by
  unfold Pg.others
  rw [List.length_append, List.length_append, List.length_take, List.length_drop]
  omega
theorem others_mem (g : Pg) {f n : Nat} {ls : List Ln} {l : Ln} (h : l ∈ g.others f n ls) : l ∈ g.rows ∨ l ∈ ls := by
  unfold Pg.others at h
  rcases List.mem_append.mp h with h | h
  · rcases List.mem_append.mp h with h | h
    · exact .inl (List.mem_of_mem_take h)
    · exact .inr h
  · exact .inl (List.mem_of_mem_drop h)
theorem others_get (g : Pg) {f n i : Nat} {ls : List Ln} (h : f ≤ g.rows.length) (hi : i < ls.length) : (g.others f n ls).getD (f + i) [] = ls.getD i [] := by
  unfold Pg.others
  have h1 : (g.rows.take f).length = f := by rw [List.length_take]; omega
  rw [List.getD_eq_getElem?_getD, List.getD_eq_getElem?_getD, List.getElem?_append_left (by rw [List.length_append]; omega), List.getElem?_append_right (by omega), h1]
  congr 2
  omega
theorem Pg.Ok.line_le {g : Pg} (ok : g.Ok) : g.line.length ≤ 60 := by
  unfold Pg.line
  rw [List.getD_eq_getElem?_getD, List.getElem?_eq_getElem ok.row]
  exact ok.long _ (List.getElem_mem _)
theorem Pg.Ok.row_le {g : Pg} (ok : g.Ok) {i : Nat} (h : i < g.rows.length) : (g.rows.getD i []).length ≤ 60 := by
  rw [List.getD_eq_getElem?_getD, List.getElem?_eq_getElem h]
  exact ok.long _ (List.getElem_mem _)
/-- one row changed -/
theorem Pg.Ok.line_sig {g : Pg} (ok : g.Ok) : ∀ c ∈ g.line, okSign c := by
  unfold Pg.line
  rw [List.getD_eq_getElem?_getD, List.getElem?_eq_getElem ok.row]
  exact ok.sig _ (List.getElem_mem _)
theorem Pg.Ok.row_sig {g : Pg} (ok : g.Ok) {i : Nat} (h : i < g.rows.length) : ∀ c ∈ g.rows.getD i [], okSign c := by
  rw [List.getD_eq_getElem?_getD, List.getElem?_eq_getElem h]
  exact ok.sig _ (List.getElem_mem _)
theorem ok_one {g : Pg} (ok : g.Ok) {l cl : Ln} {c : Nat} (h : l.length ≤ 60) (hc : c ≤ l.length) (hcl : cl.length ≤ 60) (hs : ∀ c ∈ l, okSign c) (hcs : ∀ c ∈ cl, okSign c) : Pg.Ok { rows := g.others g.row 1 [l], row := g.row, col := c, clip := cl } := by
  have hr := ok.row
  have hl := others_len g (n := 1) (ls := [l]) (Nat.le_of_lt hr)
  have hm := ok.many
  have e : (g.others g.row 1 [l]).length = g.rows.length := by rw [hl]; simp; omega
  refine ⟨by show (g.others g.row 1 [l]).length ≤ 12; omega, fun m hm => ?_, by show g.row < (g.others g.row 1 [l]).length; omega, ?_, hcl, fun m hm => ?_, hcs⟩
  · rcases others_mem g hm with h1 | h1
    · exact ok.long m h1
    · rw [List.mem_singleton.mp h1]; exact h
  · show c ≤ ((g.others g.row 1 [l]).getD g.row []).length
    have := others_get g (n := 1) (i := 0) (ls := [l]) (Nat.le_of_lt hr) (by simp)
    rw [Nat.add_zero] at this
    rw [this]
    exact hc
  · rcases others_mem g hm with h1 | h1
    · exact ok.sig m h1
    · rw [List.mem_singleton.mp h1]; exact hs
theorem at_ok {g : Pg} (ok : g.Ok) {r c : Nat} (h : r < g.rows.length) (hc : c ≤ (g.rows.getD r []).length) : (g.at_ r c).Ok := ⟨ok.many, ok.long, h, hc, ok.clip, ok.sig, ok.csig⟩
theorem sig_app {a b : Ln} (h : ∀ c ∈ a, okSign c) (h' : ∀ c ∈ b, okSign c) : ∀ c ∈ a ++ b, okSign c := fun c hc => (List.mem_append.mp hc).elim (h c) (h' c)
theorem sig_take {a : Ln} {n : Nat} (h : ∀ c ∈ a, okSign c) : ∀ c ∈ a.take n, okSign c := fun c hc => h c (List.mem_of_mem_take hc)
theorem sig_drop {a : Ln} {n : Nat} (h : ∀ c ∈ a, okSign c) : ∀ c ∈ a.drop n, okSign c := fun c hc => h c (List.mem_of_mem_drop hc)
theorem write_ok {g g' : Pg} {s : Ln} (ok : g.Ok) (hs : ∀ c ∈ s, okSign c) (h : g.write s = some g') : g'.Ok := by
  unfold Pg.write at h
  split at h
  · cases h
  · rename_i hn
    cases h
    have hc := ok.col
    refine ok_one ok ?_ ?_ ok.clip (sig_app (sig_app (sig_take ok.line_sig) hs) (sig_drop ok.line_sig)) ok.csig
    · simp only [List.length_append, List.length_take, List.length_drop]; omega
    · simp only [List.length_append, List.length_take, List.length_drop]; omega
theorem brk_ok {g g' : Pg} (ok : g.Ok) (h : g.brk = some g') : g'.Ok := by
  unfold Pg.brk at h
  split at h
  · cases h
  · rename_i hn
    cases h
    have hr := ok.row
    have h60 := ok.line_le
    have hl := others_len g (n := 1) (ls := [g.line.take g.col, g.line.drop g.col]) (Nat.le_of_lt hr)
    have e : (g.others g.row 1 [g.line.take g.col, g.line.drop g.col]).length = g.rows.length + 1 := by rw [hl]; simp; omega
    refine ⟨by show (g.others g.row 1 _).length ≤ 12; omega, fun m hm => ?_, by show g.row + 1 < (g.others g.row 1 _).length; omega, Nat.zero_le _, ok.clip, fun m hm => ?_, ok.csig⟩
    · rcases others_mem g hm with h1 | h1
      · exact ok.long m h1
      · simp only [List.mem_cons, List.not_mem_nil, or_false] at h1
        rcases h1 with rfl | rfl
        · rw [List.length_take]; omega
        · rw [List.length_drop]; omega
    · rcases others_mem g hm with h1 | h1
      · exact ok.sig m h1
      · simp only [List.mem_cons, List.not_mem_nil, or_false] at h1
        rcases h1 with rfl | rfl
        · exact sig_take ok.line_sig
        · exact sig_drop ok.line_sig
theorem join_ok {g g' : Pg} (ok : g.Ok) (h : g.join = some g') : g'.Ok := by
  unfold Pg.join at h
  split at h
  · cases h
  · rename_i h0
    split at h
    · cases h
    · rename_i hn
      cases h
      have hr := ok.row
      have hm := ok.many
      have hl := others_len g (f := g.row - 1) (n := 2) (ls := [g.rows.getD (g.row - 1) [] ++ g.line]) (by omega)
      have e : (g.others (g.row - 1) 2 [g.rows.getD (g.row - 1) [] ++ g.line]).length = g.rows.length - 1 := by rw [hl]; simp; omega
      refine ⟨by show (g.others (g.row - 1) 2 _).length ≤ 12; omega, fun m hm => ?_, by show g.row - 1 < (g.others (g.row - 1) 2 _).length; omega, ?_, ok.clip, fun m hm => ?_, ok.csig⟩
      · rcases others_mem g hm with h1 | h1
        · exact ok.long m h1
        · rw [List.mem_singleton.mp h1]; omega
      rotate_left
      · rcases others_mem g hm with h1 | h1
        · exact ok.sig m h1
        · rw [List.mem_singleton.mp h1]; exact sig_app (ok.row_sig (by omega)) ok.line_sig
      · show (g.rows.getD (g.row - 1) []).length ≤ ((g.others (g.row - 1) 2 [g.rows.getD (g.row - 1) [] ++ g.line]).getD (g.row - 1) []).length
        have := others_get g (f := g.row - 1) (n := 2) (i := 0) (ls := [g.rows.getD (g.row - 1) [] ++ g.line]) (by omega) (by simp)
        rw [Nat.add_zero] at this
        rw [this]
        simp
theorem toRow_ok {g g' : Pg} {i : Int} (ok : g.Ok) (h : g.toRow i = some g') : g'.Ok := by
  unfold Pg.toRow at h
  split at h
  · cases h
  · rename_i hn
    cases h
    refine at_ok ok (by omega) ?_
    omega
theorem seek_ok {w : Ln} : ∀ {ls : List Ln} {k c r j : Nat}, seek w ls k c = some (r, j) → k ≤ r ∧ r < k + ls.length ∧ j ≤ (ls.getD (r - k) []).length
  | [], _, _, _, _, h => by cases h
  | l :: rest, k, c, r, j, h => by
    unfold seek at h
    cases hf : findL w l c with
    | some q =>
      rw [hf] at h
      cases h
      have : stands w l j = true := by
        have hs : ∀ (n c : Nat), firstAt w l c n = some j → stands w l j = true := by
          intro n
          induction n with
          | zero => intro c h; cases h
          | succ n ih =>
            intro c h
            unfold firstAt at h
            split at h
            · cases h; assumption
            · exact ih _ h
        exact hs _ _ hf
      refine ⟨Nat.le_refl _, by simp, ?_⟩
      rw [Nat.sub_self]
      unfold stands at this
      simp only [Bool.and_eq_true, decide_eq_true_eq] at this
      show j ≤ l.length
      omega
    | none =>
      rw [hf] at h
      obtain ⟨h1, h2, h3⟩ := seek_ok h
      refine ⟨by omega, by simp only [List.length_cons]; omega, ?_⟩
      rw [show r - k = (r - (k + 1)) + 1 by omega]
      exact h3
theorem lets_le (l : Ln) : lets l ≤ l.length := by
  unfold lets
  exact (List.takeWhile_sublist isLet).length_le
theorem does_ok {g g' : Pg} {k : Ky} (ok : g.Ok) (kok : k.Ok) (h : g.does k = some g') : g'.Ok := by
  have hr := ok.row
  have hc := ok.col
  have h60 := ok.line_le
  cases k with
  | put s => exact write_ok ok kok.2 h
  | find w =>
    have h : (seek w (g.rows.drop g.row) g.row (g.col + 1)).map (fun p => g.at_ p.1 p.2) = some g' := h
    cases hs : seek w (g.rows.drop g.row) g.row (g.col + 1) with
    | none => rw [hs] at h; cases h
    | some p =>
      rw [hs] at h
      cases h
      obtain ⟨h1, h2, h3⟩ := seek_ok (r := p.1) (j := p.2) hs
      rw [List.length_drop] at h2
      refine at_ok ok (by omega) ?_
      rw [List.getD_eq_getElem?_getD, List.getElem?_drop, show g.row + (p.1 - g.row) = p.1 by omega, ← List.getD_eq_getElem?_getD] at h3
      exact h3
  | brk => exact brk_ok ok h
  | rub =>
    have h : g.rub = some g' := h
    unfold Pg.rub at h
    split at h
    · exact join_ok ok h
    · cases h
      refine ok_one ok ?_ ?_ ok.clip (sig_app (sig_take ok.line_sig) (sig_drop ok.line_sig)) ok.csig
      · simp only [List.length_append, List.length_take, List.length_drop]; omega
      · simp only [List.length_append, List.length_take, List.length_drop]; omega
  | left =>
    have h : g.left = some g' := h
    unfold Pg.left at h
    split at h
    · cases h; exact at_ok ok hr (by show g.col - 1 ≤ g.line.length; omega)
    · split at h
      · cases h
      · cases h; exact at_ok ok (by omega) (Nat.le_refl _)
  | right =>
    have h : g.right = some g' := h
    unfold Pg.right at h
    split at h
    · cases h; exact at_ok ok hr (by show g.col + 1 ≤ g.line.length; omega)
    · split at h
      · cases h
      · cases h; exact at_ok ok (by omega) (Nat.zero_le _)
  | up => exact toRow_ok ok h
  | down => exact toRow_ok ok h
  | home => cases h; exact at_ok ok hr (Nat.zero_le _)
  | end_ => cases h; exact at_ok ok hr (Nat.le_refl _)
  | take =>
    have h : g.take = some g' := h
    unfold Pg.take at h
    have hlt := lets_le (g.line.drop g.col)
    rw [List.length_drop] at hlt
    simp only at h
    split at h
    · cases h
    · cases h
      refine ok_one ok ?_ ?_ ?_ (sig_app (sig_take ok.line_sig) (sig_drop ok.line_sig)) (sig_take (sig_drop ok.line_sig))
      · simp only [List.length_append, List.length_take, List.length_drop]; omega
      · simp only [List.length_append, List.length_take, List.length_drop]; omega
      · simp only [List.length_take, List.length_drop]; omega
  | lay =>
    have h : g.lay = some g' := h
    unfold Pg.lay at h
    split at h
    · cases h
    · exact write_ok ok ok.csig h
  | play _ _ => cases h
  | till _ => cases h
/-! ### playing counts -/
theorem addT_some {st st' : PSt} (h : addT st = some st') : st'.page = st.page ∧ st'.typed = st.typed ∧ st'.things = st.things + 1 ∧ st.things < 400 := by
  unfold addT at h
  split at h
  · cases h; exact ⟨rfl, rfl, rfl, by assumption⟩
  · cases h
theorem addT_none {st : PSt} (h : addT st = none) : 400 ≤ st.things := by
  unfold addT at h
  split at h
  · cases h
  · omega
theorem keysR_mono {f : Ky → PSt → Res} (hf : ∀ k st b st', f k st = .fin b st' → st.things ≤ st'.things) : ∀ (ks : List Ky) (st : PSt) (b : Bool) (st' : PSt), keysR f ks st = .fin b st' → st.things ≤ st'.things
  | [], st, b, st', h => by cases h; exact Nat.le_refl _
  | k :: ks, st, b, st', h => by
    unfold keysR at h
    cases hk : f k st with
    | long => rw [hk] at h; cases h
    | fin c s1 =>
      have h1 := hf _ _ _ _ hk
      rw [hk] at h
      cases c with
      | true => exact Nat.le_trans h1 (keysR_mono hf ks s1 b st' h)
      | false => cases h; exact h1
theorem once_mono {f : Ky → PSt → Res} (hf : ∀ k st b st', f k st = .fin b st' → st.things ≤ st'.things) {ks : List Ky} {st : PSt} {b : Bool} {st' : PSt} (h : once f ks st = .fin b st') : st.things + 1 ≤ st'.things := by
  unfold once at h
  cases ha : addT st with
  | none => rw [ha] at h; cases h
  | some s1 =>
    rw [ha] at h
    have := (addT_some ha).2.2.1
    have := keysR_mono hf ks s1 b st' h
    omega
theorem timesR_mono {g : PSt → Res} (hg : ∀ st b st', g st = .fin b st' → st.things ≤ st'.things) : ∀ (m : Nat) (st : PSt) (b : Bool) (st' : PSt), timesR g m st = .fin b st' → st.things ≤ st'.things
  | 0, st, b, st', h => by cases h; exact Nat.le_refl _
  | m + 1, st, b, st', h => by
    unfold timesR at h
    cases hk : g st with
    | long => rw [hk] at h; cases h
    | fin c s1 =>
      have h1 := hg _ _ _ hk
      rw [hk] at h
      cases c with
      | true => exact Nat.le_trans h1 (timesR_mono hg m s1 b st' h)
      | false => cases h; exact h1
theorem tillR_mono {g : PSt → Res} (hg : ∀ st b st', g st = .fin b st' → st.things ≤ st'.things) : ∀ (m : Nat) (st : PSt) (b : Bool) (st' : PSt), tillR g m st = .fin b st' → st.things ≤ st'.things
  | 0, st, b, st', h => by cases h
  | m + 1, st, b, st', h => by
    unfold tillR at h
    cases hk : g st with
    | long => rw [hk] at h; cases h
    | fin c s1 =>
      have h1 := hg _ _ _ hk
      rw [hk] at h
      cases c with
      | true => exact Nat.le_trans h1 (tillR_mono hg m s1 b st' h)
      | false => cases h; exact h1
theorem singleR_mono {k : Ky} {st : PSt} {b : Bool} {st' : PSt} (h : singleR k st = .fin b st') : st.things ≤ st'.things := by
  unfold singleR at h
  cases hd : st.page.does k with
  | none => rw [hd] at h; cases h; exact Nat.le_refl _
  | some g => rw [hd] at h; cases h; exact Nat.le_refl _
theorem playR_mono {tp : Nat → List Ky} {o : Option (Ky → PSt → Res)} (ho : ∀ f, o = some f → ∀ k st b st', f k st = .fin b st' → st.things ≤ st'.things) {k : Ky} {st : PSt} {b : Bool} {st' : PSt} (h : playR tp o k st = .fin b st') : st.things ≤ st'.things := by
  cases k with
  | play n m =>
    cases o with
    | none => cases h; exact Nat.le_refl _
    | some f => exact timesR_mono (fun st b st' h => Nat.le_of_succ_le (once_mono (ho f rfl) h)) m st b st' h
  | till n =>
    cases o with
    | none => cases h; exact Nat.le_refl _
    | some f => exact tillR_mono (fun st b st' h => Nat.le_of_succ_le (once_mono (ho f rfl) h)) 401 st b st' h
  | home => exact singleR_mono (k := .home) h
  | end_ => exact singleR_mono (k := .end_) h
  | _ => exact singleR_mono h
theorem doK_mono (tp : Nat → List Ky) : ∀ (d : Nat) (k : Ky) (st : PSt) (b : Bool) (st' : PSt), doK tp d k st = .fin b st' → st.things + 1 ≤ st'.things := by
  intro d
  induction d with
  | zero =>
    intro k st b st' h
    unfold doK at h
    cases ha : addT st with
    | none => rw [ha] at h; cases h
    | some s1 =>
      rw [ha] at h
      have := (addT_some ha).2.2.1
      have := playR_mono (fun f e => by cases e) h
      omega
  | succ d ih =>
    intro k st b st' h
    unfold doK at h
    cases ha : addT st with
    | none => rw [ha] at h; cases h
    | some s1 =>
      rw [ha] at h
      have := (addT_some ha).2.2.1
      have := playR_mono (fun f e k st b st' h => by cases e; exact Nat.le_of_succ_le (ih k st b st' h)) h
      omega
theorem onceK_mono (tp : Nat → List Ky) (d : Nat) {ks : List Ky} {st : PSt} {b : Bool} {st' : PSt} (h : once (doK tp d) ks st = .fin b st') : st.things + 1 ≤ st'.things :=
  once_mono (fun k st b st' h => Nat.le_of_succ_le (doK_mono tp d k st b st' h)) h
theorem keysR_cons (f : Ky → PSt → Res) (k : Ky) (ks : List Ky) (st : PSt) : keysR f (k :: ks) st = match f k st with | .fin true st' => keysR f ks st' | r => r := rfl
theorem timesR_succ (g : PSt → Res) (m : Nat) (st : PSt) : timesR g (m + 1) st = match g st with | .fin true st' => timesR g m st' | r => r := rfl
theorem tillR_succ (g : PSt → Res) (m : Nat) (st : PSt) : tillR g (m + 1) st = match g st with | .fin true st' => tillR g m st' | .fin false st' => .fin true st' | .long => .long := rfl
end KT
set_option linter.all false
namespace KT
/-! ### a law's own playing: it counts on a little beyond four hundred -/
def ResIs (R : Res) (b : Bool) (st : PSt) : Prop := match R with
  | .long => 401 ≤ st.things
  | .fin b' st' => b' = b ∧ st' = st ∧ st.things ≤ 400
theorem addT_full {st : PSt} (h : 400 ≤ st.things) : addT st = none := if_neg (by omega)
theorem addT_free {st : PSt} (h : st.things < 400) : addT st = some { st with things := st.things + 1 } := if_pos h
theorem doK_long {tp : Nat → List Ky} {d : Nat} {k : Ky} {st : PSt} (h : 400 ≤ st.things) : doK tp d k st = .long := by
  rw [doK_eq, addT_full h]
theorem once_long {f : Ky → PSt → Res} {ks : List Ky} {st : PSt} (h : 400 ≤ st.things) : once f ks st = .long := by
  unfold once; rw [addT_full h]
/-- one more thing -/
def PSt.more (st : PSt) : PSt := { st with things := st.things + 1 }
/-- the keys of a tape, so far -/
def FI (f : Ky → PSt → Res) (R0 : Res) (rest : List Ky) (b : Bool) (st : PSt) : Prop :=
  (b = true ∧ st.things ≤ 400 ∧ keysR f rest st = R0) ∨ (b = false ∧ st.things ≤ 400 ∧ R0 = .fin false st) ∨ (401 ≤ st.things ∧ R0 = .long)
theorem F_start {f : Ky → PSt → Res} {ks : List Ky} {st : PSt} : FI f (once f ks st) ks true st.more := by
  by_cases h : st.things < 400
  · refine .inl ⟨rfl, by show st.things + 1 ≤ 400; omega, ?_⟩
    unfold once; rw [addT_free h]; rfl
  · exact .inr (.inr ⟨by show 401 ≤ st.things + 1; omega, once_long (by omega)⟩)
theorem F_step {tp : Nat → List Ky} {d : Nat} {R0 : Res} {k : Ky} {rest : List Ky} {st st' : PSt} {b' : Bool} (h : FI (doK tp d) R0 (k :: rest) true st) (r : ResIs (doK tp d k st) b' st') : FI (doK tp d) R0 rest b' st' := by
  rcases h with ⟨_, h1, h2⟩ | ⟨h1, _⟩ | ⟨h1, h2⟩
  · rw [keysR_cons] at h2
    cases e : doK tp d k st with
    | long =>
      rw [e] at h2 r
      exact .inr (.inr ⟨r, h2.symm⟩)
    | fin b st2 =>
      rw [e] at h2 r
      obtain ⟨rfl, rfl, r3⟩ := r
      cases b with
      | true => exact .inl ⟨rfl, r3, h2⟩
      | false => exact .inr (.inl ⟨rfl, r3, h2.symm⟩)
  · cases h1
  · rw [doK_long (by omega)] at r
    exact .inr (.inr ⟨r, h2⟩)
theorem F_skip {f : Ky → PSt → Res} {R0 : Res} {k : Ky} {rest : List Ky} {st : PSt} {b : Bool} (h : FI f R0 (k :: rest) b st) (g : b = false ∨ 402 ≤ st.things) : FI f R0 rest b st := by
  rcases h with ⟨h1, h2, _⟩ | h | h
  · rcases g with g | g
    · rw [h1] at g; cases g
    · omega
  · exact .inr (.inl h)
  · exact .inr (.inr h)
theorem F_end {f : Ky → PSt → Res} {R0 : Res} {st : PSt} {b : Bool} (h : FI f R0 [] b st) : ResIs R0 b st := by
  rcases h with ⟨rfl, h1, h2⟩ | ⟨rfl, h1, rfl⟩ | ⟨h1, rfl⟩
  · rw [← h2]; exact ⟨rfl, rfl, h1⟩
  · exact ⟨rfl, rfl, h1⟩
  · exact h1
/-- how often: so many times, or again and again -/
inductive Op where
  | times (m : Nat) | till
def Op.isTill : Op → Bool
  | .till => true
  | _ => false
def Op.left (g : PSt → Res) (Rw : Res) (j : Nat) (st : PSt) : Op → Prop
  | .times m => j ≤ m ∧ timesR g (m - j) st = Rw
  | .till => ∃ N, 402 ≤ N + st.things ∧ tillR g N st = Rw
def Op.goes (j : Nat) : Op → Bool
  | .times m => decide (j < m)
  | .till => true
def WI (g : PSt → Res) (op : Op) (Rw : Res) (j : Nat) (b : Bool) (st : PSt) : Prop :=
  (b = true ∧ st.things ≤ 400 ∧ op.left g Rw j st) ∨ (b = false ∧ st.things ≤ 400 ∧ Rw = .fin op.isTill st) ∨ (401 ≤ st.things ∧ Rw = .long)
theorem W_step {tp : Nat → List Ky} {d : Nat} {ks : List Ky} {op : Op} {Rw : Res} {j : Nat} {st st' : PSt} {b' : Bool} (h : WI (once (doK tp d) ks) op Rw j true st) (hg : op.goes j = true) (r : ResIs (once (doK tp d) ks st) b' st') : WI (once (doK tp d) ks) op Rw (j + 1) b' st' := by
  rcases h with ⟨_, h1, h2⟩ | ⟨h1, _⟩ | ⟨h1, h2⟩
  · cases op with
    | times m =>
      obtain ⟨hj, h2⟩ := h2
      have hjm : j < m := of_decide_eq_true hg
      rw [show m - j = (m - (j + 1)) + 1 by omega, timesR_succ] at h2
      cases e : once (doK tp d) ks st with
      | long => rw [e] at h2 r; exact .inr (.inr ⟨r, h2.symm⟩)
      | fin b st2 =>
        rw [e] at h2 r
        obtain ⟨rfl, rfl, r3⟩ := r
        cases b with
        | true => exact .inl ⟨rfl, r3, hjm, h2⟩
        | false => exact .inr (.inl ⟨rfl, r3, h2.symm⟩)
    | till =>
      obtain ⟨N, hN, h2⟩ := h2
      cases N with
      | zero => omega
      | succ N =>
        rw [tillR_succ] at h2
        cases e : once (doK tp d) ks st with
        | long => rw [e] at h2 r; exact .inr (.inr ⟨r, h2.symm⟩)
        | fin b st2 =>
          rw [e] at h2 r
          obtain ⟨rfl, rfl, r3⟩ := r
          have hm := onceK_mono tp d e
          cases b with
          | true => exact .inl ⟨rfl, r3, N, by omega, h2⟩
          | false => exact .inr (.inl ⟨rfl, r3, h2.symm⟩)
  · cases h1
  · rw [once_long (by omega)] at r
    exact .inr (.inr ⟨r, h2⟩)
theorem W_end {g : PSt → Res} {op : Op} {Rw : Res} {j : Nat} {b : Bool} {st : PSt} (h : WI g op Rw j b st) (hg : b = false ∨ op.goes j = false ∨ 402 ≤ st.things) : ResIs Rw (b || op.isTill) st := by
  rcases h with ⟨rfl, h1, h2⟩ | ⟨rfl, h1, rfl⟩ | ⟨h1, rfl⟩
  · rcases hg with z | z | z
    · cases z
    · cases op with
      | times m =>
        obtain ⟨hj, h2⟩ := h2
        have : ¬ j < m := of_decide_eq_false z
        rw [show m - j = 0 by omega] at h2
        rw [← h2]
        exact ⟨rfl, rfl, h1⟩
      | till => cases z
    · omega
  · exact ⟨by cases op <;> rfl, rfl, h1⟩
  · exact h1
/-- a play or till, as the law counts -/
def opOf : Ky → Option (Nat × Op)
  | .play n m => some (n, .times m)
  | .till n => some (n, .till)
  | _ => none
theorem W_start {tp : Nat → List Ky} {d n : Nat} {op : Op} {k : Ky} {st : PSt} (ho : opOf k = some (n, op)) : WI (once (doK tp d) (tp n)) op (doK tp (d + 1) k st) 0 true st.more := by
  by_cases h : st.things < 400
  · refine .inl ⟨rfl, by show st.things + 1 ≤ 400; omega, ?_⟩
    cases k <;> cases ho
    · rename_i m
      refine ⟨Nat.zero_le _, ?_⟩
      rw [doK_eq, addT_free h]; rfl
    · refine ⟨401, by show 402 ≤ 401 + (st.things + 1); omega, ?_⟩
      rw [doK_eq, addT_free h]; rfl
  · exact .inr (.inr ⟨by show 401 ≤ st.things + 1; omega, doK_long (by omega)⟩)
theorem deep_end {tp : Nat → List Ky} {n : Nat} {op : Op} {k : Ky} {st : PSt} (ho : opOf k = some (n, op)) : ResIs (doK tp 0 k st) false st.more := by
  by_cases h : st.things < 400
  · cases k <;> cases ho <;> (rw [doK_eq, addT_free h]; exact ⟨rfl, rfl, by show st.things + 1 ≤ 400; omega⟩)
  · rw [doK_long (by omega)]
    show 401 ≤ st.things + 1
    omega
theorem single_end {tp : Nat → List Ky} {d : Nat} {k : Ky} {st : PSt} (hk : k.single = true) : ResIs (doK tp d k st) (st.page.does k).isSome ⟨(st.page.does k).getD st.page, st.typed ++ (if (st.page.does k).isSome = true then [k] else []), st.things + 1⟩ := by
  by_cases h : st.things < 400
  · have e : doK tp d k st = singleR k st.more := by
      rw [doK_eq, addT_free h]
      cases k <;> first | rfl | cases hk
    rw [e]
    unfold singleR
    show ResIs (match st.page.does k with | none => .fin false st.more | some g => .fin true ⟨g, st.more.typed ++ [k], st.more.things⟩) _ _
    cases st.page.does k with
    | none => exact ⟨rfl, by simp [PSt.more], by show st.things + 1 ≤ 400; omega⟩
    | some g => exact ⟨rfl, rfl, by show st.things + 1 ≤ 400; omega⟩
  · rw [doK_long (by omega)]
    show 401 ≤ st.things + 1
    omega
end KT
set_option linter.all false
namespace KT
/-! ### what holds along a play -/
structure Along (P : Ky → Prop) (R : PSt → PSt → Prop) : Prop where
  refl : ∀ st, R st st
  trans : ∀ {a b c}, R a b → R b c → R a c
  more : ∀ st, R st st.more
  one : ∀ {st k g}, k.single = true → P k → st.page.does k = some g → R st ⟨g, st.typed ++ [k], st.things⟩
section
variable {P : Ky → Prop} {R : PSt → PSt → Prop} (A : Along P R)
include A
theorem Along.add {st s1 : PSt} (h : addT st = some s1) : R st s1 := by
  unfold addT at h
  split at h
  · cases h; exact A.more st
  · cases h
theorem Along.keys {f : Ky → PSt → Res} (hf : ∀ k st b st', P k → f k st = .fin b st' → R st st') : ∀ (ks : List Ky) (st : PSt) (b : Bool) (st' : PSt), (∀ k ∈ ks, P k) → keysR f ks st = .fin b st' → R st st'
  | [], st, b, st', _, h => by cases h; exact A.refl _
  | k :: ks, st, b, st', hp, h => by
    rw [keysR_cons] at h
    cases hk : f k st with
    | long => rw [hk] at h; cases h
    | fin c s1 =>
      have h1 := hf _ _ _ _ (hp k (by simp)) hk
      rw [hk] at h
      cases c with
      | true => exact A.trans h1 (Along.keys hf ks s1 b st' (fun x hx => hp x (by simp [hx])) h)
      | false => cases h; exact h1
theorem Along.once_ {f : Ky → PSt → Res} (hf : ∀ k st b st', P k → f k st = .fin b st' → R st st') {ks : List Ky} {st : PSt} {b : Bool} {st' : PSt} (hp : ∀ k ∈ ks, P k) (h : once f ks st = .fin b st') : R st st' := by
  unfold once at h
  cases ha : addT st with
  | none => rw [ha] at h; cases h
  | some s1 => rw [ha] at h; exact A.trans (A.add ha) (A.keys hf ks s1 b st' hp h)
theorem Along.times {g : PSt → Res} (hg : ∀ st b st', g st = .fin b st' → R st st') : ∀ (m : Nat) (st : PSt) (b : Bool) (st' : PSt), timesR g m st = .fin b st' → R st st'
  | 0, st, b, st', h => by cases h; exact A.refl _
  | m + 1, st, b, st', h => by
    rw [timesR_succ] at h
    cases hk : g st with
    | long => rw [hk] at h; cases h
    | fin c s1 =>
      have h1 := hg _ _ _ hk
      rw [hk] at h
      cases c with
      | true => exact A.trans h1 (Along.times hg m s1 b st' h)
      | false => cases h; exact h1
theorem Along.tills {g : PSt → Res} (hg : ∀ st b st', g st = .fin b st' → R st st') : ∀ (m : Nat) (st : PSt) (b : Bool) (st' : PSt), tillR g m st = .fin b st' → R st st'
  | 0, st, b, st', h => by cases h
  | m + 1, st, b, st', h => by
    rw [tillR_succ] at h
    cases hk : g st with
    | long => rw [hk] at h; cases h
    | fin c s1 =>
      have h1 := hg _ _ _ hk
      rw [hk] at h
      cases c with
      | true => exact A.trans h1 (Along.tills hg m s1 b st' h)
      | false => cases h; exact h1
theorem Along.single {k : Ky} {st : PSt} {b : Bool} {st' : PSt} (hs : k.single = true) (hp : P k) (h : singleR k st = .fin b st') : R st st' := by
  unfold singleR at h
  cases hd : st.page.does k with
  | none => rw [hd] at h; cases h; exact A.refl _
  | some g => rw [hd] at h; cases h; exact A.one hs hp hd
theorem Along.play {tp : Nat → List Ky} (htp : ∀ n, ∀ k ∈ tp n, P k) {o : Option (Ky → PSt → Res)} (ho : ∀ f, o = some f → ∀ k st b st', P k → f k st = .fin b st' → R st st') {k : Ky} {st : PSt} {b : Bool} {st' : PSt} (hp : P k) (h : playR tp o k st = .fin b st') : R st st' := by
  cases hs : k.single with
  | true =>
    have e : playR tp o k st = singleR k st := by cases k <;> first | rfl | cases hs
    exact A.single hs hp (e.symm.trans h)
  | false =>
    cases k <;> try (cases hs; done)
    · rename_i n m
      cases o with
      | none => cases h; exact A.refl _
      | some f => exact A.times (fun st b st' h => A.once_ (ho f rfl) (htp n) h) m st b st' h
    · rename_i n
      cases o with
      | none => cases h; exact A.refl _
      | some f => exact A.tills (fun st b st' h => A.once_ (ho f rfl) (htp n) h) 401 st b st' h
theorem Along.do_ {tp : Nat → List Ky} (htp : ∀ n, ∀ k ∈ tp n, P k) : ∀ (d : Nat) (k : Ky) (st : PSt) (b : Bool) (st' : PSt), P k → doK tp d k st = .fin b st' → R st st' := by
  intro d
  induction d with
  | zero =>
    intro k st b st' hp h
    rw [doK_eq] at h
    cases ha : addT st with
    | none => rw [ha] at h; cases h
    | some s1 => rw [ha] at h; exact A.trans (A.add ha) (A.play htp (fun f e => by cases e) hp h)
  | succ d ih =>
    intro k st b st' hp h
    rw [doK_eq] at h
    cases ha : addT st with
    | none => rw [ha] at h; cases h
    | some s1 => rw [ha] at h; exact A.trans (A.add ha) (A.play htp (fun f e k st b st' hp h => by cases e; exact ih k st b st' hp h) hp h)
end
/-- keys typed one by one, each of which fits -/
def typeAll : List Ky → Pg → Option Pg
  | [], g => some g
  | k :: ks, g => match g.does k with
    | none => none
    | some g' => typeAll ks g'
theorem typeAll_app : ∀ (ks ls : List Ky) (g : Pg), typeAll (ks ++ ls) g = match typeAll ks g with | none => none | some g' => typeAll ls g'
  | [], _, _ => rfl
  | k :: ks, ls, g => by
    show (match g.does k with | none => none | some g' => typeAll (ks ++ ls) g') = match (match g.does k with | none => none | some g' => typeAll ks g') with | none => none | some g' => typeAll ls g'
    cases g.does k with
    | none => rfl
    | some g' => exact typeAll_app ks ls g'
/-- what was typed between brings the one page to the other -/
def Typed (P : Ky → Prop) (a b : PSt) : Prop := ∃ ks, b.typed = a.typed ++ ks ∧ (∀ k ∈ ks, k.single = true ∧ P k) ∧ typeAll ks a.page = some b.page ∧ a.typed.length ≤ b.typed.length
theorem typed_along (P : Ky → Prop) : Along P (Typed P) where
  refl st := ⟨[], by simp, by simp, rfl, Nat.le_refl _⟩
  trans := by
    rintro a b c ⟨ks, a1, a2, a3, a4⟩ ⟨ls, b1, b2, b3, b4⟩
    refine ⟨ks ++ ls, by rw [b1, a1, List.append_assoc], fun k hk => (List.mem_append.mp hk).elim (a2 k) (b2 k), ?_, Nat.le_trans a4 b4⟩
    rw [typeAll_app, a3]; exact b3
  more st := ⟨[], by simp [PSt.more], by simp, rfl, Nat.le_refl _⟩
  one := by
    intro st k g hs hp hd
    refine ⟨[k], rfl, fun x hx => by rw [List.mem_singleton.mp hx]; exact ⟨hs, hp⟩, ?_, by simp⟩
    unfold typeAll
    rw [hd]; rfl
/-- what a key comes to is what its keys, typed one by one, come to -/
theorem doK_typed {tp : Nat → List Ky} {P : Ky → Prop} (htp : ∀ n, ∀ k ∈ tp n, P k) {d : Nat} {k : Ky} (hk : P k) {g : Pg} {b : Bool} {st : PSt} (h : doK tp d k ⟨g, [], 0⟩ = .fin b st) : (∀ k ∈ st.typed, k.single = true ∧ P k) ∧ typeAll st.typed g = some st.page := by
  obtain ⟨ks, h1, h2, h3, _⟩ := (typed_along P).do_ htp d k _ b st hk h
  have e : st.typed = ks := by rw [h1]; rfl
  rw [e]
  exact ⟨h2, h3⟩
end KT
set_option linter.all false
namespace KT
/-! ### keys in turn, up to one that doesn't fit -/
def go : List Ky → Pg × List Ky → Bool × (Pg × List Ky)
  | [], x => (true, x)
  | k :: ks, x => match x.1.does k with
    | none => (false, x)
    | some g => go ks (g, x.2 ++ [k])
theorem go_app : ∀ (ks ls : List Ky) (x : Pg × List Ky), go (ks ++ ls) x = match go ks x with | (true, y) => go ls y | (false, y) => (false, y)
  | [], _, _ => rfl
  | k :: ks, ls, x => by
    show (match x.1.does k with | none => (false, x) | some g => go (ks ++ ls) (g, x.2 ++ [k])) = match (match x.1.does k with | none => (false, x) | some g => go ks (g, x.2 ++ [k])) with | (true, y) => go ls y | (false, y) => (false, y)
    cases x.1.does k with
    | none => rfl
    | some g => exact go_app ks ls _
/-- f does with k what the keys ks do in turn, with n things at most -/
def Goes (f : PSt → Res) (ks : List Ky) (n : Nat) : Prop := ∀ st : PSt, st.things + n ≤ 400 → ∃ st', f st = .fin (go ks (st.page, st.typed)).1 st' ∧ (st'.page, st'.typed) = (go ks (st.page, st.typed)).2 ∧ st'.things ≤ st.things + n
theorem Goes.mono {f : PSt → Res} {ks : List Ky} {n m : Nat} (h : Goes f ks n) (hm : n ≤ m) : Goes f ks m := fun st hs => by
  obtain ⟨st', a, b, c⟩ := h st (by omega)
  exact ⟨st', a, b, by omega⟩
theorem goes_single {tp : Nat → List Ky} {d : Nat} {k : Ky} (hk : k.single = true) : Goes (doK tp d k) [k] 1 := fun st hs => by
  have ha : addT st = some { st with things := st.things + 1 } := addT_free (by omega)
  have e : doK tp d k st = singleR k { st with things := st.things + 1 } := by
    rw [doK_eq, ha]
    cases k <;> first | rfl | cases hk
  rw [e]
  unfold singleR
  show ∃ st', (match st.page.does k with | none => Res.fin false { st with things := st.things + 1 } | some g => Res.fin true ⟨g, st.typed ++ [k], st.things + 1⟩) = .fin (match st.page.does k with | none => (false, (st.page, st.typed)) | some g => go [] (g, st.typed ++ [k])).1 st' ∧ (st'.page, st'.typed) = (match st.page.does k with | none => (false, (st.page, st.typed)) | some g => go [] (g, st.typed ++ [k])).2 ∧ _
  cases st.page.does k with
  | none => exact ⟨_, rfl, rfl, Nat.le_refl _⟩
  | some g => exact ⟨_, rfl, rfl, Nat.le_refl _⟩
theorem goes_keys {f : Ky → PSt → Res} {fl : Ky → List Ky} {c : Ky → Nat} : ∀ ks : List Ky, (∀ k ∈ ks, Goes (f k) (fl k) (c k)) → Goes (keysR f ks) (ks.flatMap fl) ((ks.map c).sum)
  | [], _ => fun st _ => ⟨st, rfl, rfl, by simp⟩
  | k :: ks, h => fun st hs => by
    simp only [List.map_cons, List.sum_cons] at hs ⊢
    obtain ⟨s1, a1, a2, a3⟩ := h k (by simp) st (by omega)
    rw [keysR_cons, a1, List.flatMap_cons, go_app]
    cases hg : go (fl k) (st.page, st.typed) with
    | mk b y =>
      rw [hg] at a2
      cases b with
      | false => exact ⟨s1, rfl, a2, by omega⟩
      | true =>
        obtain ⟨s2, b1, b2, b3⟩ := goes_keys ks (fun x hx => h x (by simp [hx])) s1 (by omega)
        rw [a2] at b1 b2
        exact ⟨s2, b1, b2, by omega⟩
theorem goes_once {f : Ky → PSt → Res} {fl : Ky → List Ky} {c : Ky → Nat} {ks : List Ky} (h : ∀ k ∈ ks, Goes (f k) (fl k) (c k)) : Goes (once f ks) (ks.flatMap fl) ((ks.map c).sum + 1) := fun st hs => by
  have ha : addT st = some { st with things := st.things + 1 } := addT_free (by omega)
  unfold once
  rw [ha]
  obtain ⟨s', a, b, e⟩ := goes_keys ks h { st with things := st.things + 1 } (by show st.things + 1 + _ ≤ 400; omega)
  exact ⟨s', a, b, by have : s'.things ≤ st.things + 1 + (ks.map c).sum := e; omega⟩
theorem goes_times {g : PSt → Res} {ls : List Ky} {n : Nat} (h : Goes g ls n) : ∀ m : Nat, Goes (timesR g m) (List.replicate m ls).flatten (m * n)
  | 0 => fun st _ => ⟨st, rfl, rfl, by simp⟩
  | m + 1 => fun st hs => by
    rw [Nat.succ_mul] at hs ⊢
    obtain ⟨s1, a1, a2, a3⟩ := h st (by omega)
    rw [timesR_succ, a1, List.replicate_succ, List.flatten_cons, go_app]
    cases hg : go ls (st.page, st.typed) with
    | mk b y =>
      rw [hg] at a2
      cases b with
      | false => exact ⟨s1, rfl, a2, by omega⟩
      | true =>
        obtain ⟨s2, b1, b2, b3⟩ := goes_times h m s1 (by omega)
        rw [a2] at b1 b2
        exact ⟨s2, b1, b2, by omega⟩
theorem goes_play {tp : Nat → List Ky} {d n m c : Nat} {ls : List Ky} (h : Goes (once (doK tp d) (tp n)) ls c) : Goes (doK tp (d + 1) (.play n m)) (List.replicate m ls).flatten (m * c + 1) := fun st hs => by
  have ha : addT st = some { st with things := st.things + 1 } := addT_free (by omega)
  rw [doK_eq, ha]
  obtain ⟨s', a, b, e⟩ := goes_times h m { st with things := st.things + 1 } (by show st.things + 1 + _ ≤ 400; omega)
  exact ⟨s', a, b, by have : s'.things ≤ st.things + 1 + m * c := e; omega⟩
/-- a tape's key, flat: a play of the tape n is n's flat keys so many times -/
def flK (n : Nat) (ls : List Ky) : Ky → List Ky
  | .play n' m => if n' = n then (List.replicate m ls).flatten else [.play n' m]
  | k => [k]
def coK (c : Nat) : Ky → Nat
  | .play _ m => m * c + 1
  | _ => 1
/-- keys that are singles, or plays of n -/
def Only (n : Nat) (mx : Nat) (ks : List Ky) : Prop := ∀ k ∈ ks, (k.single = true ∧ k.Ok) ∨ ∃ m, k = .play n m ∧ 1 ≤ m ∧ m ≤ mx
theorem flK_single {n : Nat} {ls : List Ky} {k : Ky} (h : k.single = true) : flK n ls k = [k] := by cases k <;> first | rfl | cases h
theorem coK_single {c : Nat} {k : Ky} (h : k.single = true) : coK c k = 1 := by cases k <;> first | rfl | cases h
theorem goes_tape {tp : Nat → List Ky} {d n mx c : Nat} {ls ks : List Ky} (ho : Only n mx ks) (h : Goes (once (doK tp d) (tp n)) ls c) : Goes (once (doK tp (d + 1)) ks) (ks.flatMap (flK n ls)) ((ks.map (coK c)).sum + 1) := by
  refine goes_once fun k hk => ?_
  rcases ho k hk with ⟨hs, _⟩ | ⟨m, rfl, _, _⟩
  · rw [flK_single hs, coK_single hs]; exact goes_single hs
  · show Goes _ (if n = n then _ else _) (m * c + 1)
    rw [if_pos rfl]
    exact goes_play h
theorem goes_base {tp : Nat → List Ky} {d : Nat} {ks : List Ky} (h : ∀ k ∈ ks, k.single = true) : Goes (once (doK tp d) ks) ks (ks.length + 1) := by
  have := goes_once (f := doK tp d) (fl := fun k => [k]) (c := fun _ => 1) (ks := ks) fun k hk => goes_single (h k hk)
  have e1 : ks.flatMap (fun k => [k]) = ks := by simp
  have e2 : (ks.map fun _ => 1).sum = ks.length := by rw [List.map_const']; simp
  rw [e1, e2] at this
  exact this
theorem go_times_step {ls : List Ky} {i m : Nat} {x : Pg × List Ky} {y : Pg × List Ky} (hi : i < m) (h : go (List.replicate i ls).flatten x = (true, y)) :
    ((go ls y).1 = true → go (List.replicate (i + 1) ls).flatten x = (true, (go ls y).2)) ∧ ((go ls y).1 = false → go (List.replicate m ls).flatten x = (false, (go ls y).2)) := by
  have e1 : (List.replicate (i + 1) ls).flatten = (List.replicate i ls).flatten ++ ls := by
    rw [List.replicate_succ', List.flatten_append]; simp
  have e2 : (List.replicate m ls).flatten = (List.replicate i ls).flatten ++ (ls ++ (List.replicate (m - i - 1) ls).flatten) := by
    have e0 : List.replicate m ls = List.replicate i ls ++ (ls :: List.replicate (m - i - 1) ls) := by
      rw [← List.replicate_succ, List.replicate_append_replicate]
      congr 1; omega
    rw [e0, List.flatten_append, List.flatten_cons]
  refine ⟨fun hb => ?_, fun hb => ?_⟩
  · rw [e1, go_app, h]
    show go ls y = _
    rw [← hb]
  · rw [e2, go_app, h]
    show go (ls ++ _) y = _
    rw [go_app]
    cases hg : go ls y with
    | mk b z =>
      rw [hg] at hb
      cases hb
      rfl
/-- typed before matters not -/
theorem go_typed : ∀ (ks : List Ky) (g : Pg) (ty : List Ky), go ks (g, ty) = ((go ks (g, [])).1, ((go ks (g, [])).2.1, ty ++ (go ks (g, [])).2.2))
  | [], g, ty => by simp [go]
  | k :: ks, g, ty => by
    show (match g.does k with | none => (false, (g, ty)) | some g' => go ks (g', ty ++ [k])) = ((match g.does k with | none => (false, (g, [])) | some g' => go ks (g', [] ++ [k])).1, ((match g.does k with | none => (false, (g, [])) | some g' => go ks (g', [] ++ [k])).2.1, ty ++ (match g.does k with | none => (false, (g, [])) | some g' => go ks (g', [] ++ [k])).2.2))
    cases g.does k with
    | none => simp
    | some g' =>
      show go ks (g', ty ++ [k]) = ((go ks (g', [] ++ [k])).1, ((go ks (g', [] ++ [k])).2.1, ty ++ (go ks (g', [] ++ [k])).2.2))
      rw [go_typed ks g' (ty ++ [k]), go_typed ks g' ([] ++ [k])]
      simp
end KT
set_option linter.all false
namespace KT
/-- a tape of at most s singles and j plays of n -/
structure Bt (n s j : Nat) (ks : List Ky) : Prop where
  only : Only n 3 ks
  sum : ∀ (f : Ky → Nat) (X : Nat), (∀ k, k.single = true → f k ≤ 1) → (∀ m, m ≤ 3 → f (.play n m) ≤ X) → (ks.map f).sum ≤ s + j * X
  ne : j = 0 ∨ ks ≠ []
theorem sum_ones {f : Ky → Nat} (hf : ∀ k, k.single = true → f k ≤ 1) : ∀ ks : List Ky, (∀ k ∈ ks, k.single = true ∧ k.Ok) → (ks.map f).sum ≤ ks.length
  | [], _ => by simp
  | k :: ks, h => by
    have h1 := hf k (h k (by simp)).1
    have h2 := sum_ones hf ks fun x hx => h x (by simp [hx])
    simp only [List.map_cons, List.sum_cons, List.length_cons]
    omega
theorem Bt.base {n s : Nat} {ks : List Ky} (h : ∀ k ∈ ks, k.single = true ∧ k.Ok) (hl : ks.length ≤ s) : Bt n s 0 ks :=
  ⟨fun k hk => .inl (h k hk), fun f X hf _ => by have := sum_ones hf ks h; omega, .inl rfl⟩
theorem Bt.ins {n s j m i : Nat} {ks : List Ky} (h : Bt n s j ks) (h1 : 1 ≤ m) (h3 : m ≤ 3) : Bt n s (j + 1) (ks.take i ++ [.play n m] ++ ks.drop i) := by
  refine ⟨fun k hk => ?_, fun f X hf hX => ?_, .inr (by simp)⟩
  · rw [List.mem_append, List.mem_append, List.mem_singleton] at hk
    rcases hk with (z | z) | z
    · exact h.only k (List.mem_of_mem_take z)
    · exact .inr ⟨m, z, h1, h3⟩
    · exact h.only k (List.mem_of_mem_drop z)
  · have e := h.sum f X hf hX
    have e2 : (ks.map f).sum = ((ks.take i).map f).sum + ((ks.drop i).map f).sum := by
      rw [← List.sum_append, ← List.map_append, List.take_append_drop]
    have := hX m h3
    simp only [List.map_append, List.sum_append, List.map_cons, List.map_nil, List.sum_cons, List.sum_nil]
    rw [Nat.succ_mul]
    omega
theorem Bt.len {n s j : Nat} {ks : List Ky} (h : Bt n s j ks) : ks.length ≤ s + j := by
  have := h.sum (fun _ => 1) 1 (fun _ _ => Nat.le_refl _) (fun _ _ => Nat.le_refl _)
  rw [List.map_const', List.sum_replicate_nat] at this
  simpa using this
theorem flatMap_sum {α β : Type} (f : α → List β) : ∀ l : List α, (l.flatMap f).length = (l.map fun x => (f x).length).sum
  | [] => rfl
  | x :: l => by rw [List.flatMap_cons, List.length_append, flatMap_sum f l]; rfl
theorem rep_len {α : Type} (ls : List α) : ∀ m : Nat, (List.replicate m ls).flatten.length = m * ls.length
  | 0 => by simp
  | m + 1 => by rw [List.replicate_succ, List.flatten_cons, List.length_append, rep_len ls m, Nat.succ_mul]; omega
theorem Bt.flat {n s j : Nat} {ks ls : List Ky} (h : Bt n s j ks) : (ks.flatMap (flK n ls)).length ≤ s + j * (3 * ls.length) := by
  rw [flatMap_sum]
  refine h.sum (fun k => (flK n ls k).length) _ (fun k hk => by show (flK n ls k).length ≤ 1; rw [flK_single hk]; simp) fun m hm => ?_
  show (if n = n then (List.replicate m ls).flatten else _).length ≤ _
  rw [if_pos rfl, rep_len]
  exact Nat.mul_le_mul_right _ hm
theorem Bt.cost {n s j c : Nat} {ks : List Ky} (h : Bt n s j ks) : (ks.map (coK c)).sum ≤ s + j * (3 * c + 1) :=
  h.sum (coK c) _ (fun k hk => by rw [coK_single hk]; exact Nat.le_refl _) fun m hm => by
    show m * c + 1 ≤ _
    have := Nat.mul_le_mul_right c hm
    omega
theorem Bt.sing {n s j : Nat} {ks ls : List Ky} (h : Bt n s j ks) (hl : ∀ k ∈ ls, k.single = true ∧ k.Ok) : ∀ k ∈ ks.flatMap (flK n ls), k.single = true ∧ k.Ok := by
  intro k hk
  obtain ⟨k0, h0, h1⟩ := List.mem_flatMap.mp hk
  rcases h.only k0 h0 with ⟨a, b⟩ | ⟨m, rfl, _, _⟩
  · rw [flK_single a, List.mem_singleton] at h1
    rw [h1]; exact ⟨a, b⟩
  · have h1 : k ∈ (if n = n then (List.replicate m ls).flatten else [.play n m]) := h1
    rw [if_pos rfl] at h1
    obtain ⟨l, h2, h3⟩ := List.mem_flatten.mp h1
    rw [List.eq_of_mem_replicate h2] at h3
    exact hl k h3
theorem Bt.oks {n s j : Nat} {ks : List Ky} (h : Bt n s j ks) (hn : n < 8) : ∀ k ∈ ks, k.Ok := fun k hk => by
  rcases h.only k hk with ⟨_, b⟩ | ⟨m, rfl, h1, h3⟩
  · exact b
  · exact ⟨hn, h1, by omega⟩
theorem flK_ne {n m : Nat} {ls : List Ky} (hm : 1 ≤ m) (hl : ls ≠ []) : flK n ls (.play n m) ≠ [] := by
  show (if n = n then _ else _) ≠ []
  rw [if_pos rfl]
  obtain ⟨q, rfl⟩ : ∃ q, m = q + 1 := ⟨m - 1, by omega⟩
  rw [List.replicate_succ, List.flatten_cons]
  intro e
  exact hl (List.append_eq_nil_iff.mp e).1
theorem Bt.flatne {n s j : Nat} {ks ls : List Ky} (h : Bt n s (j + 1) ks) (hl : ls ≠ []) : ks.flatMap (flK n ls) ≠ [] := by
  have hne := h.ne.resolve_left (by omega)
  cases ks with
  | nil => exact absurd rfl hne
  | cons k ks =>
    intro e
    have e1 := (List.append_eq_nil_iff.mp ((List.flatMap_cons ..).symm.trans e)).1
    rcases h.only k (by simp) with ⟨a, _⟩ | ⟨m, rfl, h1, _⟩
    · rw [flK_single a] at e1; cases e1
    · exact flK_ne h1 hl e1
/-! the tapes c, b, a: all that is done is far below what may be done -/
theorem goes_c {tp : Nat → List Ky} {d : Nat} (hc : ∀ k ∈ tp 2, k.single = true ∧ k.Ok) (hl : (tp 2).length ≤ 5) : Goes (once (doK tp d) (tp 2)) (tp 2) 6 := (goes_base fun k hk => (hc k hk).1).mono (by omega)
theorem goes_b {tp : Nat → List Ky} {d : Nat} (hc : ∀ k ∈ tp 2, k.single = true ∧ k.Ok) (hl : (tp 2).length ≤ 5) (hb : Bt 2 3 2 (tp 1)) : Goes (once (doK tp (d + 1)) (tp 1)) ((tp 1).flatMap (flK 2 (tp 2))) 42 :=
  (goes_tape hb.only (goes_c hc hl)).mono (by have := hb.cost (c := 6); omega)
theorem goes_a {tp : Nat → List Ky} {d : Nat} (hc : ∀ k ∈ tp 2, k.single = true ∧ k.Ok) (hl : (tp 2).length ≤ 5) (hb : Bt 2 3 2 (tp 1)) (ha : Bt 1 3 2 (tp 0)) : Goes (once (doK tp (d + 2)) (tp 0)) ((tp 0).flatMap (flK 1 ((tp 1).flatMap (flK 2 (tp 2))))) 258 :=
  (goes_tape ha.only (goes_b hc hl hb)).mono (by have := ha.cost (c := 42); omega)
theorem goes_run {tp : Nat → List Ky} {k : Ky} {ls : List Ky} {n : Nat} (h : Goes (doK tp 20 k) ls n) (hn : n ≤ 400) (g : Pg) : ∃ st, doK tp 20 k ⟨g, [], 0⟩ = .fin (go ls (g, [])).1 st ∧ st.page = (go ls (g, [])).2.1 ∧ st.typed = (go ls (g, [])).2.2 := by
  obtain ⟨st, a, b, _⟩ := h ⟨g, [], 0⟩ (by show 0 + n ≤ 400; omega)
  have b : (st.page, st.typed) = (go ls (g, [])).2 := b
  exact ⟨st, a, by rw [← b], by rw [← b]⟩
theorem run_a {tp : Nat → List Ky} (hc : ∀ k ∈ tp 2, k.single = true ∧ k.Ok) (hl : (tp 2).length ≤ 5) (hb : Bt 2 3 2 (tp 1)) (ha : Bt 1 3 2 (tp 0)) (g : Pg) :
    ∃ st, doK tp 20 (.play 0 1) ⟨g, [], 0⟩ = .fin (go ((tp 0).flatMap (flK 1 ((tp 1).flatMap (flK 2 (tp 2))))) (g, [])).1 st ∧ st.page = (go ((tp 0).flatMap (flK 1 ((tp 1).flatMap (flK 2 (tp 2))))) (g, [])).2.1 ∧ st.typed = (go ((tp 0).flatMap (flK 1 ((tp 1).flatMap (flK 2 (tp 2))))) (g, [])).2.2 := by
  have h := goes_play (m := 1) (goes_a (d := 17) hc hl hb ha)
  have e : (List.replicate 1 ((tp 0).flatMap (flK 1 ((tp 1).flatMap (flK 2 (tp 2)))))).flatten = (tp 0).flatMap (flK 1 ((tp 1).flatMap (flK 2 (tp 2)))) := by simp
  rw [e] at h
  exact goes_run h (by decide) g
theorem run_b {tp : Nat → List Ky} (hc : ∀ k ∈ tp 2, k.single = true ∧ k.Ok) (hl : (tp 2).length ≤ 5) (hb : Bt 2 3 2 (tp 1)) {m : Nat} (hm : m ≤ 9) (g : Pg) :
    ∃ st, doK tp 20 (.play 1 m) ⟨g, [], 0⟩ = .fin (go (List.replicate m ((tp 1).flatMap (flK 2 (tp 2)))).flatten (g, [])).1 st ∧ st.page = (go (List.replicate m ((tp 1).flatMap (flK 2 (tp 2)))).flatten (g, [])).2.1 ∧ st.typed = (go (List.replicate m ((tp 1).flatMap (flK 2 (tp 2)))).flatten (g, [])).2.2 :=
  goes_run (goes_play (m := m) (goes_b (d := 18) hc hl hb)) (by omega) g
theorem run_h {tp : Nat → List Ky} (hc : ∀ k ∈ tp 7, k.single = true ∧ k.Ok) (hl : (tp 7).length ≤ 30) (g : Pg) :
    ∃ st, doK tp 20 (.play 7 1) ⟨g, [], 0⟩ = .fin (go (tp 7) (g, [])).1 st ∧ st.page = (go (tp 7) (g, [])).2.1 ∧ st.typed = (go (tp 7) (g, [])).2.2 := by
  have h := goes_play (m := 1) (goes_base (tp := tp) (d := 19) fun k hk => (hc k hk).1)
  have e : (List.replicate 1 (tp 7)).flatten = tp 7 := by simp
  rw [e] at h
  exact goes_run h (by omega) g
theorem go_page_ok : ∀ (ks : List Ky) (g : Pg) (ty : List Ky), g.Ok → (∀ k ∈ ks, k.Ok) → (go ks (g, ty)).2.1.Ok
  | [], g, ty, h, _ => h
  | k :: ks, g, ty, h, hk => by
    show (match g.does k with | none => (false, (g, ty)) | some g' => go ks (g', ty ++ [k])).2.1.Ok
    cases hd : g.does k with
    | none => exact h
    | some g' => exact go_page_ok ks g' _ (does_ok h (hk k (by simp)) hd) fun x hx => hk x (by simp [hx])
end KT
set_option linter.all false
namespace KT
theorem go_step {ks : List Ky} {i : Nat} {x y : Pg × List Ky} (hi : i < ks.length) (h : go (ks.take i) x = (true, y)) :
    (∀ g, y.1.does ks[i] = some g → go (ks.take (i + 1)) x = (true, (g, y.2 ++ [ks[i]]))) ∧ (y.1.does ks[i] = none → go ks x = (false, y)) := by
  have e1 : ks.take (i + 1) = ks.take i ++ [ks[i]] := List.take_succ_eq_append_getElem hi
  have e2 : ks = ks.take i ++ (ks[i] :: ks.drop (i + 1)) := by rw [List.getElem_cons_drop, List.take_append_drop]
  refine ⟨fun g hg => ?_, fun hn => ?_⟩
  · rw [e1, go_app, h]
    show (match y.1.does ks[i] with | none => (false, y) | some g => go [] (g, y.2 ++ [ks[i]])) = _
    rw [hg]; rfl
  · rw [e2, go_app, h]
    show (match y.1.does ks[i] with | none => (false, y) | some g => go (ks.drop (i + 1)) (g, y.2 ++ [ks[i]])) = _
    rw [hn]
theorem go_snoc {ks : List Ky} {k : Ky} {x y : Pg × List Ky} {g : Pg} (h : go ks x = (true, y)) (hg : y.1.does k = some g) : go (ks ++ [k]) x = (true, (g, y.2 ++ [k])) := by
  rw [go_app, h]
  show (match y.1.does k with | none => (false, y) | some g => go [] (g, y.2 ++ [k])) = _
  rw [hg]; rfl
end KT
set_option linter.all false
namespace KT
/-! ### rows of any signs -/
def lstep {α : Type} (e : Nat → α) : Ky → List α × Nat → Option (List α × Nat)
  | .put [x], s => some (s.1.take s.2 ++ [e x] ++ s.1.drop s.2, s.2 + 1)
  | .rub, s => if s.2 = 0 then none else some (s.1.take (s.2 - 1) ++ s.1.drop s.2, s.2 - 1)
  | .left, s => if s.2 = 0 then none else some (s.1, s.2 - 1)
  | .right, s => if s.2 < s.1.length then some (s.1, s.2 + 1) else none
  | .home, s => some (s.1, 0)
  | .end_, s => some (s.1, s.1.length)
  | _, _ => none
def lgo {α : Type} (e : Nat → α) : List Ky → List α × Nat → List α × Nat
  | [], s => s
  | k :: ks, s => match lstep e k s with
    | none => s
    | some s' => lgo e ks s'
/-- the keys of a plain tape -/
def Ky.plain : Ky → Bool
  | .put [x] => decide (okSign x)
  | .rub => true
  | .left => true
  | .right => true
  | .home => true
  | .end_ => true
  | _ => false
theorem plain_put {s : Ln} (h : (Ky.put s).plain = true) : ∃ x, s = [x] ∧ okSign x := by
  match s, h with
  | [x], h => exact ⟨x, rfl, of_decide_eq_true h⟩
theorem plain_ok {k : Ky} (h : k.plain = true) : k.Ok ∧ k.single = true := by
  cases k with
  | put s => obtain ⟨x, rfl, hx⟩ := plain_put h; exact ⟨⟨rfl, fun c hc => by rw [List.mem_singleton.mp hc]; exact hx⟩, rfl⟩
  | _ => first | exact ⟨trivial, rfl⟩ | cases h
/-- what is put -/
def puts : List Ky → List Nat
  | [] => []
  | .put s :: ks => s ++ puts ks
  | _ :: ks => puts ks
theorem lstep_map {α β : Type} (f : α → β) (e : Nat → α) (k : Ky) (s : List α × Nat) : lstep (fun x => f (e x)) k (s.1.map f, s.2) = (lstep e k s).map fun s => (s.1.map f, s.2) := by
  cases k with
  | put t =>
    match t with
    | [] => rfl
    | [x] => simp [lstep, List.map_take, List.map_drop]
    | _ :: _ :: _ => rfl
  | rub => by_cases h : s.2 = 0 <;> simp [lstep, h, List.map_take, List.map_drop]
  | left => by_cases h : s.2 = 0 <;> simp [lstep, h]
  | right => by_cases h : s.2 < s.1.length <;> simp [lstep, h]
  | home => rfl
  | end_ => simp [lstep]
  | _ => rfl
theorem lgo_map {α β : Type} (f : α → β) (e : Nat → α) : ∀ (ks : List Ky) (s : List α × Nat), lgo (fun x => f (e x)) ks (s.1.map f, s.2) = ((lgo e ks s).1.map f, (lgo e ks s).2)
  | [], s => rfl
  | k :: ks, s => by
    show (match lstep (fun x => f (e x)) k (s.1.map f, s.2) with | none => (s.1.map f, s.2) | some s' => lgo (fun x => f (e x)) ks s') = _
    rw [lstep_map]
    show _ = ((match lstep e k s with | none => s | some s' => lgo e ks s').1.map f, (match lstep e k s with | none => s | some s' => lgo e ks s').2)
    cases lstep e k s with
    | none => rfl
    | some s' => exact lgo_map f e ks s'
theorem lstep_ok {α : Type} {e : Nat → α} {k : Ky} {s s' : List α × Nat} (h : lstep e k s = some s') (hc : s.2 ≤ s.1.length) : s'.2 ≤ s'.1.length ∧ s'.1.length ≤ s.1.length + 1 := by
  cases k with
  | put t =>
    match t, h with
    | [x], h =>
      cases h
      constructor <;> simp only [List.length_append, List.length_take, List.length_drop, List.length_cons, List.length_nil] <;> omega
  | rub =>
    have h : (if s.2 = 0 then none else some (s.1.take (s.2 - 1) ++ s.1.drop s.2, s.2 - 1)) = some s' := h
    split at h
    · cases h
    · cases h
      constructor <;> simp only [List.length_append, List.length_take, List.length_drop] <;> omega
  | left =>
    have h : (if s.2 = 0 then none else some (s.1, s.2 - 1)) = some s' := h
    split at h
    · cases h
    · cases h
      constructor
      · show s.2 - 1 ≤ s.1.length; omega
      · show s.1.length ≤ _; omega
  | right =>
    have h : (if s.2 < s.1.length then some (s.1, s.2 + 1) else none) = some s' := h
    split at h
    · cases h
      constructor
      · show s.2 + 1 ≤ s.1.length; omega
      · show s.1.length ≤ _; omega
    · cases h
  | home => cases h; exact ⟨Nat.zero_le _, Nat.le_succ _⟩
  | end_ => cases h; exact ⟨Nat.le_refl _, Nat.le_succ _⟩
  | _ => cases h
theorem lgo_ok {α : Type} {e : Nat → α} : ∀ (ks : List Ky) (s : List α × Nat), s.2 ≤ s.1.length → (lgo e ks s).2 ≤ (lgo e ks s).1.length ∧ (lgo e ks s).1.length ≤ s.1.length + ks.length
  | [], s, h => ⟨h, Nat.le_refl _⟩
  | k :: ks, s, h => by
    show (match lstep e k s with | none => s | some s' => lgo e ks s').2 ≤ (match lstep e k s with | none => s | some s' => lgo e ks s').1.length ∧ (match lstep e k s with | none => s | some s' => lgo e ks s').1.length ≤ _
    cases hs : lstep e k s with
    | none => exact ⟨h, by show s.1.length ≤ _; omega⟩
    | some s' =>
      obtain ⟨h1, h2⟩ := lstep_ok hs h
      obtain ⟨h3, h4⟩ := lgo_ok ks s' h1
      exact ⟨h3, by show (lgo e ks s').1.length ≤ s.1.length + (ks.length + 1); omega⟩
/-- the page of one row -/
def pg1 (s : Ln × Nat) : Pg := ⟨[s.1], 0, s.2, []⟩
theorem does_line {k : Ky} (hk : k.plain = true) {s : Ln × Nat} (hl : s.1.length < 60) : (pg1 s).does k = (lstep id k s).map pg1 := by
  have hline : (pg1 s).line = s.1 := rfl
  have hoth : ∀ x : Ln, (pg1 s).others 0 1 [x] = [x] := fun x => rfl
  cases k with
  | put t =>
    obtain ⟨x, rfl, _⟩ := plain_put hk
    show (pg1 s).write [x] = _
    unfold Pg.write
    rw [if_neg (by rw [hline]; show ¬ 60 < s.1.length + 1; omega)]
    rfl
  | rub =>
    show (pg1 s).rub = _
    unfold Pg.rub
    by_cases h : s.2 = 0
    · have h' : (pg1 s).col = 0 := h
      rw [if_pos h']
      unfold Pg.join
      have h0 : (pg1 s).row = 0 := rfl
      rw [if_pos h0]
      simp [lstep, h]
    · have h' : ¬ (pg1 s).col = 0 := h
      rw [if_neg h']
      simp only [lstep, if_neg h]; rfl
  | left =>
    show (pg1 s).left = _
    unfold Pg.left
    by_cases h : s.2 = 0
    · have h0 : (pg1 s).row = 0 := rfl
      rw [if_neg (by show ¬ 0 < s.2; omega), if_pos h0]
      simp [lstep, h]
    · rw [if_pos (by show 0 < s.2; omega)]
      simp only [lstep, if_neg h]; rfl
  | right =>
    show (pg1 s).right = _
    unfold Pg.right
    by_cases h : s.2 < s.1.length
    · have h' : (pg1 s).col < (pg1 s).line.length := h
      rw [if_pos h']
      simp only [lstep, if_pos h]; rfl
    · have h' : ¬ (pg1 s).col < (pg1 s).line.length := h
      have h0 : (pg1 s).row + 1 = (pg1 s).rows.length := rfl
      rw [if_neg h', if_pos h0]
      simp only [lstep, if_neg h]; rfl
  | home => rfl
  | end_ => rfl
  | _ => cases hk
theorem lgo_cons {α : Type} (e : Nat → α) (k : Ky) (ks : List Ky) (s : List α × Nat) : lgo e (k :: ks) s = match lstep e k s with | none => s | some s' => lgo e ks s' := rfl
theorem go_cons (k : Ky) (ks : List Ky) (x : Pg × List Ky) : go (k :: ks) x = match x.1.does k with | none => (false, x) | some g => go ks (g, x.2 ++ [k]) := rfl
theorem go_line : ∀ (ks : List Ky) (s : Ln × Nat) (ty : List Ky), (∀ k ∈ ks, k.plain = true) → s.2 ≤ s.1.length → s.1.length + ks.length ≤ 60 → (go ks (pg1 s, ty)).2.1 = pg1 (lgo id ks s)
  | [], s, ty, _, _, _ => rfl
  | k :: ks, s, ty, hk, hc, hl => by
    rw [lgo_cons, go_cons]
    have hl : s.1.length + (ks.length + 1) ≤ 60 := hl
    show (match (pg1 s).does k with | none => (false, (pg1 s, ty)) | some g => go ks (g, ty ++ [k])).2.1 = _
    rw [does_line (hk k (by simp)) (by omega)]
    cases hs : lstep id k s with
    | none => rfl
    | some s' =>
      obtain ⟨h1, h2⟩ := lstep_ok hs hc
      exact go_line ks s' _ (fun x hx => hk x (by simp [hx])) h1 (by omega)
theorem lstep_mem {α : Type} {e : Nat → α} {k : Ky} {s s' : List α × Nat} (h : lstep e k s = some s') : ∀ x ∈ s'.1, x ∈ s.1 ∨ ∃ c ∈ puts [k], x = e c := by
  intro x hx
  cases k with
  | put t =>
    match t, h with
    | [y], h =>
      cases h
      simp only [List.mem_append, List.mem_singleton] at hx
      rcases hx with (z | z) | z
      · exact .inl (List.mem_of_mem_take z)
      · exact .inr ⟨y, by simp [puts], z⟩
      · exact .inl (List.mem_of_mem_drop z)
  | rub =>
    have h : (if s.2 = 0 then none else some (s.1.take (s.2 - 1) ++ s.1.drop s.2, s.2 - 1)) = some s' := h
    split at h
    · cases h
    · cases h
      rcases List.mem_append.mp hx with z | z
      · exact .inl (List.mem_of_mem_take z)
      · exact .inl (List.mem_of_mem_drop z)
  | left =>
    have h : (if s.2 = 0 then none else some (s.1, s.2 - 1)) = some s' := h
    split at h <;> cases h
    exact .inl hx
  | right =>
    have h : (if s.2 < s.1.length then some (s.1, s.2 + 1) else none) = some s' := h
    split at h <;> cases h
    exact .inl hx
  | home => cases h; exact .inl hx
  | end_ => cases h; exact .inl hx
  | _ => cases h
theorem puts_cons (k : Ky) (ks : List Ky) : puts (k :: ks) = puts [k] ++ puts ks := by cases k <;> simp [puts]
theorem lgo_mem {α : Type} {e : Nat → α} : ∀ (ks : List Ky) (s : List α × Nat), ∀ x ∈ (lgo e ks s).1, x ∈ s.1 ∨ ∃ c ∈ puts ks, x = e c
  | [], s, x, hx => .inl hx
  | k :: ks, s, x, hx => by
    have hx : x ∈ (match lstep e k s with | none => s | some s' => lgo e ks s').1 := hx
    rw [puts_cons]
    cases hs : lstep e k s with
    | none => rw [hs] at hx; exact .inl hx
    | some s' =>
      rw [hs] at hx
      rcases lgo_mem ks s' x hx with z | ⟨c, hc, z⟩
      · rcases lstep_mem hs x z with y | ⟨c, hc, y⟩
        · exact .inl y
        · exact .inr ⟨c, by simp [hc], y⟩
      · exact .inr ⟨c, by simp [hc], z⟩
theorem map_on {α β : Type} {f : α → β} : ∀ {l l' : List α}, (∀ x ∈ l, ∀ y ∈ l', f x = f y → x = y) → l.map f = l'.map f → l = l'
  | [], [], _, _ => rfl
  | [], _ :: _, _, h => by cases h
  | _ :: _, [], _, h => by cases h
  | x :: l, y :: l', hi, h => by
    rw [List.map_cons, List.map_cons] at h
    injection h with h1 h2
    rw [hi x (by simp) y (by simp) h1, map_on (fun a ha b hb => hi a (by simp [ha]) b (by simp [hb])) h2]
/-! symbols: what stood in the row, by its number, and what is put -/
inductive Sy where
  | own (k : Nat)
  | of (c : Nat)
  deriving DecidableEq
def syRow (n : Nat) : List Sy := (List.range n).map Sy.own
/-- a row's signs for the symbols -/
def syF (row : Ln) : Sy → Nat
  | .own k => row.getD k 0
  | .of c => c
theorem syRow_map (row : Ln) : (syRow row.length).map (syF row) = row := by
  unfold syRow
  rw [List.map_map]
  refine List.ext_getElem (by simp) fun i h1 h2 => ?_
  simp only [List.getElem_map, List.getElem_range, Function.comp]
  show row.getD i 0 = row[i]
  rw [List.getD_eq_getElem?_getD, List.getElem?_eq_getElem h2]; rfl
theorem syRow_mem {n : Nat} {x : Sy} (h : x ∈ syRow n) : ∃ k, k < n ∧ x = .own k := by
  obtain ⟨k, hk, rfl⟩ := List.mem_map.mp h
  exact ⟨k, List.mem_range.mp hk, rfl⟩
/-- on a row of signs, by symbols -/
theorem lgo_sy (ks : List Ky) (row : Ln) (c : Nat) : lgo id ks (row, c) = ((lgo Sy.of ks (syRow row.length, c)).1.map (syF row), (lgo Sy.of ks (syRow row.length, c)).2) := by
  have h := lgo_map (syF row) Sy.of ks (syRow row.length, c)
  rw [show ((syRow row.length, c).1.map (syF row), (syRow row.length, c).2) = (row, c) by rw [syRow_map]] at h
  exact h
/-- if two tapes come to the same by symbols, they do on each row -/
theorem sy_same {ks ls : List Ky} {row : Ln} {c : Nat} (h : lgo Sy.of ks (syRow row.length, c) = lgo Sy.of ls (syRow row.length, c)) : lgo id ks (row, c) = lgo id ls (row, c) := by
  rw [lgo_sy, lgo_sy, h]
/-- on a row of signs that are all others, and none put, they come to the same just if they do by symbols -/
theorem sy_iff {ks ls : List Ky} {row : Ln} {c : Nat} (nd : row.Nodup) (np : ∀ x ∈ row, x ∉ puts ks ++ puts ls) : lgo id ks (row, c) = lgo id ls (row, c) ↔ lgo Sy.of ks (syRow row.length, c) = lgo Sy.of ls (syRow row.length, c) := by
  refine ⟨fun h => ?_, sy_same⟩
  rw [lgo_sy, lgo_sy ls] at h
  have h1 := congrArg Prod.fst h
  have h2 := congrArg Prod.snd h
  simp only at h1 h2
  refine Prod.ext (map_on (fun x hx y hy e => ?_) h1) h2
  have own : ∀ k, k < row.length → syF row (.own k) ∈ row := fun k hk => by
    show row.getD k 0 ∈ row
    rw [List.getD_eq_getElem?_getD, List.getElem?_eq_getElem hk]
    exact List.getElem_mem hk
  have inj : ∀ i j, i < row.length → j < row.length → syF row (.own i) = syF row (.own j) → i = j := fun i j hi hj e => by
    have e : row.getD i 0 = row.getD j 0 := e
    rw [List.getD_eq_getElem?_getD, List.getD_eq_getElem?_getD, List.getElem?_eq_getElem hi, List.getElem?_eq_getElem hj] at e
    exact (List.getElem_inj nd).mp e
  rcases lgo_mem ks _ x hx with z | ⟨a, ha, rfl⟩
  · obtain ⟨i, hi, rfl⟩ := syRow_mem z
    rcases lgo_mem ls _ y hy with z | ⟨b, hb, rfl⟩
    · obtain ⟨j, hj, rfl⟩ := syRow_mem z
      rw [inj i j hi hj e]
    · exact absurd (List.mem_append_right _ hb) (np b (by have := own i hi; rw [e] at this; exact this))
  · rcases lgo_mem ls _ y hy with z | ⟨b, hb, rfl⟩
    · obtain ⟨j, hj, rfl⟩ := syRow_mem z
      exact absurd (List.mem_append_left _ ha) (np a (by have := own j hj; rw [← e] at this; exact this))
    · exact congrArg Sy.of e
end KT
set_option Elab.async false
set_option linter.all false
set_option maxRecDepth 100000
set_option maxHeartbeats 4000000
namespace KT
open PySem PySem.Spec PyProof.Rows L2 GxR
variable [GT]
/-! ### pages -/
def rowsV (ls : List Ln) : List V := ls.map fun l => V.str (S l)
theorem rowsV_len (ls : List Ln) : (rowsV ls).length = ls.length := by simp [rowsV]
theorem rowsV_app (a b : List Ln) : rowsV a ++ rowsV b = rowsV (a ++ b) := by simp [rowsV]
theorem rows_at {ls : List Ln} {n : Nat} {i : Int} (e : i = (n : Int)) (h : n < ls.length) : atI (rowsV ls) i = some (V.str (S (ls.getD n []))) := by
  refine at_of e ?_
  unfold rowsV
  rw [List.getElem?_map, List.getElem?_eq_getElem h, List.getD_eq_getElem?_getD, List.getElem?_eq_getElem h]
  rfl
def pageF (t : Addr) (g : Pg) : List (Str × V) := [("rows", .ref t), ("row", .int g.row), ("column", .int g.col), ("clipped", .str (S g.clip))]
def PageAt (K : PySem.W.Frag) (H : Hp) (p : Addr) (g : Pg) : Prop := ∃ dx t, H p = some (.ins (He.ga K "Page") dx (pageF t g)) ∧ SqT K H t (rowsV g.rows)
theorem pageF_rows (t : Addr) (g : Pg) : (pageF t g).lookup ("rows" : Str) = some (.ref t) := by kernel_rfl
theorem pageF_row (t : Addr) (g : Pg) : (pageF t g).lookup ("row" : Str) = some (.int g.row) := by kernel_rfl
theorem pageF_column (t : Addr) (g : Pg) : (pageF t g).lookup ("column" : Str) = some (.int g.col) := by kernel_rfl
theorem pageF_clipped (t : Addr) (g : Pg) : (pageF t g).lookup ("clipped" : Str) = some (.str (S g.clip)) := by kernel_rfl
theorem pageF_put (t : Addr) (a b : Int) (c : Str) : putF "clipped" (.str c) (putF "column" (.int b) (putF "row" (.int a) (putF "rows" (.ref t) []))) = ([("rows", V.ref t), ("row", V.int a), ("column", V.int b), ("clipped", V.str c)] : List (Str × V)) := by kernel_rfl
theorem Kq.page {K : PySem.W.Frag} {H H1 : Hp} (a : Kq [] H H1) {p : Addr} {g : Pg} (h : PageAt K H p g) : PageAt K H1 p g := by
  obtain ⟨dx, t, h1, h2⟩ := h
  exact ⟨dx, t, a.get h1, a.tup h2⟩
theorem iteD {c : Prop} [Decidable c] {A B : Prop} (h1 : c → A) (h2 : ¬ c → B) : if decide c = true then A else B := by
  by_cases h : c
  · rw [if_pos (decide_eq_true h)]; exact h1 h
  · rw [if_neg (by simp [h])]; exact h2 h
theorem iteN {c : Prop} [Decidable c] {A B : Prop} (h1 : ¬ c → A) (h2 : c → B) : if (!decide c) = true then A else B := by
  by_cases h : c
  · rw [if_neg (by simp [h])]; exact h2 h
  · rw [if_pos (by simp [h])]; exact h1 h
/-! ### texts cut -/
theorem line16 {n : Nat} (h : n ≤ 1000000) : n ≤ sizeLine := Nat.le_trans h (by rw [sizeLine_eq]; decide)
theorem take_min {α : Type} (l : List α) (n : Nat) : l.take (min n l.length) = l.take n := by
  by_cases h : n ≤ l.length
  · rw [Nat.min_eq_left h]
  · rw [Nat.min_eq_right (by omega), List.take_of_length_le (by omega), List.take_of_length_le (by omega)]
theorem cut_to (l : Ln) {i : Int} {n : Nat} (e : i = (n : Int)) : cutS (S l) none (some i) = S (l.take n) := by
  subst e
  unfold cutS
  rw [HT.sIx_none, HT.sIx_nat, S_len]
  simp only [List.drop_zero, Nat.sub_zero]
  rw [take_min]
theorem cut_from (l : Ln) {i : Int} {n : Nat} (e : i = (n : Int)) : cutS (S l) (some i) none = S (l.drop n) := by
  subst e
  unfold cutS
  rw [HT.sIx_none, HT.sIx_nat, S_len]
  congr 2
  by_cases h : n ≤ l.length
  · rw [Nat.min_eq_left h]
    exact List.take_of_length_le (by simp)
  · rw [Nat.min_eq_right (by omega)]
    rw [List.drop_eq_nil_of_le (by omega : l.length ≤ n)]
    simp
theorem cut_mid (l : Ln) {i j : Int} {a b : Nat} (ea : i = (a : Int)) (eb : j = (b : Int)) : cutS (S l) (some i) (some j) = S ((l.drop a).take (b - a)) := by
  subst ea eb
  unfold cutS
  have el : (S l).cps.toList = l := by simp
  rw [el]
  rw [HT.sIx_nat, HT.sIx_nat, S_len]
  congr 2
  by_cases h : a ≤ l.length
  · rw [Nat.min_eq_left h]
    by_cases hb : b ≤ l.length
    · rw [Nat.min_eq_left hb]
    · rw [Nat.min_eq_right (by omega)]
      rw [List.take_of_length_le (by rw [List.length_drop]; omega), List.take_of_length_le (by rw [List.length_drop]; omega)]
  · rw [Nat.min_eq_right (by omega : l.length ≤ a), List.drop_eq_nil_of_le (by omega : l.length ≤ a)]
    simp
theorem cutV_to {ls : List Ln} {i : Int} {n : Nat} (e : i = (n : Int)) : cutV (rowsV ls) none (some i) = rowsV (ls.take n) := by
  subst e
  unfold cutV rowsV
  rw [HT.sIx_none, HT.sIx_nat, List.length_map]
  simp only [List.drop_zero, Nat.sub_zero]
  have h := take_min ls n
  rw [← List.map_take, h]
theorem cutV_from {ls : List Ln} {i : Int} {n : Nat} (e : i = (n : Int)) : cutV (rowsV ls) (some i) none = rowsV (ls.drop n) := by
  subst e
  unfold cutV rowsV
  rw [HT.sIx_none, HT.sIx_nat, List.length_map, ← List.map_drop, ← List.map_take]
  congr 1
  by_cases h : n ≤ ls.length
  · rw [Nat.min_eq_left h]
    exact List.take_of_length_le (by simp)
  · rw [Nat.min_eq_right (by omega), List.drop_eq_nil_of_le (by omega : ls.length ≤ n)]
    simp
section
variable {P : Program} {w : World} {K : PySem.W.Frag} {mg : Str → Option Value} {base : Heap}
theorem rd_rows (T : Tx w K mg) {H : Hp} {p : Addr} {g : Pg} (hP : PageAt K H p g) {Q : V → Prop} (h : ∀ t, SqT K H t (rowsV g.rows) → Q (.ref t)) :
    ∃ a C dx fs v, V.ref p = .ref a ∧ H a = some (.ins C dx fs) ∧ Cls K C ∧ NoAttr K C "rows" ∧ fs.lookup ("rows" : Str) = some v ∧ Q v := by
  obtain ⟨dx, t, h1, h2⟩ := hP
  exact ⟨p, _, dx, _, _, rfl, h1, T.c_Page, T.a_Page_rows, pageF_rows _ _, h t h2⟩
theorem rd_row (T : Tx w K mg) {H : Hp} {p : Addr} {g : Pg} (hP : PageAt K H p g) {Q : V → Prop} (h : Q (.int g.row)) :
    ∃ a C dx fs v, V.ref p = .ref a ∧ H a = some (.ins C dx fs) ∧ Cls K C ∧ NoAttr K C "row" ∧ fs.lookup ("row" : Str) = some v ∧ Q v := by
  obtain ⟨dx, t, h1, h2⟩ := hP
  exact ⟨p, _, dx, _, _, rfl, h1, T.c_Page, T.a_Page_row, pageF_row _ _, h⟩
theorem rd_col (T : Tx w K mg) {H : Hp} {p : Addr} {g : Pg} (hP : PageAt K H p g) {Q : V → Prop} (h : Q (.int g.col)) :
    ∃ a C dx fs v, V.ref p = .ref a ∧ H a = some (.ins C dx fs) ∧ Cls K C ∧ NoAttr K C "column" ∧ fs.lookup ("column" : Str) = some v ∧ Q v := by
  obtain ⟨dx, t, h1, h2⟩ := hP
  exact ⟨p, _, dx, _, _, rfl, h1, T.c_Page, T.a_Page_column, pageF_column _ _, h⟩
theorem rd_clip (T : Tx w K mg) {H : Hp} {p : Addr} {g : Pg} (hP : PageAt K H p g) {Q : V → Prop} (h : Q (.str (S g.clip))) :
    ∃ a C dx fs v, V.ref p = .ref a ∧ H a = some (.ins C dx fs) ∧ Cls K C ∧ NoAttr K C "clipped" ∧ fs.lookup ("clipped" : Str) = some v ∧ Q v := by
  obtain ⟨dx, t, h1, h2⟩ := hP
  exact ⟨p, _, dx, _, _, rfl, h1, T.c_Page, T.a_Page_clipped, pageF_clipped _ _, h⟩
/-- Page.__init__ -/
def sp_Page___init__ (K : PySem.W.Frag) : Sp := fun vs H Q _ => ∃ (x dx t : Addr) (a b : Int) (c : Str), vs = [.ref x, .ref t, .int a, .int b, .str c] ∧ H x = some (.ins (He.ga K "Page") dx []) ∧
  Q .non (upd (upd (upd (upd H x (.ins (He.ga K "Page") dx (putF "rows" (.ref t) []))) x (.ins (He.ga K "Page") dx (putF "row" (.int a) (putF "rows" (.ref t) [])))) x
    (.ins (He.ga K "Page") dx (putF "column" (.int b) (putF "row" (.int a) (putF "rows" (.ref t) []))))) x (.ins (He.ga K "Page") dx (putF "clipped" (.str c) (putF "column" (.int b) (putF "row" (.int a) (putF "rows" (.ref t) []))))))
theorem sc_Page___init__ : FnScope ["self", "rows", "row", "column", "clipped"] ["self", "rows", "row", "column", "clipped"] (defScope s_Page___init__) := ⟨rfl, rfl, rfl, by decide +kernel, rfl, by decide +kernel, by decide +kernel⟩
theorem ok_Page___init__ (T : Tx w K mg) : Fk P w K mg base 1 (Ad K d_Page___init__.at_) ["self", "rows", "row", "column", "clipped"] (sp_Page___init__ K) := by
  refine mkF T.f_Page___init__ sc_Page___init__ rfl (fun _ _ _ _ _ _ us hl => match us, hl with | [_, _, _, _, _], _ => rfl) (fun vs H Q E h => by obtain ⟨_, _, _, _, _, _, rfl, _⟩ := h; rfl) (fun cdv A outer s H vs Q E hcd hcode hr h => ?_)
  refine ⟨_, (pss_cons (ps_fld (pv 0) (pv 1) rfl)
      (pss_cons (ps_fld (pv 0) (pv 2) rfl)
      (pss_cons (ps_fld (pv 0) (pv 3) rfl)
      (pss_one (ps_fld (pv 0) (pv 4) rfl))))), ?_⟩
  obtain ⟨x, dx, t, a, b, c, rfl, hx, k⟩ := h
  refine ⟨_, rfl, _, rfl, x, _, dx, _, rfl, hx, T.c_Page, T.a_Page_rows, (by show 0 < 1000; decide), ?_⟩
  refine ⟨_, rfl, _, rfl, x, _, dx, _, rfl, upd_same, T.c_Page, T.a_Page_row, (by show 1 < 1000; decide), ?_⟩
  refine ⟨_, rfl, _, rfl, x, _, dx, _, rfl, upd_same, T.c_Page, T.a_Page_column, (by show 2 < 1000; decide), ?_⟩
  refine ⟨_, rfl, _, rfl, x, _, dx, _, rfl, upd_same, T.c_Page, T.a_Page_clipped, (by show 3 < 1000; decide), ?_⟩
  exact k
/-- Page(rows, row, column, clipped) -/
def sp_Page (K : PySem.W.Frag) : Sp := fun vs H Q _ => ∃ (t : Addr) (i j : Int) (c : Str) (g : Pg), vs = [.ref t, .int i, .int j, .str c] ∧ i = g.row ∧ j = g.col ∧ c = S g.clip ∧ SqT K H t (rowsV g.rows) ∧
  ∀ q H', Kq [] H H' → PageAt K H' q g → Q (.ref q) H'
/-- a new instance -/
theorem Kq.made {S : List Addr} {H : Hp} {x dx C : Addr} {fs : List (Str × V)} (hx : H x = none) (hd : H dx = none) (ne : dx ≠ x) : Kq S H (upd (upd H dx (.own x)) x (.ins C dx fs)) :=
  (Kq.alloc hd).trans (Kq.alloc (by rw [upd_ne (Ne.symm ne)]; exact hx))
theorem new_Page {E : XK} : ∀ vs H Q, sp_Page K vs H Q E → ∀ x dx, H x = none → H dx = none → dx ≠ x →
    sp_Page___init__ K (.ref x :: vs) (upd (upd H dx (.own x)) x (.ins (He.ga K "Page") dx [])) (fun v H2 => v = .non ∧ Q (.ref x) H2) E := by
  rintro vs H Q ⟨t, i, j, c, g, rfl, rfl, rfl, rfl, ht, k⟩ x dx nx ndx ne
  refine ⟨x, dx, t, _, _, _, rfl, upd_same, rfl, ?_⟩
  rw [upd_upd, upd_upd, upd_upd, upd_upd, pageF_put]
  have kk : Kq [] H (upd (upd H dx (.own x)) x (.ins (He.ga K "Page") dx (pageF t g))) := Kq.made nx ndx ne
  exact k x _ kk ⟨dx, t, upd_same, kk.tup ht⟩
def sp_line_at (K : PySem.W.Frag) : Sp := fun vs H Q _ => ∃ p g, vs = [.ref p] ∧ PageAt K H p g ∧ g.row < g.rows.length ∧ Q (.str (S g.line)) H
theorem sc_line_at : FnScope ["page"] ["page"] (defScope s_line_at) := ⟨rfl, rfl, rfl, by decide +kernel, rfl, by decide +kernel, by decide +kernel⟩
theorem ok_line_at (T : Tx w K mg) : Fk P w K mg base 1 (Ad K d_line_at.at_) ["page"] (sp_line_at K) := by
  refine mkF T.f_line_at sc_line_at rfl (fun _ _ _ _ _ _ us hl => match us, hl with | [_], _ => rfl) (fun vs H Q E h => by obtain ⟨_, _, rfl, _⟩ := h; rfl) (fun cdv A outer s H vs Q E hcd hcode hr h => ?_)
  refine ⟨_, (pss_one (ps_ret (pe_ix ix_tup (pe_fld (pv 0) rfl) (pe_fld (pv 0) rfl) (fun _ _ => rfl)))), ?_⟩
  obtain ⟨p, g, rfl, hP, hr', k⟩ := h
  refine ⟨_, rfl, rd_rows T hP fun t ht => ⟨_, rfl, rd_row T hP ?_⟩⟩
  exact ⟨t, _, _, _, rfl, rfl, ht, rows_at rfl hr', k⟩
def sp_moved (K : PySem.W.Frag) : Sp := fun vs H Q _ => ∃ p g i j, ∃ r c : Nat, vs = [.ref p, .int i, .int j] ∧ i = (r : Int) ∧ j = (c : Int) ∧ PageAt K H p g ∧ ∀ q H', Kq [] H H' → PageAt K H' q (g.at_ r c) → Q (.ref q) H'
theorem sc_moved : FnScope ["page", "row", "column"] ["page", "row", "column"] (defScope s_moved) := ⟨rfl, rfl, rfl, by decide +kernel, rfl, by decide +kernel, by decide +kernel⟩
theorem ok_moved (T : Tx w K mg) : Fk P w K mg base 3 (Ad K d_moved.at_) ["page", "row", "column"] (sp_moved K) := by
  have F_Page___init__ := ok_Page___init__ (P := P) (base := base) T
  refine mkF T.f_moved sc_moved rfl (fun _ _ _ _ _ _ us hl => match us, hl with | [_, _, _], _ => rfl) (fun vs H Q E h => by obtain ⟨_, _, _, _, _, _, rfl, _⟩ := h; rfl) (fun cdv A outer s H vs Q E hcd hcode hr h => ?_)
  refine ⟨_, (pss_one (ps_ret (pe_kF (spN := sp_Page K) T.k_Page F_Page___init__ (hr.mono (by decide)) T.g_Page px new_Page (pa_cons (pe_fld (pv 0) rfl) (pa_cons (pv 1) (pa_cons (pv 2) (pa_cons (pe_fld (pv 0) rfl) pa_nil))))))), ?_⟩
  obtain ⟨p, g, i, j, r, c, rfl, rfl, rfl, hP, k⟩ := h
  refine ⟨_, rfl, rd_rows T hP fun t ht => ⟨_, rfl, _, rfl, _, rfl, rd_clip T hP ?_⟩⟩
  exact ⟨t, _, _, _, g.at_ r c, rfl, rfl, rfl, rfl, ht, k⟩
def sp_with_lines (K : PySem.W.Frag) : Sp := fun vs H Q _ => ∃ p g i m l ls, ∃ f n : Nat, vs = [.ref p, .int i, .int m, .ref l] ∧ i = (f : Int) ∧ m = (n : Int) ∧ PageAt K H p g ∧ SqT K H l (rowsV ls) ∧ f < g.rows.length ∧ 1 ≤ n ∧ g.rows.length ≤ 12 ∧ ls.length ≤ 2 ∧ ls ≠ [] ∧
  ∀ q H', Kq [] H H' → SqT K H' q (rowsV (g.others f n ls)) → Q (.ref q) H'
theorem rowsV_ne {ls : List Ln} (h : ls ≠ []) : rowsV ls ≠ [] := by
  intro e
  apply h
  have := congrArg List.length e
  rw [rowsV_len] at this
  exact List.length_eq_zero_iff.mp this
theorem rowsV_nil {ls : List Ln} (h : rowsV ls = []) : ls = [] := by
  have := congrArg List.length h
  rw [rowsV_len] at this
  exact List.length_eq_zero_iff.mp this
theorem sc_with_lines : FnScope ["page", "first", "many", "lines"] ["page", "first", "many", "lines"] (defScope s_with_lines) := ⟨rfl, rfl, rfl, by decide +kernel, rfl, by decide +kernel, by decide +kernel⟩
theorem ok_with_lines (T : Tx w K mg) : Fk P w K mg base 1 (Ad K d_with_lines.at_) ["page", "first", "many", "lines"] (sp_with_lines K) := by
  refine mkF T.f_with_lines sc_with_lines rfl (fun _ _ _ _ _ _ us hl => match us, hl with | [_, _, _, _], _ => rfl) (fun vs H Q E h => by obtain ⟨_, _, _, _, _, _, _, _, rfl, _⟩ := h; rfl) (fun cdv A outer s H vs Q E hcd hcode hr h => ?_)
  refine ⟨_, (pss_one (ps_ret (pe_op op_catU (pe_op op_catU (pe_slice sl_tupU (pe_fld (pv 0) rfl) po_none (po_some (pv 1))) (pv 3)) (pe_slice sl_tupU (pe_fld (pv 0) rfl) (po_some (pe_op op_add (pv 1) (pv 2))) po_none)))), ?_⟩
  obtain ⟨p, g, i, m, l, ls, f, n, rfl, rfl, rfl, hP, hl, hf, hn, h12, h2, hne, k⟩ := h
  refine ⟨_, rfl, rd_rows T hP fun t ht => ⟨_, rfl, _, rfl, t, _, rfl, ht, fun p1 H1 k1 a1 => ?_⟩⟩
  rw [cutV_to rfl] at a1
  refine ⟨_, rfl, p1, l, _, _, rfl, rfl, a1, k1.tup hl, ?_, fun p2 H2 k2 a2 => ?_⟩
  · rw [rowsV_len, rowsV_len, List.length_take]; exact line16 (by omega)
  rw [rowsV_app] at a2
  have k12 := k1.trans k2
  refine ⟨_, rfl, rd_rows T (k12.page hP) fun t ht => ⟨_, rfl, _, rfl, _, _, rfl, rfl, _, rfl, t, _, rfl, ht, fun p3 H3 k3 a3 => ?_⟩⟩
  rw [cutV_from (n := f + n) (by omega)] at a3
  refine ⟨p2, p3, _, _, rfl, rfl, k3.tup a2, a3, ?_, fun q H4 k4 a4 => ?_⟩
  · rw [rowsV_len, rowsV_len, List.length_append, List.length_take, List.length_drop]; exact line16 (by omega)
  rw [rowsV_app] at a4
  exact k q H4 ((k12.trans k3).trans k4) a4
end
end KT
set_option Elab.async false
set_option linter.all false
set_option maxRecDepth 100000
set_option maxHeartbeats 4000000
namespace KT
open PySem PySem.Spec PyProof.Rows L2 GxR
variable [GT]
theorem Pg.Ok.line60 {g : Pg} (ok : g.Ok) : g.line.length ≤ 60 := by
  unfold Pg.line
  rw [List.getD_eq_getElem?_getD, List.getElem?_eq_getElem ok.row]
  exact ok.long _ (List.getElem_mem _)
theorem Pg.Ok.row60 {g : Pg} (ok : g.Ok) {i : Nat} (h : i < g.rows.length) : (g.rows.getD i []).length ≤ 60 := by
  rw [List.getD_eq_getElem?_getD, List.getElem?_eq_getElem h]
  exact ok.long _ (List.getElem_mem _)
theorem S16 {l : Ln} (h : l.length ≤ 1000) : (S l).length ≤ sizeLine := line16 (by rw [S_len]; omega)
/-- an action of no further argument -/
def spAct (K : PySem.W.Frag) (f : Pg → Option Pg) : Sp := fun vs H Q _ => ∃ p g, vs = [.ref p] ∧ PageAt K H p g ∧ g.Ok ∧ (∀ H', Kq [] H H' → f g = none → Q .non H') ∧ ∀ q H' g', Kq [] H H' → f g = some g' → PageAt K H' q g' → Q (.ref q) H'
/-- .. of a text -/
def spActS (K : PySem.W.Frag) (f : Ln → Pg → Option Pg) : Sp := fun vs H Q _ => ∃ p g s, vs = [.ref p, .str (S s)] ∧ PageAt K H p g ∧ g.Ok ∧ s.length ≤ 60 ∧ (∀ H', Kq [] H H' → f s g = none → Q .non H') ∧ ∀ q H' g', Kq [] H H' → f s g = some g' → PageAt K H' q g' → Q (.ref q) H'
section
variable {P : Program} {w : World} {K : PySem.W.Frag} {mg : Str → Option Value} {base : Heap}
theorem sc_write : FnScope ["page", "signs", "line", "written", "rows"] ["page", "signs"] (defScope s_write) := ⟨rfl, rfl, rfl, by decide +kernel, rfl, by decide +kernel, by decide +kernel⟩
theorem ok_write (T : Tx w K mg) : Fk P w K mg base 3 (Ad K d_write.at_) ["page", "signs"] (spActS K Pg.write) := by
  obtain ⟨t_MOST_SIGNS, h_MOST_SIGNS⟩ := T.i_MOST_SIGNS
  have F_Page___init__ := ok_Page___init__ (P := P) (base := base) T
  have F_line_at := ok_line_at (P := P) (base := base) T
  have F_with_lines := ok_with_lines (P := P) (base := base) T
  refine mkF T.f_write sc_write rfl (fun _ _ _ _ _ _ us hl => match us, hl with | [_, _], _ => rfl) (fun vs H Q E h => by obtain ⟨_, _, _, rfl, _⟩ := h; rfl) (fun cdv A outer s H vs Q E hcd hcode hr h => ?_)
  refine ⟨_, (pss_cons (ps_asg (pe_cF F_line_at (hr.mono (by decide)) T.g_line_at px (pa_cons (pv 0) pa_nil)) (pg_name (i := 2) sc_write.nd rfl (.inl rfl)))
      (pss_cons (ps_if (pt_cmpR op_gt (pe_op op_add (pe_callB call_len_str (by rfl) T.n_len (by decide +kernel) (pa_cons (pv 2) pa_nil)) (pe_callB call_len_str (by rfl) T.n_len (by decide +kernel) (pa_cons (pv 1) pa_nil))) (pe_glob (v := .int 60) (by rfl) h_MOST_SIGNS ⟨_, rfl⟩) (nomark _)) (pss_one (ps_ret pe_non)) pss_nil)
      (pss_cons (ps_asg (pe_op op_add_str (pe_op op_add_str (pe_slice sl_str (pv 2) po_none (po_some (pe_fld (pv 0) rfl))) (pv 1)) (pe_slice sl_str (pv 2) (po_some (pe_fld (pv 0) rfl)) po_none)) (pg_name (i := 3) sc_write.nd rfl (.inl rfl)))
      (pss_cons (ps_asg (pe_cF F_with_lines (hr.mono (by decide)) T.g_with_lines px (pa_cons (pv 0) (pa_cons (pe_fld (pv 0) rfl) (pa_cons pe_int (pa_cons (pe_tup (pa_cons (pv 3) pa_nil)) pa_nil))))) (pg_name (i := 4) sc_write.nd rfl (.inl rfl)))
      (pss_one (ps_ret (pe_kF (spN := sp_Page K) T.k_Page F_Page___init__ (hr.mono (by decide)) T.g_Page px new_Page (pa_cons (pv 4) (pa_cons (pe_fld (pv 0) rfl) (pa_cons (pe_op op_add (pe_fld (pv 0) rfl) (pe_callB call_len_str (by rfl) T.n_len (by decide +kernel) (pa_cons (pv 1) pa_nil))) (pa_cons (pe_fld (pv 0) rfl) pa_nil))))))))))), ?_⟩
  obtain ⟨p, g, ss, rfl, hP, ok, hs, kn, ks⟩ := h
  have h60 := ok.line60
  refine ⟨_, rfl, p, g, rfl, hP, ok.row, ?_⟩
  refine ⟨_, rfl, _, rfl, S16 (by omega), _, rfl, _, rfl, S16 (by omega), _, _, rfl, rfl, _, _, rfl, rfl, _, rfl, ?_⟩
  refine iteD (fun h1 => ?_) (fun h1 => ?_)
  · rw [S_len, S_len] at h1
    exact kn H Kq.refl (by unfold Pg.write; rw [if_pos (by omega)])
  rw [S_len, S_len] at h1
  refine ⟨_, rfl, _, rfl, rd_col T hP ⟨_, rfl, _, rfl, S16 (by omega), ?_⟩⟩
  rw [cut_to g.line (n := g.col) rfl]
  refine ⟨_, rfl, _, _, rfl, rfl, line16 (by rw [S_len, S_len, List.length_take]; omega), ?_⟩
  rw [S_app]
  refine ⟨_, rfl, _, rfl, rd_col T hP ⟨_, rfl, _, rfl, S16 (by omega), ?_⟩⟩
  rw [cut_from g.line (n := g.col) rfl]
  refine ⟨_, _, rfl, rfl, line16 (by rw [S_len, S_len, List.length_append, List.length_take, List.length_drop]; omega), ?_⟩
  rw [S_app]
  refine ⟨_, rfl, _, rfl, rd_row T hP ⟨_, rfl, line16 (by show 1 ≤ 1000000; decide), fun tp ntp => ?_⟩⟩
  refine ⟨p, g, _, _, tp, [_], g.row, 1, rfl, rfl, rfl, (Kq.alloc ntp).page hP, SqT.of upd_same, ok.row, by decide, ok.many, (by show 1 ≤ 2; decide), by simp, fun q H2 k2 a2 => ?_⟩
  have k12 := (Kq.alloc (S := []) (o := .tup [V.str (S (g.line.take g.col ++ ss ++ g.line.drop g.col))]) ntp).trans k2
  have hP2 := k12.page hP
  refine ⟨_, rfl, _, rfl, rd_row T hP2 ⟨_, rfl, rd_col T hP2 ⟨_, rfl, _, rfl, S16 (by omega), _, _, rfl, rfl, _, rfl, rd_clip T hP2 ?_⟩⟩⟩
  refine ⟨q, _, _, _, { rows := g.others g.row 1 [g.line.take g.col ++ ss ++ g.line.drop g.col], row := g.row, col := g.col + ss.length, clip := g.clip }, rfl, rfl, by rw [S_len]; simp, rfl, a2, fun q3 H3 k3 a3 => ?_⟩
  exact ks q3 H3 _ (k12.trans k3) (by unfold Pg.write; rw [if_neg (by omega)]) a3
theorem sc_break_row : FnScope ["page", "line", "rows"] ["page"] (defScope s_break_row) := ⟨rfl, rfl, rfl, by decide +kernel, rfl, by decide +kernel, by decide +kernel⟩
theorem ok_break_row (T : Tx w K mg) : Fk P w K mg base 3 (Ad K d_break_row.at_) ["page"] (spAct K Pg.brk) := by
  obtain ⟨t_MOST_ROWS, h_MOST_ROWS⟩ := T.i_MOST_ROWS
  have F_Page___init__ := ok_Page___init__ (P := P) (base := base) T
  have F_line_at := ok_line_at (P := P) (base := base) T
  have F_with_lines := ok_with_lines (P := P) (base := base) T
  refine mkF T.f_break_row sc_break_row rfl (fun _ _ _ _ _ _ us hl => match us, hl with | [_], _ => rfl) (fun vs H Q E h => by obtain ⟨_, _, rfl, _⟩ := h; rfl) (fun cdv A outer s H vs Q E hcd hcode hr h => ?_)
  refine ⟨_, (pss_cons (ps_if (pt_cmpR op_ge (pe_callB call_len_seq (by rfl) T.n_len (by decide +kernel) (pa_cons (pe_fld (pv 0) rfl) pa_nil)) (pe_glob (v := .int 12) (by rfl) h_MOST_ROWS ⟨_, rfl⟩) (nomark _)) (pss_one (ps_ret pe_non)) pss_nil)
      (pss_cons (ps_asg (pe_cF F_line_at (hr.mono (by decide)) T.g_line_at px (pa_cons (pv 0) pa_nil)) (pg_name (i := 1) sc_break_row.nd rfl (.inl rfl)))
      (pss_cons (ps_asg (pe_cF F_with_lines (hr.mono (by decide)) T.g_with_lines px (pa_cons (pv 0) (pa_cons (pe_fld (pv 0) rfl) (pa_cons pe_int (pa_cons (pe_tup (pa_cons (pe_slice sl_str (pv 1) po_none (po_some (pe_fld (pv 0) rfl))) (pa_cons (pe_slice sl_str (pv 1) (po_some (pe_fld (pv 0) rfl)) po_none) pa_nil))) pa_nil))))) (pg_name (i := 2) sc_break_row.nd rfl (.inl rfl)))
      (pss_one (ps_ret (pe_kF (spN := sp_Page K) T.k_Page F_Page___init__ (hr.mono (by decide)) T.g_Page px new_Page (pa_cons (pv 2) (pa_cons (pe_op op_add (pe_fld (pv 0) rfl) pe_int) (pa_cons pe_int (pa_cons (pe_fld (pv 0) rfl) pa_nil)))))))))), ?_⟩
  obtain ⟨p, g, rfl, hP, ok, kn, ks⟩ := h
  have h60 := ok.line60
  refine ⟨_, rfl, rd_rows T hP fun t ht => ⟨t, _, rfl, .inr ht, _, _, rfl, rfl, _, rfl, ?_⟩⟩
  rw [rowsV_len]
  refine iteD (fun h1 => ?_) (fun h1 => ?_)
  · exact kn H Kq.refl (by unfold Pg.brk; rw [if_pos (by omega)])
  refine ⟨_, rfl, p, g, rfl, hP, ok.row, ?_⟩
  refine ⟨_, rfl, _, rfl, rd_row T hP ⟨_, rfl, _, rfl, rd_col T hP ⟨_, rfl, _, rfl, S16 (by omega), _, rfl, _, rfl, rd_col T hP ⟨_, rfl, _, rfl, S16 (by omega), line16 (by show 2 ≤ 1000000; decide), fun tp ntp => ?_⟩⟩⟩⟩
  rw [cut_to g.line (n := g.col) rfl, cut_from g.line (n := g.col) rfl]
  refine ⟨p, g, _, _, tp, [_, _], g.row, 1, rfl, rfl, rfl, (Kq.alloc ntp).page hP, SqT.of upd_same, ok.row, by decide, ok.many, (by show 2 ≤ 2; decide), by simp, fun q H2 k2 a2 => ?_⟩
  have k12 := (Kq.alloc (S := []) (o := .tup [V.str (S (g.line.take g.col)), V.str (S (g.line.drop g.col))]) ntp).trans k2
  have hP2 := k12.page hP
  refine ⟨_, rfl, _, rfl, rd_row T hP2 ⟨_, _, rfl, rfl, _, rfl, rd_clip T hP2 ?_⟩⟩
  refine ⟨q, _, _, _, { rows := g.others g.row 1 [g.line.take g.col, g.line.drop g.col], row := g.row + 1, col := 0, clip := g.clip }, rfl, by simp, by simp, rfl, a2, fun q3 H3 k3 a3 => ?_⟩
  exact ks q3 H3 _ (k12.trans k3) (by unfold Pg.brk; rw [if_neg (by omega)]) a3
theorem sc_join_row : FnScope ["page", "above", "joined", "rows"] ["page"] (defScope s_join_row) := ⟨rfl, rfl, rfl, by decide +kernel, rfl, by decide +kernel, by decide +kernel⟩
theorem ok_join_row (T : Tx w K mg) : Fk P w K mg base 3 (Ad K d_join_row.at_) ["page"] (spAct K Pg.join) := by
  obtain ⟨t_MOST_SIGNS, h_MOST_SIGNS⟩ := T.i_MOST_SIGNS
  have F_Page___init__ := ok_Page___init__ (P := P) (base := base) T
  have F_line_at := ok_line_at (P := P) (base := base) T
  have F_with_lines := ok_with_lines (P := P) (base := base) T
  refine mkF T.f_join_row sc_join_row rfl (fun _ _ _ _ _ _ us hl => match us, hl with | [_], _ => rfl) (fun vs H Q E h => by obtain ⟨_, _, rfl, _⟩ := h; rfl) (fun cdv A outer s H vs Q E hcd hcode hr h => ?_)
  refine ⟨_, (pss_cons (ps_if (pt_cmpR op_eq (pe_fld (pv 0) rfl) pe_int (nomark _)) (pss_one (ps_ret pe_non)) pss_nil)
      (pss_cons (ps_asg (pe_ix ix_tup (pe_fld (pv 0) rfl) (pe_op op_sub (pe_fld (pv 0) rfl) pe_int) (fun _ _ => rfl)) (pg_name (i := 1) sc_join_row.nd rfl (.inl rfl)))
      (pss_cons (ps_asg (pe_op op_add_str (pv 1) (pe_cF F_line_at (hr.mono (by decide)) T.g_line_at px (pa_cons (pv 0) pa_nil))) (pg_name (i := 2) sc_join_row.nd rfl (.inl rfl)))
      (pss_cons (ps_if (pt_cmpR op_gt (pe_callB call_len_str (by rfl) T.n_len (by decide +kernel) (pa_cons (pv 2) pa_nil)) (pe_glob (v := .int 60) (by rfl) h_MOST_SIGNS ⟨_, rfl⟩) (nomark _)) (pss_one (ps_ret pe_non)) pss_nil)
      (pss_cons (ps_asg (pe_cF F_with_lines (hr.mono (by decide)) T.g_with_lines px (pa_cons (pv 0) (pa_cons (pe_op op_sub (pe_fld (pv 0) rfl) pe_int) (pa_cons pe_int (pa_cons (pe_tup (pa_cons (pv 2) pa_nil)) pa_nil))))) (pg_name (i := 3) sc_join_row.nd rfl (.inl rfl)))
      (pss_one (ps_ret (pe_kF (spN := sp_Page K) T.k_Page F_Page___init__ (hr.mono (by decide)) T.g_Page px new_Page (pa_cons (pv 3) (pa_cons (pe_op op_sub (pe_fld (pv 0) rfl) pe_int) (pa_cons (pe_callB call_len_str (by rfl) T.n_len (by decide +kernel) (pa_cons (pv 1) pa_nil)) (pa_cons (pe_fld (pv 0) rfl) pa_nil)))))))))))), ?_⟩
  obtain ⟨p, g, rfl, hP, ok, kn, ks⟩ := h
  have h60 := ok.line60
  refine ⟨_, rfl, rd_row T hP ⟨rfl, _, rfl, ?_⟩⟩
  refine iteD (fun h1 => ?_) (fun h1 => ?_)
  · have h1 : g.row = 0 := by simpa using h1
    exact kn H Kq.refl (by unfold Pg.join; rw [if_pos h1])
  have h1 : ¬ g.row = 0 := by simpa using h1
  have hrow := ok.row
  have habove : (g.rows.getD (g.row - 1) []).length ≤ 60 := ok.row60 (by omega)
  refine ⟨_, rfl, rd_rows T hP fun t ht => ⟨_, rfl, rd_row T hP ⟨_, _, rfl, rfl, t, _, _, _, rfl, rfl, ht, rows_at (n := g.row - 1) (by omega) (by omega), ?_⟩⟩⟩
  refine ⟨_, rfl, _, rfl, p, g, rfl, hP, ok.row, _, _, rfl, rfl, line16 (by rw [S_len, S_len]; omega), ?_⟩
  rw [S_app]
  refine ⟨_, rfl, _, rfl, S16 (by rw [List.length_append]; omega), _, _, rfl, rfl, _, rfl, ?_⟩
  rw [S_len]
  refine iteD (fun h2 => ?_) (fun h2 => ?_)
  · exact kn H Kq.refl (by unfold Pg.join; rw [if_neg h1, if_pos (by omega)])
  refine ⟨_, rfl, _, rfl, rd_row T hP ⟨_, _, rfl, rfl, _, rfl, line16 (by show 1 ≤ 1000000; decide), fun tp ntp => ?_⟩⟩
  refine ⟨p, g, _, _, tp, [_], g.row - 1, 2, rfl, by omega, rfl, (Kq.alloc ntp).page hP, SqT.of upd_same, by omega, by decide, ok.many, (by show 1 ≤ 2; decide), by simp, fun q H2 k2 a2 => ?_⟩
  have k12 := (Kq.alloc (S := []) (o := .tup [V.str (S (g.rows.getD (g.row - 1) [] ++ g.line))]) ntp).trans k2
  have hP2 := k12.page hP
  refine ⟨_, rfl, _, rfl, rd_row T hP2 ⟨_, _, rfl, rfl, _, rfl, _, rfl, S16 (by omega), _, rfl, rd_clip T hP2 ?_⟩⟩
  refine ⟨q, _, _, _, { rows := g.others (g.row - 1) 2 [g.rows.getD (g.row - 1) [] ++ g.line], row := g.row - 1, col := (g.rows.getD (g.row - 1) []).length, clip := g.clip }, rfl, (by show (g.row : Int) - 1 = ((g.row - 1 : Nat) : Int); omega), by rw [S_len], rfl, a2, fun q3 H3 k3 a3 => ?_⟩
  exact ks q3 H3 _ (k12.trans k3) (by unfold Pg.join; rw [if_neg h1, if_neg (by omega)]) a3
theorem sc_rub : FnScope ["page", "line", "rubbed", "rows"] ["page"] (defScope s_rub) := ⟨rfl, rfl, rfl, by decide +kernel, rfl, by decide +kernel, by decide +kernel⟩
theorem ok_rub (T : Tx w K mg) : Fk P w K mg base 4 (Ad K d_rub.at_) ["page"] (spAct K Pg.rub) := by
  have F_Page___init__ := ok_Page___init__ (P := P) (base := base) T
  have F_join_row := ok_join_row (P := P) (base := base) T
  have F_line_at := ok_line_at (P := P) (base := base) T
  have F_with_lines := ok_with_lines (P := P) (base := base) T
  refine mkF T.f_rub sc_rub rfl (fun _ _ _ _ _ _ us hl => match us, hl with | [_], _ => rfl) (fun vs H Q E h => by obtain ⟨_, _, rfl, _⟩ := h; rfl) (fun cdv A outer s H vs Q E hcd hcode hr h => ?_)
  refine ⟨_, (pss_cons (ps_if (pt_cmpR op_eq (pe_fld (pv 0) rfl) pe_int (nomark _)) (pss_one (ps_ret (pe_cF F_join_row (hr.mono (by decide)) T.g_join_row px (pa_cons (pv 0) pa_nil)))) pss_nil)
      (pss_cons (ps_asg (pe_cF F_line_at (hr.mono (by decide)) T.g_line_at px (pa_cons (pv 0) pa_nil)) (pg_name (i := 1) sc_rub.nd rfl (.inl rfl)))
      (pss_cons (ps_asg (pe_op op_add_str (pe_slice sl_str (pv 1) po_none (po_some (pe_op op_sub (pe_fld (pv 0) rfl) pe_int))) (pe_slice sl_str (pv 1) (po_some (pe_fld (pv 0) rfl)) po_none)) (pg_name (i := 2) sc_rub.nd rfl (.inl rfl)))
      (pss_cons (ps_asg (pe_cF F_with_lines (hr.mono (by decide)) T.g_with_lines px (pa_cons (pv 0) (pa_cons (pe_fld (pv 0) rfl) (pa_cons pe_int (pa_cons (pe_tup (pa_cons (pv 2) pa_nil)) pa_nil))))) (pg_name (i := 3) sc_rub.nd rfl (.inl rfl)))
      (pss_one (ps_ret (pe_kF (spN := sp_Page K) T.k_Page F_Page___init__ (hr.mono (by decide)) T.g_Page px new_Page (pa_cons (pv 3) (pa_cons (pe_fld (pv 0) rfl) (pa_cons (pe_op op_sub (pe_fld (pv 0) rfl) pe_int) (pa_cons (pe_fld (pv 0) rfl) pa_nil))))))))))), ?_⟩
  obtain ⟨p, g, rfl, hP, ok, kn, ks⟩ := h
  have h60 := ok.line60
  refine ⟨_, rfl, rd_col T hP ⟨rfl, _, rfl, ?_⟩⟩
  refine iteD (fun h1 => ?_) (fun h1 => ?_)
  · have h1 : g.col = 0 := by simpa using h1
    have e : g.rub = g.join := by unfold Pg.rub; rw [if_pos h1]
    exact ⟨_, rfl, p, g, rfl, hP, ok, fun H' k' z => kn H' k' (e.trans z), fun q H' g' k' z => ks q H' g' k' (e.trans z)⟩
  have h1 : ¬ g.col = 0 := by simpa using h1
  have hc := ok.col
  refine ⟨_, rfl, p, g, rfl, hP, ok.row, ?_⟩
  refine ⟨_, rfl, _, rfl, rd_col T hP ⟨_, _, rfl, rfl, _, rfl, _, rfl, S16 (by omega), _, rfl, _, rfl, rd_col T hP ⟨_, rfl, _, rfl, S16 (by omega), ?_⟩⟩⟩
  rw [cut_to g.line (n := g.col - 1) (by omega), cut_from g.line (n := g.col) rfl]
  refine ⟨_, _, rfl, rfl, line16 (by rw [S_len, S_len, List.length_take, List.length_drop]; omega), ?_⟩
  rw [S_app]
  refine ⟨_, rfl, _, rfl, rd_row T hP ⟨_, rfl, line16 (by show 1 ≤ 1000000; decide), fun tp ntp => ?_⟩⟩
  refine ⟨p, g, _, _, tp, [_], g.row, 1, rfl, rfl, rfl, (Kq.alloc ntp).page hP, SqT.of upd_same, ok.row, by decide, ok.many, (by show 1 ≤ 2; decide), by simp, fun q H2 k2 a2 => ?_⟩
  have k12 := (Kq.alloc (S := []) (o := .tup [V.str (S (g.line.take (g.col - 1) ++ g.line.drop g.col))]) ntp).trans k2
  have hP2 := k12.page hP
  refine ⟨_, rfl, _, rfl, rd_row T hP2 ⟨_, rfl, rd_col T hP2 ⟨_, _, rfl, rfl, _, rfl, rd_clip T hP2 ?_⟩⟩⟩
  refine ⟨q, _, _, _, { rows := g.others g.row 1 [g.line.take (g.col - 1) ++ g.line.drop g.col], row := g.row, col := g.col - 1, clip := g.clip }, rfl, rfl, (by show (g.col : Int) - 1 = ((g.col - 1 : Nat) : Int); omega), rfl, a2, fun q3 H3 k3 a3 => ?_⟩
  exact ks q3 H3 _ (k12.trans k3) (by unfold Pg.rub; rw [if_neg h1]) a3
theorem sc_go_left : FnScope ["page"] ["page"] (defScope s_go_left) := ⟨rfl, rfl, rfl, by decide +kernel, rfl, by decide +kernel, by decide +kernel⟩
theorem ok_go_left (T : Tx w K mg) : Fk P w K mg base 4 (Ad K d_go_left.at_) ["page"] (spAct K Pg.left) := by
  have F_moved := ok_moved (P := P) (base := base) T
  refine mkF T.f_go_left sc_go_left rfl (fun _ _ _ _ _ _ us hl => match us, hl with | [_], _ => rfl) (fun vs H Q E h => by obtain ⟨_, _, rfl, _⟩ := h; rfl) (fun cdv A outer s H vs Q E hcd hcode hr h => ?_)
  refine ⟨_, (pss_cons (ps_if (pt_cmpR op_gt (pe_fld (pv 0) rfl) pe_int (nomark _)) (pss_one (ps_ret (pe_cF F_moved (hr.mono (by decide)) T.g_moved px (pa_cons (pv 0) (pa_cons (pe_fld (pv 0) rfl) (pa_cons (pe_op op_sub (pe_fld (pv 0) rfl) pe_int) pa_nil)))))) pss_nil)
      (pss_cons (ps_if (pt_cmpR op_eq (pe_fld (pv 0) rfl) pe_int (nomark _)) (pss_one (ps_ret pe_non)) pss_nil)
      (pss_one (ps_ret (pe_cF F_moved (hr.mono (by decide)) T.g_moved px (pa_cons (pv 0) (pa_cons (pe_op op_sub (pe_fld (pv 0) rfl) pe_int) (pa_cons (pe_callB call_len_str (by rfl) T.n_len (by decide +kernel) (pa_cons (pe_ix ix_tup (pe_fld (pv 0) rfl) (pe_op op_sub (pe_fld (pv 0) rfl) pe_int) (fun _ _ => rfl)) pa_nil)) pa_nil)))))))), ?_⟩
  obtain ⟨p, g, rfl, hP, ok, kn, ks⟩ := h
  have hrow := ok.row
  refine ⟨_, rfl, rd_col T hP ⟨_, _, rfl, rfl, _, rfl, ?_⟩⟩
  refine iteD (fun h1 => ?_) (fun h1 => ?_)
  · refine ⟨_, rfl, _, rfl, rd_row T hP ⟨_, rfl, rd_col T hP ⟨_, _, rfl, rfl, p, g, _, _, g.row, g.col - 1, rfl, rfl, by omega, hP, fun q H' k' a' => ?_⟩⟩⟩
    exact ks q H' _ k' (by unfold Pg.left; rw [if_pos (by omega)]) a'
  refine ⟨_, rfl, rd_row T hP ⟨rfl, _, rfl, ?_⟩⟩
  refine iteD (fun h2 => ?_) (fun h2 => ?_)
  · have h2 : g.row = 0 := by simpa using h2
    exact kn H Kq.refl (by unfold Pg.left; rw [if_neg (by omega), if_pos h2])
  have h2 : ¬ g.row = 0 := by simpa using h2
  refine ⟨_, rfl, _, rfl, rd_row T hP ⟨_, _, rfl, rfl, _, rfl, rd_rows T hP fun t ht => ⟨_, rfl, rd_row T hP ⟨_, _, rfl, rfl, t, _, _, _, rfl, rfl, ht, rows_at (n := g.row - 1) (by omega) (by omega), _, rfl, S16 (Nat.le_trans (ok.row60 (by omega)) (by decide)), ?_⟩⟩⟩⟩
  refine ⟨p, g, _, _, g.row - 1, (g.rows.getD (g.row - 1) []).length, rfl, by omega, by rw [S_len], hP, fun q H' k' a' => ?_⟩
  exact ks q H' _ k' (by unfold Pg.left; rw [if_neg (by omega), if_neg h2]) a'
theorem sc_go_right : FnScope ["page"] ["page"] (defScope s_go_right) := ⟨rfl, rfl, rfl, by decide +kernel, rfl, by decide +kernel, by decide +kernel⟩
theorem ok_go_right (T : Tx w K mg) : Fk P w K mg base 4 (Ad K d_go_right.at_) ["page"] (spAct K Pg.right) := by
  have F_line_at := ok_line_at (P := P) (base := base) T
  have F_moved := ok_moved (P := P) (base := base) T
  refine mkF T.f_go_right sc_go_right rfl (fun _ _ _ _ _ _ us hl => match us, hl with | [_], _ => rfl) (fun vs H Q E h => by obtain ⟨_, _, rfl, _⟩ := h; rfl) (fun cdv A outer s H vs Q E hcd hcode hr h => ?_)
  refine ⟨_, (pss_cons (ps_if (pt_cmpR op_lt (pe_fld (pv 0) rfl) (pe_callB call_len_str (by rfl) T.n_len (by decide +kernel) (pa_cons (pe_cF F_line_at (hr.mono (by decide)) T.g_line_at px (pa_cons (pv 0) pa_nil)) pa_nil)) (nomark _)) (pss_one (ps_ret (pe_cF F_moved (hr.mono (by decide)) T.g_moved px (pa_cons (pv 0) (pa_cons (pe_fld (pv 0) rfl) (pa_cons (pe_op op_add (pe_fld (pv 0) rfl) pe_int) pa_nil)))))) pss_nil)
      (pss_cons (ps_if (pt_cmpR op_eq (pe_op op_add (pe_fld (pv 0) rfl) pe_int) (pe_callB call_len_seq (by rfl) T.n_len (by decide +kernel) (pa_cons (pe_fld (pv 0) rfl) pa_nil)) (nomark _)) (pss_one (ps_ret pe_non)) pss_nil)
      (pss_one (ps_ret (pe_cF F_moved (hr.mono (by decide)) T.g_moved px (pa_cons (pv 0) (pa_cons (pe_op op_add (pe_fld (pv 0) rfl) pe_int) (pa_cons pe_int pa_nil)))))))), ?_⟩
  obtain ⟨p, g, rfl, hP, ok, kn, ks⟩ := h
  have hrow := ok.row
  have h60 := ok.line60
  refine ⟨_, rfl, rd_col T hP ⟨_, rfl, p, g, rfl, hP, hrow, _, rfl, S16 (by omega), _, _, rfl, rfl, _, rfl, ?_⟩⟩
  rw [S_len]
  refine iteD (fun h1 => ?_) (fun h1 => ?_)
  · refine ⟨_, rfl, _, rfl, rd_row T hP ⟨_, rfl, rd_col T hP ⟨_, _, rfl, rfl, p, g, _, _, g.row, g.col + 1, rfl, rfl, by omega, hP, fun q H' k' a' => ?_⟩⟩⟩
    exact ks q H' _ k' (by unfold Pg.right; rw [if_pos (by omega)]) a'
  refine ⟨_, rfl, rd_row T hP ⟨_, _, rfl, rfl, _, rfl, rd_rows T hP fun t ht => ⟨t, _, rfl, .inr ht, rfl, _, rfl, ?_⟩⟩⟩
  rw [rowsV_len]
  refine iteD (fun h2 => ?_) (fun h2 => ?_)
  · have h2 : (g.row : Int) + 1 = (g.rows.length : Int) := by simpa using h2
    exact kn H Kq.refl (by unfold Pg.right; rw [if_neg (by omega), if_pos (by omega)])
  have h2 : ¬ (g.row : Int) + 1 = (g.rows.length : Int) := by simpa using h2
  refine ⟨_, rfl, _, rfl, rd_row T hP ⟨_, _, rfl, rfl, p, g, _, _, g.row + 1, 0, rfl, by omega, rfl, hP, fun q H' k' a' => ?_⟩⟩
  exact ks q H' _ k' (by unfold Pg.right; rw [if_neg (by omega), if_neg (by omega)]) a'
def spToRow (K : PySem.W.Frag) : Sp := fun vs H Q _ => ∃ p g i, vs = [.ref p, .int i] ∧ PageAt K H p g ∧ g.Ok ∧ (∀ H', Kq [] H H' → Pg.toRow i g = none → Q .non H') ∧ ∀ q H' g', Kq [] H H' → Pg.toRow i g = some g' → PageAt K H' q g' → Q (.ref q) H'
theorem sc_go_to_row : FnScope ["page", "row"] ["page", "row"] (defScope s_go_to_row) := ⟨rfl, rfl, rfl, by decide +kernel, rfl, by decide +kernel, by decide +kernel⟩
theorem ok_go_to_row (T : Tx w K mg) : Fk P w K mg base 4 (Ad K d_go_to_row.at_) ["page", "row"] (spToRow K) := by
  have F_moved := ok_moved (P := P) (base := base) T
  refine mkF T.f_go_to_row sc_go_to_row rfl (fun _ _ _ _ _ _ us hl => match us, hl with | [_, _], _ => rfl) (fun vs H Q E h => by obtain ⟨_, _, _, rfl, _⟩ := h; rfl) (fun cdv A outer s H vs Q E hcd hcode hr h => ?_)
  refine ⟨_, (pss_cons (ps_if ((pw_or (pt_cmpR op_lt (pv 1) pe_int (nomark _)) (pw_or1 (pt_cmpR op_ge (pv 1) (pe_callB call_len_seq (by rfl) T.n_len (by decide +kernel) (pa_cons (pe_fld (pv 0) rfl) pa_nil)) (nomark _))))).pt (pss_one (ps_ret pe_non)) pss_nil)
      (pss_one (ps_ret (pe_cF F_moved (hr.mono (by decide)) T.g_moved px (pa_cons (pv 0) (pa_cons (pv 1) (pa_cons (pe_callB (call_min2 rfl) (by rfl) T.n_min (by decide +kernel) (pa_cons (pe_fld (pv 0) rfl) (pa_cons (pe_callB call_len_str (by rfl) T.n_len (by decide +kernel) (pa_cons (pe_ix ix_tup (pe_fld (pv 0) rfl) (pv 1) (fun _ _ => rfl)) pa_nil)) pa_nil))) pa_nil))))))), ?_⟩
  obtain ⟨p, g, i, rfl, hP, ok, kn, ks⟩ := h
  refine ⟨_, rfl, _, _, rfl, rfl, _, rfl, ?_⟩
  refine iteD (fun h1 => iteT ?_) (fun h1 => ?_)
  · exact kn H Kq.refl (by unfold Pg.toRow; rw [if_pos (Or.inl h1)])
  refine ⟨_, rfl, _, rfl, rd_rows T hP fun t ht => ⟨t, _, rfl, .inr ht, _, _, rfl, rfl, _, rfl, ?_⟩⟩
  rw [rowsV_len]
  refine iteD (fun h2 => ?_) (fun h2 => ?_)
  · exact kn H Kq.refl (by unfold Pg.toRow; rw [if_pos (Or.inr h2)])
  obtain ⟨n, rfl⟩ : ∃ n : Nat, i = (n : Int) := ⟨i.toNat, by omega⟩
  refine ⟨_, rfl, _, rfl, _, rfl, rd_col T hP ⟨_, rfl, rd_rows T hP fun t ht => ⟨_, rfl, t, _, _, _, rfl, rfl, ht, rows_at (n := n) rfl (by omega), _, rfl, S16 (Nat.le_trans (ok.row60 (by omega)) (by decide)), _, _, rfl, ?_⟩⟩⟩
  rw [S_len]
  refine ⟨p, g, _, _, n, min g.col (g.rows.getD n []).length, rfl, rfl, ?_, hP, fun q H' k' a' => ?_⟩
  · split <;> omega
  exact ks q H' _ k' (by unfold Pg.toRow; rw [if_neg (by omega)]; rfl) a'
theorem sc_go_up : FnScope ["page"] ["page"] (defScope s_go_up) := ⟨rfl, rfl, rfl, by decide +kernel, rfl, by decide +kernel, by decide +kernel⟩
theorem ok_go_up (T : Tx w K mg) : Fk P w K mg base 5 (Ad K d_go_up.at_) ["page"] (spAct K Pg.up) := by
  have F_go_to_row := ok_go_to_row (P := P) (base := base) T
  refine mkF T.f_go_up sc_go_up rfl (fun _ _ _ _ _ _ us hl => match us, hl with | [_], _ => rfl) (fun vs H Q E h => by obtain ⟨_, _, rfl, _⟩ := h; rfl) (fun cdv A outer s H vs Q E hcd hcode hr h => ?_)
  refine ⟨_, (pss_one (ps_ret (pe_cF F_go_to_row (hr.mono (by decide)) T.g_go_to_row px (pa_cons (pv 0) (pa_cons (pe_op op_sub (pe_fld (pv 0) rfl) pe_int) pa_nil))))), ?_⟩
  obtain ⟨p, g, rfl, hP, ok, kn, ks⟩ := h
  exact ⟨_, rfl, _, rfl, rd_row T hP ⟨_, _, rfl, rfl, p, g, _, rfl, hP, ok, fun H' k' z => kn H' k' z, fun q H' g' k' z => ks q H' g' k' z⟩⟩
theorem sc_go_down : FnScope ["page"] ["page"] (defScope s_go_down) := ⟨rfl, rfl, rfl, by decide +kernel, rfl, by decide +kernel, by decide +kernel⟩
theorem ok_go_down (T : Tx w K mg) : Fk P w K mg base 5 (Ad K d_go_down.at_) ["page"] (spAct K Pg.down) := by
  have F_go_to_row := ok_go_to_row (P := P) (base := base) T
  refine mkF T.f_go_down sc_go_down rfl (fun _ _ _ _ _ _ us hl => match us, hl with | [_], _ => rfl) (fun vs H Q E h => by obtain ⟨_, _, rfl, _⟩ := h; rfl) (fun cdv A outer s H vs Q E hcd hcode hr h => ?_)
  refine ⟨_, (pss_one (ps_ret (pe_cF F_go_to_row (hr.mono (by decide)) T.g_go_to_row px (pa_cons (pv 0) (pa_cons (pe_op op_add (pe_fld (pv 0) rfl) pe_int) pa_nil))))), ?_⟩
  obtain ⟨p, g, rfl, hP, ok, kn, ks⟩ := h
  exact ⟨_, rfl, _, rfl, rd_row T hP ⟨_, _, rfl, rfl, p, g, _, rfl, hP, ok, fun H' k' z => kn H' k' z, fun q H' g' k' z => ks q H' g' k' z⟩⟩
theorem sc_go_home : FnScope ["page"] ["page"] (defScope s_go_home) := ⟨rfl, rfl, rfl, by decide +kernel, rfl, by decide +kernel, by decide +kernel⟩
theorem ok_go_home (T : Tx w K mg) : Fk P w K mg base 4 (Ad K d_go_home.at_) ["page"] (spAct K Pg.home) := by
  have F_moved := ok_moved (P := P) (base := base) T
  refine mkF T.f_go_home sc_go_home rfl (fun _ _ _ _ _ _ us hl => match us, hl with | [_], _ => rfl) (fun vs H Q E h => by obtain ⟨_, _, rfl, _⟩ := h; rfl) (fun cdv A outer s H vs Q E hcd hcode hr h => ?_)
  refine ⟨_, (pss_one (ps_ret (pe_cF F_moved (hr.mono (by decide)) T.g_moved px (pa_cons (pv 0) (pa_cons (pe_fld (pv 0) rfl) (pa_cons pe_int pa_nil)))))), ?_⟩
  obtain ⟨p, g, rfl, hP, ok, kn, ks⟩ := h
  exact ⟨_, rfl, _, rfl, rd_row T hP ⟨p, g, _, _, g.row, 0, rfl, rfl, rfl, hP, fun q H' k' a' => ks q H' _ k' rfl a'⟩⟩
theorem sc_go_end : FnScope ["page"] ["page"] (defScope s_go_end) := ⟨rfl, rfl, rfl, by decide +kernel, rfl, by decide +kernel, by decide +kernel⟩
theorem ok_go_end (T : Tx w K mg) : Fk P w K mg base 4 (Ad K d_go_end.at_) ["page"] (spAct K Pg.end_) := by
  have F_line_at := ok_line_at (P := P) (base := base) T
  have F_moved := ok_moved (P := P) (base := base) T
  refine mkF T.f_go_end sc_go_end rfl (fun _ _ _ _ _ _ us hl => match us, hl with | [_], _ => rfl) (fun vs H Q E h => by obtain ⟨_, _, rfl, _⟩ := h; rfl) (fun cdv A outer s H vs Q E hcd hcode hr h => ?_)
  refine ⟨_, (pss_one (ps_ret (pe_cF F_moved (hr.mono (by decide)) T.g_moved px (pa_cons (pv 0) (pa_cons (pe_fld (pv 0) rfl) (pa_cons (pe_callB call_len_str (by rfl) T.n_len (by decide +kernel) (pa_cons (pe_cF F_line_at (hr.mono (by decide)) T.g_line_at px (pa_cons (pv 0) pa_nil)) pa_nil)) pa_nil)))))), ?_⟩
  obtain ⟨p, g, rfl, hP, ok, kn, ks⟩ := h
  have h60 := ok.line60
  exact ⟨_, rfl, _, rfl, rd_row T hP ⟨_, rfl, p, g, rfl, hP, ok.row, _, rfl, S16 (by omega), p, g, _, _, g.row, g.line.length, rfl, rfl, by rw [S_len], hP, fun q H' k' a' => ks q H' _ k' rfl a'⟩⟩
theorem sc_lay : FnScope ["page"] ["page"] (defScope s_lay) := ⟨rfl, rfl, rfl, by decide +kernel, rfl, by decide +kernel, by decide +kernel⟩
theorem ok_lay (T : Tx w K mg) : Fk P w K mg base 4 (Ad K d_lay.at_) ["page"] (spAct K Pg.lay) := by
  have F_write := ok_write (P := P) (base := base) T
  refine mkF T.f_lay sc_lay rfl (fun _ _ _ _ _ _ us hl => match us, hl with | [_], _ => rfl) (fun vs H Q E h => by obtain ⟨_, _, rfl, _⟩ := h; rfl) (fun cdv A outer s H vs Q E hcd hcode hr h => ?_)
  refine ⟨_, (pss_cons (ps_if (pt_cmpR op_eq (pe_fld (pv 0) rfl) pe_str (nomark _)) (pss_one (ps_ret pe_non)) pss_nil)
      (pss_one (ps_ret (pe_cF F_write (hr.mono (by decide)) T.g_write px (pa_cons (pv 0) (pa_cons (pe_fld (pv 0) rfl) pa_nil)))))), ?_⟩
  obtain ⟨p, g, rfl, hP, ok, kn, ks⟩ := h
  refine ⟨_, rfl, rd_clip T hP ⟨rfl, _, rfl, ?_⟩⟩
  refine iteD (fun h1 => ?_) (fun h1 => ?_)
  · have h1 : g.clip = [] := S_inj (V.str.inj h1)
    exact kn H Kq.refl (by unfold Pg.lay; rw [if_pos h1])
  have h1 : ¬ g.clip = [] := fun e => h1 (by rw [e]; rfl)
  have e : g.lay = g.write g.clip := by unfold Pg.lay; rw [if_neg h1]
  exact ⟨_, rfl, _, rfl, rd_clip T hP ⟨p, g, g.clip, rfl, hP, ok, ok.clip, fun H' k' z => kn H' k' (e.trans z), fun q H' g' k' z => ks q H' g' k' (e.trans z)⟩⟩
end
end KT
set_option Elab.async false
set_option linter.all false
set_option maxRecDepth 100000
set_option maxHeartbeats 4000000
namespace KT
open PySem PySem.Spec PyProof.Rows L2 GxR
variable [GT]
/-! ### the next place of a word -/
theorem stands_at (w l : Ln) (c : Nat) : StrLaws.At (S l) (S w) (S l).length c ↔ stands w l c = true := by
  unfold StrLaws.At stands
  rw [StrLaws.subAt_eq, S_len, S_len]
  have e1 : (S l).cps.toList = l := by simp
  have e2 : (S w).cps.toList = w := by simp
  rw [e1, e2]
  simp
theorem firstAt_none {w l : Ln} : ∀ {n c : Nat}, firstAt w l c n = none ↔ ∀ i, c ≤ i → i < c + n → stands w l i = false
  | 0, c => by simp [firstAt]; intro i h1 h2; omega
  | n + 1, c => by
    unfold firstAt
    by_cases h : stands w l c = true
    · rw [if_pos h]
      constructor
      · intro e; cases e
      · intro e; rw [e c (Nat.le_refl _) (by omega)] at h; cases h
    · rw [if_neg h, firstAt_none]
      constructor
      · intro e i h1 h2
        by_cases hi : i = c
        · subst hi; simpa using h
        · exact e i (by omega) (by omega)
      · intro e i h1 h2; exact e i (by omega) (by omega)
theorem firstAt_some {w l : Ln} {j : Nat} : ∀ {n c : Nat}, firstAt w l c n = some j ↔ c ≤ j ∧ j < c + n ∧ stands w l j = true ∧ ∀ i, c ≤ i → i < j → stands w l i = false
  | 0, c => by simp [firstAt]; intro h1 h2; omega
  | n + 1, c => by
    unfold firstAt
    by_cases h : stands w l c = true
    · rw [if_pos h]
      constructor
      · intro e; cases e; exact ⟨Nat.le_refl _, by omega, h, fun i h1 h2 => by omega⟩
      · rintro ⟨h1, h2, h3, h4⟩
        by_cases hj : c = j
        · rw [hj]
        · rw [h4 c (Nat.le_refl _) (by omega)] at h; cases h
    · rw [if_neg h, firstAt_some]
      constructor
      · rintro ⟨h1, h2, h3, h4⟩
        refine ⟨by omega, by omega, h3, fun i h5 h6 => ?_⟩
        by_cases hi : i = c
        · subst hi; simpa using h
        · exact h4 i (by omega) h6
      · rintro ⟨h1, h2, h3, h4⟩
        have : c ≠ j := fun e => by subst e; exact h h3
        exact ⟨by omega, by omega, h3, fun i h5 h6 => h4 i (by omega) h6⟩
theorem seek_cons (w l : Ln) (r : List Ln) (k c : Nat) : seek w (l :: r) k c = match findL w l c with | some j => some (k, j) | none => seek w r (k + 1) 0 := rfl
theorem find3_eq (l w : Ln) (c : Nat) : Txt.find3 (S l) (S w) (c : Int) = match findL w l c with | some j => (j : Int) | none => -1 := by
  unfold Txt.find3
  have ec : fromIndex (S l).length (c : Int) = c := by
    unfold fromIndex
    rw [if_neg (by omega)]
    omega
  rw [ec, StrLaws.occ_eq]
  rcases StrLaws.occ_first (S l) (S w) (S l).length 1 (Nat.le_refl _) (List.range' c ((S l).length + 1 - c)) c (fun i hi => by rw [List.mem_range'] at hi; obtain ⟨k, _, rfl⟩ := hi; omega) with ⟨h0, hn⟩ | ⟨pre, a, post, e, h0, ha, hn⟩
  · rw [h0]
    have : findL w l c = none := by
      unfold findL
      rw [firstAt_none]
      intro i h1 h2
      have := hn i (by rw [List.mem_range']; exact ⟨i - c, by rw [S_len]; omega, by omega⟩)
      rw [stands_at] at this
      simpa using this
    rw [this]
  · have hp : ∀ i, c ≤ i → i < a → i ∈ pre := by
      have hL : ((S l).length + 1 - c) = pre.length + (post.length + 1) := by
        have := congrArg List.length e
        simpa using this
      have hlen : c + pre.length = a := by
        have h1 : (List.range' c ((S l).length + 1 - c))[pre.length]? = some a := by rw [e]; simp
        rw [List.getElem?_range' (by omega)] at h1
        simpa using h1
      intro i h1 h2
      have h3 : (List.range' c ((S l).length + 1 - c))[i - c]? = pre[i - c]? := by rw [e, List.getElem?_append_left (by omega)]
      rw [List.getElem?_range' (by omega)] at h3
      have : pre[i - c]? = some i := by rw [← h3]; congr 1; omega
      exact List.mem_of_getElem? this
    have hmem : a ∈ List.range' c ((S l).length + 1 - c) := by rw [e]; simp
    rw [List.mem_range'] at hmem
    obtain ⟨k, hk, ea⟩ := hmem
    have : findL w l c = some a := by
      unfold findL
      rw [firstAt_some]
      refine ⟨by omega, by rw [S_len] at hk; omega, (stands_at w l a).mp ha, fun i h1 h2 => ?_⟩
      have := hn i (hp i h1 h2)
      rw [stands_at] at this
      simpa using this
    rw [this]
    generalize (forIn (List.range' c ((S l).length + 1 - c)) ((#[] : Array Nat), c) (StrLaws.occBody (S l) (S w) (S l).length 1)).run.fst = arr at h0
    have h1 : arr.toList[0]? = some a := by simpa using h0
    cases hL : arr.toList with
    | nil => rw [hL] at h1; cases h1
    | cons b r => rw [hL] at h1; cases h1; rfl
theorem one_lt (a b : Nat) : ([a] < [b]) ↔ a < b := by
  constructor
  · intro h
    cases h with
    | rel h => exact h
    | cons h => cases h
  · intro h
    exact List.Lex.rel h
theorem sign_lo (c : Nat) : ((⟨#[c]⟩ : Str).cps.toList < (Str.ofString "a").cps.toList) ↔ c < 97 := by
  rw [show (Str.ofString "a").cps.toList = [97] by decide +kernel]
  exact one_lt c 97
theorem sign_hi (c : Nat) : ((Str.ofString "z").cps.toList < (⟨#[c]⟩ : Str).cps.toList) ↔ 122 < c := by
  rw [show (Str.ofString "z").cps.toList = [122] by decide +kernel]
  exact one_lt 122 c
theorem takeWhile_len {α : Type} (q : α → Bool) (d : α) : ∀ (l : List α) (n : Nat), n ≤ l.length → (∀ i, i < n → q (l.getD i d) = true) → (n = l.length ∨ q (l.getD n d) = false) → (l.takeWhile q).length = n
  | [], n, h, _, _ => by simp at h; subst h; rfl
  | a :: r, 0, _, _, h2 => by
    rcases h2 with h2 | h2
    · simp at h2
    · have : q a = false := by simpa using h2
      rw [List.takeWhile_cons, this]; rfl
  | a :: r, n + 1, h, h1, h2 => by
    have ha : q a = true := by simpa using h1 0 (by omega)
    rw [List.takeWhile_cons, ha]
    show (r.takeWhile q).length + 1 = n + 1
    rw [takeWhile_len q d r n (by simpa using h) (fun i hi => by simpa using h1 (i + 1) (by omega)) (by simpa using h2)]
theorem lets_eq {l : Ln} {c e : Nat} (h : ∀ i, c ≤ i → i < e → isLet (l.getD i 0) = true) (h1 : c ≤ e) (h2 : e ≤ l.length) (h3 : e = l.length ∨ isLet (l.getD e 0) = false) : lets (l.drop c) = e - c := by
  unfold lets
  have g : ∀ i, (l.drop c).getD i 0 = l.getD (c + i) 0 := fun i => by rw [List.getD_eq_getElem?_getD, List.getElem?_drop, List.getD_eq_getElem?_getD]
  refine takeWhile_len isLet 0 (l.drop c) (e - c) (by rw [List.length_drop]; omega) (fun i hi => ?_) ?_
  · rw [g]; exact h _ (by omega) (by omega)
  · rw [g, List.length_drop, show c + (e - c) = e by omega]
    rcases h3 with h3 | h3
    · left; omega
    · right; exact h3
section
variable {P : Program} {w : World} {K : PySem.W.Frag} {mg : Str → Option Value} {base : Heap}
theorem sc_find_word : FnScope ["page", "word", "start", "row", "column"] ["page", "word"] (defScope s_find_word) := ⟨rfl, rfl, rfl, by decide +kernel, rfl, by decide +kernel, by decide +kernel⟩
theorem ok_find_word (T : Tx w K mg) : Fk P w K mg base 4 (Ad K d_find_word.at_) ["page", "word"] (spActS K Pg.find) := by
  have F_moved := ok_moved (P := P) (base := base) T
  refine mkF T.f_find_word sc_find_word rfl (fun _ _ _ _ _ _ us hl => match us, hl with | [_, _], _ => rfl) (fun vs H Q E h => by obtain ⟨_, _, _, rfl, _⟩ := h; rfl) (fun cdv A outer s H vs Q E hcd hcode hr h => ?_)
  have po : PassesOwn (model P w) (CxD P w K mg base ["page", "word", "start", "row", "column"] d_find_word cdv A outer s H E).A (CxD P w K mg base ["page", "word", "start", "row", "column"] d_find_word cdv A outer s H E).env (CxD P w K mg base ["page", "word", "start", "row", "column"] d_find_word cdv A outer s H E).xe := passes_of rfl
  refine ⟨_, (pss_cons (ps_asg (pe_op op_add (pe_fld (pv 0) rfl) pe_int) (pg_name (i := 2) sc_find_word.nd rfl (.inl rfl)))
      (pss_cons (ps_for po rfl (pi_range2 (by rfl) T.n_range (pa_cons (pe_fld (pv 0) rfl) (pa_cons (pe_callB call_len_seq (by rfl) T.n_len (by decide +kernel) (pa_cons (pe_fld (pv 0) rfl) pa_nil)) pa_nil))) (pg_name (i := 3) sc_find_word.nd rfl (.inl rfl)) (pss_cons (ps_asg (pe_bm PySem.F.plainAttrs_str PySem.F.slot_str_find PySem.F.type_str_find mt_find3 (pe_ix ix_tup (pe_fld (pv 0) rfl) (pv 3) (fun _ _ => rfl)) (pa_cons (pv 1) (pa_cons (pv 2) pa_nil))) (pg_name (i := 4) sc_find_word.nd rfl (.inl rfl)))
      (pss_cons (ps_if (pt_cmpR op_ge (pv 4) pe_int (nomark _)) (pss_one (ps_ret (pe_cF F_moved (hr.mono (by decide)) T.g_moved px (pa_cons (pv 0) (pa_cons (pv 3) (pa_cons (pv 4) pa_nil)))))) pss_nil)
      (pss_one (ps_asg pe_int (pg_name (i := 2) sc_find_word.nd rfl (.inl rfl)))))))
      (pss_one (ps_ret pe_non)))), ?_⟩
  obtain ⟨p, g, ws, rfl, hP, ok, hs, kn, ks⟩ := h
  have hrow := ok.row
  have hm := ok.many
  refine ⟨_, rfl, rd_col T hP ⟨_, _, rfl, rfl, ?_⟩⟩
  refine ⟨_, rfl, rd_row T hP ⟨_, rfl, rd_rows T hP fun t ht => ⟨t, _, rfl, .inr ht, (g.row : Int), _, rfl, ⟨by omega, by omega, by omega, by rw [rowsV_len]; omega⟩, ?_⟩⟩⟩
  rw [rowsV_len]
  refine for_range (lo := (g.row : Int)) (n := ((g.rows.length : Int) - (g.row : Int)).toNat) (fun i σ H' => H' = H ∧ ∃ (st : Nat) (v3 v4 : Option V), σ = [some (.ref p), some (.str (S ws)), some (.int (st : Int)), v3, v4] ∧
    seek ws (g.rows.drop g.row) g.row (g.col + 1) = seek ws (g.rows.drop (g.row + i)) (g.row + i) st) ⟨rfl, g.col + 1, none, none, rfl, rfl⟩ ?_ ?_
  · rintro i σ H' hi ⟨rfl, st, v3, v4, rfl, hs4⟩
    have hi2 : g.row + i < g.rows.length := by omega
    refine ⟨_, rfl, rd_rows T hP fun t ht => ⟨_, rfl, t, _, _, _, rfl, rfl, ht, rows_at (n := g.row + i) (by omega) hi2, rfl, _, rfl, _, rfl, _, _, _, rfl, rfl, ?_⟩⟩
    rw [find3_eq]
    rw [List.drop_eq_getElem_cons hi2] at hs4
    have el : g.rows[g.row + i] = g.rows.getD (g.row + i) [] := by rw [List.getD_eq_getElem?_getD, List.getElem?_eq_getElem hi2]; rfl
    rw [el] at hs4
    rw [seek_cons] at hs4
    cases hf : findL ws (g.rows.getD (g.row + i) []) st with
    | some j =>
      rw [hf] at hs4
      refine ⟨_, rfl, _, _, rfl, rfl, _, rfl, ?_⟩
      refine iteD (fun h1 => ?_) (fun h1 => absurd (by show (0 : Int) ≤ (j : Int); omega) h1)
      refine ⟨_, rfl, _, rfl, _, rfl, p, g, _, _, g.row + i, j, rfl, by omega, rfl, hP, fun q H2 k2 a2 => ?_⟩
      exact ks q H2 _ k2 (by unfold Pg.find; rw [hs4]; rfl) a2
    | none =>
      rw [hf] at hs4
      refine ⟨_, rfl, _, _, rfl, rfl, _, rfl, ?_⟩
      refine iteD (fun h1 => absurd (show (0 : Int) ≤ -1 from h1) (by decide)) (fun h1 => ?_)
      exact ⟨rfl, 0, _, _, rfl, hs4⟩
  · rintro σ H' ⟨rfl, st, v3, v4, rfl, hs4⟩
    refine kn H' Kq.refl ?_
    unfold Pg.find
    rw [hs4, List.drop_eq_nil_of_le (by omega)]
    rfl
theorem sc_take : FnScope ["page", "line", "end", "rows"] ["page"] (defScope s_take) := ⟨rfl, rfl, rfl, by decide +kernel, rfl, by decide +kernel, by decide +kernel⟩
theorem ok_take (T : Tx w K mg) : Fk P w K mg base 3 (Ad K d_take.at_) ["page"] (spAct K Pg.take) := by
  have F_Page___init__ := ok_Page___init__ (P := P) (base := base) T
  have F_line_at := ok_line_at (P := P) (base := base) T
  have F_with_lines := ok_with_lines (P := P) (base := base) T
  refine mkF T.f_take sc_take rfl (fun _ _ _ _ _ _ us hl => match us, hl with | [_], _ => rfl) (fun vs H Q E h => by obtain ⟨_, _, rfl, _⟩ := h; rfl) (fun cdv A outer s H vs Q E hcd hcode hr h => ?_)
  have po : PassesOwn (model P w) (CxD P w K mg base ["page", "line", "end", "rows"] d_take cdv A outer s H E).A (CxD P w K mg base ["page", "line", "end", "rows"] d_take cdv A outer s H E).env (CxD P w K mg base ["page", "line", "end", "rows"] d_take cdv A outer s H E).xe := passes_of rfl
  refine ⟨_, (pss_cons (ps_asg (pe_cF F_line_at (hr.mono (by decide)) T.g_line_at px (pa_cons (pv 0) pa_nil)) (pg_name (i := 1) sc_take.nd rfl (.inl rfl)))
      (pss_cons (ps_asg (pe_fld (pv 0) rfl) (pg_name (i := 2) sc_take.nd rfl (.inl rfl)))
      (pss_cons (ps_while po ((pw_and (pt_cmpR op_lt (pv 2) (pe_callB call_len_str (by rfl) T.n_len (by decide +kernel) (pa_cons (pv 1) pa_nil)) (nomark _)) (pw_and1 (pt_chain op_le_str op_le_str pe_str (pe_ix ix_str (pv 1) (pv 2) (fun _ _ => rfl)) pe_str)))).pt (pss_one (ps_aug (i := 2) sc_take.nd rfl (.inl rfl) pe_int ip_add)))
      (pss_cons (ps_if (pt_cmpR op_eq (pv 2) (pe_fld (pv 0) rfl) (nomark _)) (pss_one (ps_ret pe_non)) pss_nil)
      (pss_cons (ps_asg (pe_cF F_with_lines (hr.mono (by decide)) T.g_with_lines px (pa_cons (pv 0) (pa_cons (pe_fld (pv 0) rfl) (pa_cons pe_int (pa_cons (pe_tup (pa_cons (pe_op op_add_str (pe_slice sl_str (pv 1) po_none (po_some (pe_fld (pv 0) rfl))) (pe_slice sl_str (pv 1) (po_some (pv 2)) po_none)) pa_nil)) pa_nil))))) (pg_name (i := 3) sc_take.nd rfl (.inl rfl)))
      (pss_one (ps_ret (pe_kF (spN := sp_Page K) T.k_Page F_Page___init__ (hr.mono (by decide)) T.g_Page px new_Page (pa_cons (pv 3) (pa_cons (pe_fld (pv 0) rfl) (pa_cons (pe_fld (pv 0) rfl) (pa_cons (pe_slice sl_str (pv 1) (po_some (pe_fld (pv 0) rfl)) (po_some (pv 2))) pa_nil)))))))))))), ?_⟩
  obtain ⟨p, g, rfl, hP, ok, kn, ks⟩ := h
  have h60 := ok.line60
  have hcol := ok.col
  refine ⟨_, rfl, p, g, rfl, hP, ok.row, ?_⟩
  refine ⟨_, rfl, rd_col T hP ?_⟩
  refine ⟨fun m σ H' => H' = H ∧ ∃ e : Nat, σ = [some (.ref p), some (.str (S g.line)), some (.int (e : Int)), none] ∧ g.col ≤ e ∧ e ≤ g.line.length ∧ (∀ i, g.col ≤ i → i < e → isLet (g.line.getD i 0) = true) ∧ m = g.line.length - e,
    ⟨_, rfl, g.col, rfl, Nat.le_refl _, hcol, fun i h1 h2 => by omega, rfl⟩, ?_⟩
  rintro m σ H' ⟨rfl, e, rfl, he1, he2, hlet, rfl⟩
  refine ⟨_, rfl, _, rfl, _, rfl, S16 (by omega), _, _, rfl, rfl, _, rfl, ?_⟩
  rw [S_len]
  -- what follows the loop
  have fin : e = g.line.length ∨ isLet (g.line.getD e 0) = false → lets (g.line.drop g.col) = e - g.col := fun hend => lets_eq hlet he1 he2 hend
  have after : lets (g.line.drop g.col) = e - g.col → tSeq (tIfS (tTest (tOp rEq (tVar 2) (tFld K (tVar 0) "column"))) (tRet (tC .non)) tNext)
      (tSeq (tAsg (tCF (sp_with_lines K) E (tCons (tVar 0) (tCons (tFld K (tVar 0) "row") (tCons (tC (.int 1)) (tCons (tTup (tCons (tOp (fun x y H Q => ∃ i j, x = .str i ∧ y = .str j ∧ i.length + j.length ≤ sizeLine ∧ Q (.str (i ++ j)) H)
        (tSl rSlS (tVar 1) tNoPart (tPart (tFld K (tVar 0) "column"))) (tSl rSlS (tVar 1) (tPart (tVar 2)) tNoPart)) tNil)) tNil))))) (gName 3))
      (tRet (tCF (sp_Page K) E (tCons (tVar 3) (tCons (tFld K (tVar 0) "row") (tCons (tFld K (tVar 0) "column") (tCons (tSl rSlS (tVar 1) (tPart (tFld K (tVar 0) "column")) (tPart (tVar 2))) tNil)))))))
      { nx := fun _ H' => Q .non H', rt := Q } [some (.ref p), some (.str (S g.line)), some (.int (e : Int)), none] H' := by
    intro hl
    refine ⟨_, rfl, _, rfl, rd_col T hP ⟨rfl, _, rfl, ?_⟩⟩
    refine iteD (fun h1 => ?_) (fun h1 => ?_)
    · have h1 : (e : Int) = (g.col : Int) := V.int.inj h1
      exact kn H' Kq.refl (by unfold Pg.take; simp only [hl]; rw [if_pos (by omega)])
    have h1 : ¬ (e : Int) = (g.col : Int) := fun z => h1 (by rw [z])
    refine ⟨_, rfl, _, rfl, rd_row T hP ⟨_, rfl, _, rfl, rd_col T hP ⟨_, rfl, _, rfl, S16 (by omega), _, rfl, _, rfl, _, rfl, _, rfl, S16 (by omega), ?_⟩⟩⟩
    rw [cut_to g.line (n := g.col) rfl, cut_from g.line (n := e) rfl]
    refine ⟨_, _, rfl, rfl, line16 (by rw [S_len, S_len, List.length_take, List.length_drop]; omega), ?_⟩
    rw [S_app]
    refine ⟨line16 (by show 1 ≤ 1000000; decide), fun tp ntp => ?_⟩
    refine ⟨p, g, _, _, tp, [_], g.row, 1, rfl, rfl, rfl, (Kq.alloc ntp).page hP, SqT.of upd_same, ok.row, by decide, ok.many, (by show 1 ≤ 2; decide), by simp, fun q H2 k2 a2 => ?_⟩
    have k12 := (Kq.alloc (S := []) (o := .tup [V.str (S (g.line.take g.col ++ g.line.drop e))]) ntp).trans k2
    have hP2 := k12.page hP
    refine ⟨_, rfl, _, rfl, rd_row T hP2 ⟨_, rfl, rd_col T hP2 ⟨_, rfl, _, rfl, rd_col T hP2 ⟨_, rfl, _, rfl, _, rfl, _, rfl, S16 (by omega), ?_⟩⟩⟩⟩
    rw [cut_mid g.line (a := g.col) (b := e) rfl rfl]
    refine ⟨q, _, _, _, { rows := g.others g.row 1 [g.line.take g.col ++ g.line.drop e], row := g.row, col := g.col, clip := (g.line.drop g.col).take (e - g.col) }, rfl, rfl, rfl, rfl, a2, fun q3 H3 k3 a3 => ?_⟩
    refine ks q3 H3 _ (k12.trans k3) ?_ a3
    unfold Pg.take
    simp only [hl]
    rw [if_neg (by omega), show g.col + (e - g.col) = e by omega]
  refine iteD (fun h1 => ?_) (fun h1 => ?_)
  · have h1 : e < g.line.length := by omega
    have eg : g.line[e]? = some (g.line.getD e 0) := by rw [List.getElem?_eq_getElem h1, List.getD_eq_getElem?_getD, List.getElem?_eq_getElem h1]; rfl
    refine ⟨_, rfl, _, rfl, _, _, g.line.getD e 0, rfl, rfl, S16 (by omega), (by rw [show (S g.line).cps.toList = g.line by simp]; exact atI_nat eg), _, _, rfl, rfl, _, rfl, ?_⟩
    refine iteN (fun h2 => ?_) (fun h2 => ?_)
    · rw [sign_lo] at h2
      refine ⟨_, _, rfl, rfl, _, rfl, ?_⟩
      refine iteN (fun h3 => ?_) (fun h3 => ?_)
      · rw [sign_hi] at h3
        refine ⟨fun σ' H2 => H2 = H' ∧ σ' = [some (.ref p), some (.str (S g.line)), some (.int ((e + 1 : Nat) : Int)), none], fun σ' H2 ⟨e1, e2⟩ => ⟨g.line.length - (e + 1), by omega, e1, e + 1, e2, by omega, h1, fun i hi1 hi2 => ?_, rfl⟩, ?_⟩
        · by_cases hi : i = e
          · subst hi
            show (decide (97 ≤ g.line.getD i 0) && decide (g.line.getD i 0 ≤ 122)) = true
            simp only [Bool.and_eq_true, decide_eq_true_eq]
            omega
          · exact hlet i hi1 (by omega)
        · exact ⟨_, rfl, _, _, rfl, rfl, rfl, rfl⟩
      · rw [sign_hi] at h3
        exact after (fin (Or.inr (by show (decide (97 ≤ g.line.getD e 0) && decide (g.line.getD e 0 ≤ 122)) = false; simp only [Bool.and_eq_false_iff, decide_eq_false_iff_not]; omega)))
    · rw [sign_lo] at h2
      refine ⟨_, rfl, ?_⟩
      exact after (fin (Or.inr (by show (decide (97 ≤ g.line.getD e 0) && decide (g.line.getD e 0 ≤ 122)) = false; simp only [Bool.and_eq_false_iff, decide_eq_false_iff_not]; omega)))
  · exact after (fin (Or.inl (by omega)))
end
end KT
set_option Elab.async false
set_option linter.all false
set_option maxRecDepth 100000
set_option maxHeartbeats 4000000
namespace KT
open PySem PySem.Spec PyProof.Rows L2 GxR
variable [GT]
/-! ### keys in the heap -/
def nameS (n : Nat) : Str := S [97 + n]
def keyV : Ky → List V
  | .put s => [.str "put", .str (S s)]
  | .find s => [.str "find", .str (S s)]
  | .brk => [.str "break"]
  | .rub => [.str "rub"]
  | .left => [.str "left"]
  | .right => [.str "right"]
  | .up => [.str "up"]
  | .down => [.str "down"]
  | .home => [.str "home"]
  | .end_ => [.str "end"]
  | .take => [.str "take"]
  | .lay => [.str "lay"]
  | .play n m => [.str "play", .str (nameS n), .int m]
  | .till n => [.str "till", .str (nameS n)]
def KeyAt (K : PySem.W.Frag) (H : Hp) (a : Addr) (k : Ky) : Prop := SqT K H a (keyV k)
theorem Kq.key {K : PySem.W.Frag} {H H1 : Hp} (a : Kq [] H H1) {p : Addr} {k : Ky} (h : KeyAt K H p k) : KeyAt K H1 p k := a.tup h
section
variable {X : Cx} {k i : Nat} {f : Addr} {ps : List Str} {sp : Sp} {E : XK} {x : Str} {p pos : Pos} {e : Expr} {es : List Expr} {t : TA}
/-- f(e, ..), f a name of the def that holds one of several defs -/
def tCallV (P : Program) (w : World) (K : PySem.W.Frag) (mg : Str → Option Value) (base : Heap) (k i : Nat) (E : XK) (t : TA) : TE := fun σ H Q => ∃ f ps sp, σ[i]? = some (some (.ref f)) ∧ Fk P w K mg base k f ps sp ∧ t σ H fun vs H1 => sp vs H1 Q E
theorem pe_callV (hr : Room k X.A) (hx : Passes (L2.CX X.prog X.w) X E) (ha : PA X (e :: es) t) (hN : X.N[i]? = some x := by rfl) (hv : Vis X.env.scope x := by exact Or.inl rfl)
    (hdb : (x == ("__debug__" : Str)) = false := by decide) (hcd : (x == ("__classdict__" : Str)) = false := by decide)
    (he : starEach (e :: es) X.env = (false, eval e X.env) :: starEach es X.env := by rfl) (hpl : (backTo pos (starEach es X.env)).any (·.1) = false := by rfl) : PE X (.Call (.Name x p) (e :: es) [] pos) (tCallV X.prog X.w X.K X.mg X.base k i E t) := by
  refine ⟨fun pins s σ H Q I h => ?_⟩
  obtain ⟨f, ps, sp, hs, F, ht⟩ := h
  refine wpAny_Call_Name_kw (thn ((pe_var (pos := p) hN hv hdb hcd).run pins s σ H (fun v H1 => v = .ref f ∧ H1 = H) I ⟨.ref f, hs, rfl, rfl⟩) fun u s1 ⟨v, H1, I1, r1, q1⟩ => ?_)
  obtain ⟨rfl, rfl⟩ := q1
  cases r1
  refine PySem.W.callWith_K (h₀ := X.base) I.ok.mod.kin F.kp (thn (ha.run pos pins s1 σ _ _ I1 ht) fun us s2 ⟨vs, H2, I2, r, q⟩ => ⟨I2.kIn, ?_⟩) he hpl
  have q' : sp (vs ++ []) H2 Q E := by rw [List.append_nil]; exact q
  exact run_fn F.ok hr F.b .nil hx I2 r q'
end
section
variable {P : Program} {w : World} {K : PySem.W.Frag} {mg : Str → Option Value} {base : Heap}
theorem Tx.tab (T : Tx w K mg) : ∃ es n, KDict K w (He.ga K "ACTIONS") es n := by
  obtain ⟨_, _, _, c⟩ := T.ex
  exact c.t.tab 0
theorem Tx.vals (T : Tx w K mg) {q : Str × He.Dv} (h : q ∈ acts) : ∃ u, PySem.W.nsIn K (He.ga K "ACTIONS") q.1 = some (some u) ∧ RelV (q.2.v K) u := by
  obtain ⟨_, _, _, c⟩ := T.ex
  have := T.more0
  unfold ex0 at this
  exact He.valsB_ok (He.ba this).2 h
theorem Tx.act (T : Tx w K mg) {x f : Str} (h : (x, He.Dv.glo f) ∈ acts) : KDct K w (He.ga K "ACTIONS") x (.ref (He.ga K f)) := by
  obtain ⟨es, n, D⟩ := T.tab
  obtain ⟨u, h1, h2⟩ := T.vals h
  exact ⟨es, n, u, D.at_, D.lit, h1, h2⟩
def sp_page_behind (K : PySem.W.Frag) : Sp := fun vs H Q _ => ∃ p a g ky, vs = [.ref p, .ref a] ∧ PageAt K H p g ∧ g.Ok ∧ KeyAt K H a ky ∧ ky.Ok ∧ ky.single = true ∧ (∀ H', Kq [] H H' → g.does ky = none → Q .non H') ∧ ∀ q H' g', Kq [] H H' → g.does ky = some g' → PageAt K H' q g' → Q (.ref q) H'
theorem sc_page_behind : FnScope ["page", "key", "action"] ["page", "key"] (defScope s_page_behind) := ⟨rfl, rfl, rfl, by decide +kernel, rfl, by decide +kernel, by decide +kernel⟩
theorem ok_page_behind (T : Tx w K mg) : Fk P w K mg base 6 (Ad K d_page_behind.at_) ["page", "key"] (sp_page_behind K) := by
  have F_break_row := ok_break_row (P := P) (base := base) T
  have F_find_word := ok_find_word (P := P) (base := base) T
  have F_go_down := ok_go_down (P := P) (base := base) T
  have F_go_end := ok_go_end (P := P) (base := base) T
  have F_go_home := ok_go_home (P := P) (base := base) T
  have F_go_left := ok_go_left (P := P) (base := base) T
  have F_go_right := ok_go_right (P := P) (base := base) T
  have F_go_up := ok_go_up (P := P) (base := base) T
  have F_lay := ok_lay (P := P) (base := base) T
  have F_rub := ok_rub (P := P) (base := base) T
  have F_take := ok_take (P := P) (base := base) T
  have F_write := ok_write (P := P) (base := base) T
  refine mkF T.f_page_behind sc_page_behind rfl (fun _ _ _ _ _ _ us hl => match us, hl with | [_, _], _ => rfl) (fun vs H Q E h => by obtain ⟨_, _, _, _, rfl, _⟩ := h; rfl) (fun cdv A outer s H vs Q E hcd hcode hr h => ?_)
  refine ⟨_, (pss_cons (ps_if (pt_cmpR op_eq (pe_ix ix_tup (pv 1) pe_int (fun _ _ => rfl)) pe_str (nomark _)) (pss_one (ps_ret (pe_cF F_write (hr.mono (by decide)) T.g_write px (pa_cons (pv 0) (pa_cons (pe_ix ix_tup (pv 1) pe_int (fun _ _ => rfl)) pa_nil))))) pss_nil)
      (pss_cons (ps_if (pt_cmpR op_eq (pe_ix ix_tup (pv 1) pe_int (fun _ _ => rfl)) pe_str (nomark _)) (pss_one (ps_ret (pe_cF F_find_word (hr.mono (by decide)) T.g_find_word px (pa_cons (pv 0) (pa_cons (pe_ix ix_tup (pv 1) pe_int (fun _ _ => rfl)) pa_nil))))) pss_nil)
      (pss_cons (ps_asg (pe_ix ix_kdict (pe_glob (v := .ref (He.ga K "ACTIONS")) rfl T.g_ACTIONS rfl) (pe_ix ix_tup (pv 1) pe_int (fun _ _ => rfl)) (fun _ _ => rfl)) (pg_name (i := 2) sc_page_behind.nd rfl (.inl rfl)))
      (pss_one (ps_ret (pe_callV (i := 2) hr px (pa_cons (pv 0) pa_nil))))))), ?_⟩
  obtain ⟨p, a, g, ky, rfl, hP, ok, hk, kok, hsg, kn, ks⟩ := h
  cases ky with
  | put s =>
    refine ⟨_, rfl, a, _, _, _, rfl, rfl, hk, rfl, rfl, _, rfl, iteD (fun _ => ?_) (fun h => absurd rfl h)⟩
    have h1 : s.length = 1 := kok.1
    exact ⟨_, rfl, _, rfl, a, _, _, _, rfl, rfl, hk, rfl, p, g, s, rfl, hP, ok, by omega, kn, ks⟩
  | find s =>
    refine ⟨_, rfl, a, _, _, _, rfl, rfl, hk, rfl, rfl, _, rfl, iteD (fun h => absurd h (by decide +kernel)) (fun _ => ?_)⟩
    refine ⟨_, rfl, a, _, _, _, rfl, rfl, hk, rfl, rfl, _, rfl, iteD (fun _ => ?_) (fun h => absurd rfl h)⟩
    have h1 : s.length ≤ 4 := kok.2.1
    exact ⟨_, rfl, _, rfl, a, _, _, _, rfl, rfl, hk, rfl, p, g, s, rfl, hP, ok, by omega, kn, ks⟩
  | play n m => exact absurd hsg (by simp [Ky.single])
  | till n => exact absurd hsg (by simp [Ky.single])
  | brk =>
    refine ⟨_, rfl, a, _, _, _, rfl, rfl, hk, rfl, rfl, _, rfl, iteD (fun h => absurd h (by decide +kernel)) (fun _ => ?_)⟩
    refine ⟨_, rfl, a, _, _, _, rfl, rfl, hk, rfl, rfl, _, rfl, iteD (fun h => absurd h (by decide +kernel)) (fun _ => ?_)⟩
    refine ⟨_, rfl, a, _, _, _, rfl, rfl, hk, rfl, _, _, _, rfl, rfl, T.act (f := "break_row") (List.mem_of_getElem? (i := 0) rfl), ?_⟩
    exact ⟨_, _, _, rfl, F_break_row.mono (by decide), _, rfl, p, g, rfl, hP, ok, kn, ks⟩
  | rub =>
    refine ⟨_, rfl, a, _, _, _, rfl, rfl, hk, rfl, rfl, _, rfl, iteD (fun h => absurd h (by decide +kernel)) (fun _ => ?_)⟩
    refine ⟨_, rfl, a, _, _, _, rfl, rfl, hk, rfl, rfl, _, rfl, iteD (fun h => absurd h (by decide +kernel)) (fun _ => ?_)⟩
    refine ⟨_, rfl, a, _, _, _, rfl, rfl, hk, rfl, _, _, _, rfl, rfl, T.act (f := "rub") (List.mem_of_getElem? (i := 1) rfl), ?_⟩
    exact ⟨_, _, _, rfl, F_rub.mono (by decide), _, rfl, p, g, rfl, hP, ok, kn, ks⟩
  | left =>
    refine ⟨_, rfl, a, _, _, _, rfl, rfl, hk, rfl, rfl, _, rfl, iteD (fun h => absurd h (by decide +kernel)) (fun _ => ?_)⟩
    refine ⟨_, rfl, a, _, _, _, rfl, rfl, hk, rfl, rfl, _, rfl, iteD (fun h => absurd h (by decide +kernel)) (fun _ => ?_)⟩
    refine ⟨_, rfl, a, _, _, _, rfl, rfl, hk, rfl, _, _, _, rfl, rfl, T.act (f := "go_left") (List.mem_of_getElem? (i := 2) rfl), ?_⟩
    exact ⟨_, _, _, rfl, F_go_left.mono (by decide), _, rfl, p, g, rfl, hP, ok, kn, ks⟩
  | right =>
    refine ⟨_, rfl, a, _, _, _, rfl, rfl, hk, rfl, rfl, _, rfl, iteD (fun h => absurd h (by decide +kernel)) (fun _ => ?_)⟩
    refine ⟨_, rfl, a, _, _, _, rfl, rfl, hk, rfl, rfl, _, rfl, iteD (fun h => absurd h (by decide +kernel)) (fun _ => ?_)⟩
    refine ⟨_, rfl, a, _, _, _, rfl, rfl, hk, rfl, _, _, _, rfl, rfl, T.act (f := "go_right") (List.mem_of_getElem? (i := 3) rfl), ?_⟩
    exact ⟨_, _, _, rfl, F_go_right.mono (by decide), _, rfl, p, g, rfl, hP, ok, kn, ks⟩
  | up =>
    refine ⟨_, rfl, a, _, _, _, rfl, rfl, hk, rfl, rfl, _, rfl, iteD (fun h => absurd h (by decide +kernel)) (fun _ => ?_)⟩
    refine ⟨_, rfl, a, _, _, _, rfl, rfl, hk, rfl, rfl, _, rfl, iteD (fun h => absurd h (by decide +kernel)) (fun _ => ?_)⟩
    refine ⟨_, rfl, a, _, _, _, rfl, rfl, hk, rfl, _, _, _, rfl, rfl, T.act (f := "go_up") (List.mem_of_getElem? (i := 4) rfl), ?_⟩
    exact ⟨_, _, _, rfl, F_go_up.mono (by decide), _, rfl, p, g, rfl, hP, ok, kn, ks⟩
  | down =>
    refine ⟨_, rfl, a, _, _, _, rfl, rfl, hk, rfl, rfl, _, rfl, iteD (fun h => absurd h (by decide +kernel)) (fun _ => ?_)⟩
    refine ⟨_, rfl, a, _, _, _, rfl, rfl, hk, rfl, rfl, _, rfl, iteD (fun h => absurd h (by decide +kernel)) (fun _ => ?_)⟩
    refine ⟨_, rfl, a, _, _, _, rfl, rfl, hk, rfl, _, _, _, rfl, rfl, T.act (f := "go_down") (List.mem_of_getElem? (i := 5) rfl), ?_⟩
    exact ⟨_, _, _, rfl, F_go_down.mono (by decide), _, rfl, p, g, rfl, hP, ok, kn, ks⟩
  | home =>
    refine ⟨_, rfl, a, _, _, _, rfl, rfl, hk, rfl, rfl, _, rfl, iteD (fun h => absurd h (by decide +kernel)) (fun _ => ?_)⟩
    refine ⟨_, rfl, a, _, _, _, rfl, rfl, hk, rfl, rfl, _, rfl, iteD (fun h => absurd h (by decide +kernel)) (fun _ => ?_)⟩
    refine ⟨_, rfl, a, _, _, _, rfl, rfl, hk, rfl, _, _, _, rfl, rfl, T.act (f := "go_home") (List.mem_of_getElem? (i := 6) rfl), ?_⟩
    exact ⟨_, _, _, rfl, F_go_home.mono (by decide), _, rfl, p, g, rfl, hP, ok, kn, ks⟩
  | end_ =>
    refine ⟨_, rfl, a, _, _, _, rfl, rfl, hk, rfl, rfl, _, rfl, iteD (fun h => absurd h (by decide +kernel)) (fun _ => ?_)⟩
    refine ⟨_, rfl, a, _, _, _, rfl, rfl, hk, rfl, rfl, _, rfl, iteD (fun h => absurd h (by decide +kernel)) (fun _ => ?_)⟩
    refine ⟨_, rfl, a, _, _, _, rfl, rfl, hk, rfl, _, _, _, rfl, rfl, T.act (f := "go_end") (List.mem_of_getElem? (i := 7) rfl), ?_⟩
    exact ⟨_, _, _, rfl, F_go_end.mono (by decide), _, rfl, p, g, rfl, hP, ok, kn, ks⟩
  | take =>
    refine ⟨_, rfl, a, _, _, _, rfl, rfl, hk, rfl, rfl, _, rfl, iteD (fun h => absurd h (by decide +kernel)) (fun _ => ?_)⟩
    refine ⟨_, rfl, a, _, _, _, rfl, rfl, hk, rfl, rfl, _, rfl, iteD (fun h => absurd h (by decide +kernel)) (fun _ => ?_)⟩
    refine ⟨_, rfl, a, _, _, _, rfl, rfl, hk, rfl, _, _, _, rfl, rfl, T.act (f := "take") (List.mem_of_getElem? (i := 8) rfl), ?_⟩
    exact ⟨_, _, _, rfl, F_take.mono (by decide), _, rfl, p, g, rfl, hP, ok, kn, ks⟩
  | lay =>
    refine ⟨_, rfl, a, _, _, _, rfl, rfl, hk, rfl, rfl, _, rfl, iteD (fun h => absurd h (by decide +kernel)) (fun _ => ?_)⟩
    refine ⟨_, rfl, a, _, _, _, rfl, rfl, hk, rfl, rfl, _, rfl, iteD (fun h => absurd h (by decide +kernel)) (fun _ => ?_)⟩
    refine ⟨_, rfl, a, _, _, _, rfl, rfl, hk, rfl, _, _, _, rfl, rfl, T.act (f := "lay") (List.mem_of_getElem? (i := 9) rfl), ?_⟩
    exact ⟨_, _, _, rfl, F_lay.mono (by decide), _, rfl, p, g, rfl, hP, ok, kn, ks⟩
end
end KT
set_option Elab.async false
set_option linter.all false
set_option maxRecDepth 100000
set_option maxHeartbeats 4000000
namespace KT
open PySem PySem.Spec PyProof.Rows L2 GxR
variable [GT]
/-! ### signs -/
theorem elt_range {prog : Program} {w : World} {scope : Scope} {x lo hi : Str} {j j' : Nat} {p1 p2 p3 p4 : Pos} (hk : scope.kind = .function) (hl : scope.names.lookup x = some .local) (hd : (x == ("__debug__" : Str)) = false := by decide) :
    EltP prog w scope x (.Compare (.Constant (.str lo) j p1) [.LtE, .LtE] [.Name x p2, .Constant (.str hi) j' p3] p4) (fun c => !decide ([c] < lo.cps.toList) && !decide (hi.cps.toList < [c])) := by
  intro cenv A' E' c t s₂ m₂ hs hn hm
  refine Compare_chain (Calls.Constant_str (chain_link ?_))
  refine wpAny_Name (wpAny_loadName_local (by rw [hs]; exact hk) (show cenv.scope.names.lookup x = some .local by rw [hs]; exact hl) hn hm ?_) hd
  refine PySem.P.le_str (wpAny_truthy_bool ?_)
  have e : (⟨#[c]⟩ : Str).cps.toList = [c] := rfl
  rw [e]
  by_cases h : [c] < lo.cps.toList
  · rw [decide_eq_true h]
    exact ite_ff ⟨congrArg Value.bool (by show _ = (!decide ([c] < lo.cps.toList) && _); rw [decide_eq_true h]; rfl), keeps_tok _ _⟩
  · rw [decide_eq_false h]
    refine ite_tt (chain_last (Calls.Constant_str (PySem.P.le_str ⟨congrArg Value.bool (by show _ = (!decide ([c] < lo.cps.toList) && _); rw [decide_eq_false h]; rfl), keeps_tok _ _⟩)))
/-- are_signs, in Lean -/
def signB (c : Nat) : Bool := !decide ([c] < (Str.ofString " ").cps.toList) && !decide ((Str.ofString "~").cps.toList < [c])
theorem signB_eq (c : Nat) : signB c = decide (okSign c) := by
  unfold signB okSign
  rw [show (Str.ofString " ").cps.toList = [32] by decide +kernel, show (Str.ofString "~").cps.toList = [126] by decide +kernel]
  have h1 := one_lt c 32
  have h2 := one_lt 126 c
  by_cases a : c < 32
  · rw [decide_eq_true (h1.mpr a)]
    simp; omega
  · rw [decide_eq_false (fun z => a (h1.mp z))]
    by_cases b : 126 < c
    · rw [decide_eq_true (h2.mpr b)]
      simp; omega
    · rw [decide_eq_false (fun z => b (h2.mp z))]
      simp; omega
/-- the table of are_signs -/
abbrev cS (K : PySem.W.Frag) : Addr := He.codeOf K ("are_signs", none)
abbrev tS (K : PySem.W.Frag) : Addr := GT.a
section
variable {P : Program} {w : World} {K : PySem.W.Frag} {mg : Str → Option Value} {base : Heap}
def sp_are_signs (K : PySem.W.Frag) : Sp := fun vs H Q _ => ∃ l, vs = [.str (S l)] ∧ TabG H (tS K) ∧ ∀ H', Kq [] H H' → Q (.bl (l.all signB)) H'
theorem sc_are_signs : FnScope ["text"] ["text"] (defScope s_are_signs) := ⟨rfl, rfl, rfl, by decide +kernel, rfl, by decide +kernel, by decide +kernel⟩
theorem ok_are_signs (T : Tx w K mg) (B : TabB base mg (cS K) (tS K)) : Fk P w K mg base 1 (Ad K d_are_signs.at_) ["text"] (sp_are_signs K) := by
  refine mkF T.f_are_signs sc_are_signs rfl (fun _ _ _ _ _ _ us hl => match us, hl with | [_], _ => rfl) (fun vs H Q E h => by obtain ⟨_, rfl, _⟩ := h; rfl) (fun cdv A outer s H vs Q E hcd hcode hr h => ?_)
  refine ⟨_, (pss_one (ps_ret (pe_allS (c := cS K) (P := tS K) hr rfl T.n_all (by decide +kernel) B hcode ⟨rfl, rfl, by decide +kernel, by decide +kernel, by decide +kernel, fun y hy e => absurd e ((by decide +kernel : ∀ y ∈ _, y.2 ≠ .free) y hy)⟩ (pv 0) (elt_range rfl (by decide +kernel)) (fun _ => rfl)))), ?_⟩
  obtain ⟨l, rfl, hT, k⟩ := h
  refine ⟨_, rfl, _, rfl, hT, fun H2 hH => ?_⟩
  exact k H2 (Kq.tabbed hH hT)
end
end KT
set_option Elab.async false
set_option linter.all false
set_option maxRecDepth 100000
set_option maxHeartbeats 4000000
namespace KT
open PySem PySem.Spec PyProof.Rows L2 GxR
/-! ### match: a tuple against sequences of texts and names -/
inductive PatI where
  | lit (z : Str) | cap (i : Nat)
/-- what may be held against a text -/
def flatS : V → Bool
  | .int _ => true
  | .str _ => true
  | .bl _ => true
  | .non => true
  | _ => false
theorem scal_flat {x : V} {z : Str} (h : flatS x = true) : scal x (.str z) = true := by
  cases x <;> first | rfl | cases h
def patHit : List PatI → List V → Bool
  | [], [] => true
  | .lit z :: ds, x :: xs => decide (x = .str z) && patHit ds xs
  | .cap _ :: ds, _ :: xs => patHit ds xs
  | _, _ => false
def patBind : List PatI → List V → L2.St → L2.St
  | .lit _ :: ds, _ :: xs, σ => patBind ds xs σ
  | .cap i :: ds, x :: xs, σ => patBind ds xs (σ.set i (some x))
  | _, _, σ => σ
section
variable {X : Cx} {pins : List (Addr × Obj)} {σ : L2.St} {H : Hp} {s : Shared}
inductive PsOk (X : Cx) : List Pattern → List PatI → Prop where
  | nil : PsOk X [] []
  | lit {z : Str} {j : Nat} {p1 p2 : Pos} {ps : List Pattern} {ds : List PatI} (h : PsOk X ps ds) : PsOk X (.MatchValue (.Constant (.str z) j p1) p2 :: ps) (.lit z :: ds)
  | cap {x : Str} {i : Nat} {p : Pos} {ps : List Pattern} {ds : List PatI} (hN : X.N[i]? = some x) (hl : Loc X.env.scope x) (hf : X.fn x = true ∨ X.env.scope.names.lookup x = some .local) (h : PsOk X ps ds) : PsOk X (.MatchAs none (some x) p :: ps) (.cap i :: ds)
theorem PsOk.len {ps : List Pattern} {ds : List PatI} (h : PsOk X ps ds) : ps.length = ds.length := by
  induction h with
  | nil => rfl
  | lit _ ih => simp [ih]
  | cap _ _ _ _ ih => simp [ih]
/-- the names and values that are bound -/
inductive Bs (X : Cx) : List PatI → List V → List (Str × Value) → Prop where
  | nil : Bs X [] [] []
  | lit {z : Str} {x : V} {ds : List PatI} {xs : List V} {bs : List (Str × Value)} (h : Bs X ds xs bs) : Bs X (.lit z :: ds) (x :: xs) bs
  | cap {n : Str} {i : Nat} {x : V} {u : Value} {ds : List PatI} {xs : List V} {bs : List (Str × Value)} (hN : X.N[i]? = some n) (hl : Loc X.env.scope n) (hf : X.fn n = true ∨ X.env.scope.names.lookup n = some .local) (r : RelV x u) (h : Bs X ds xs bs) : Bs X (.cap i :: ds) (x :: xs) ((n, u) :: bs)
theorem each_ok {ps : List Pattern} {ds : List PatI} (h : PsOk X ps ds) : ∀ {xs : List V} {us : List Value} {s : Shared} {Q : Option (List (Str × Value)) → Shared → Prop}, Vals xs us → xs.length = ds.length → (∀ x ∈ xs, flatS x = true) → Inv X pins σ H s →
    (∀ s', Inv X pins σ H s' → (patHit ds xs = false → Q none s') ∧ (patHit ds xs = true → ∀ bs, Bs X ds xs bs → Q (some bs) s')) → wpAny (model X.prog X.w) X.A (matchEach ps X.env us) Q X.xe s := by
  induction h with
  | nil =>
    intro xs us s Q r hl hf I k
    cases r with
    | nil => exact wpAny_matchEach_nil ((k s I).2 rfl [] .nil)
    | cons _ _ => simp at hl
  | @lit z j p1 p2 ps ds h ih =>
    intro xs us s Q r hl hf I k
    cases r with
    | nil => simp at hl
    | @cons x u xs us rx r =>
      refine wpAny_matchEach_cons ?_ rfl
      refine wpAny_matchPattern_Value (Calls.Constant_str ?_)
      refine thn (op_eq pins _ σ H x (.str z) u _ (fun v H' => v = .bl (decide (x = .str z)) ∧ H' = H) (I.tok _) rx ⟨_, rfl⟩ ⟨scal_flat (hf x (by simp)), rfl, rfl⟩) fun c s2 hc => ?_
      obtain ⟨v, H', I2, rc, ev, eH⟩ := hc
      subst ev eH
      cases rc
      refine wpAny_truthy_bool ?_
      by_cases e : x = .str z
      · rw [decide_eq_true e]
        show wpAny _ _ (matchEach ps X.env us) _ _ s2
        refine ih r (by simpa using hl) (fun y hy => hf y (by simp [hy])) I2 fun s3 I3 => ?_
        have h1 : patHit (.lit z :: ds) (x :: xs) = patHit ds xs := by
          show (decide (x = .str z) && patHit ds xs) = _
          rw [decide_eq_true e]; rfl
        have k3 := k s3 I3
        rw [h1] at k3
        exact ⟨fun e => k3.1 e, fun e bs hb => k3.2 e _ (.lit hb)⟩
      · rw [decide_eq_false e]
        show Q none s2
        refine (k s2 I2).1 ?_
        show (decide (x = .str z) && patHit ds xs) = false
        rw [decide_eq_false e]; rfl
  | @cap n i p ps ds hN hloc hfn h ih =>
    intro xs us s Q r hl hf I k
    cases r with
    | nil => simp at hl
    | @cons x u xs us rx r =>
      refine wpAny_matchEach_cons ?_ rfl
      refine wpAny_matchPattern_Capture ?_
      show wpAny _ _ (matchEach ps X.env us) _ _ s
      refine ih r (by simpa using hl) (fun y hy => hf y (by simp [hy])) I fun s3 I3 => ?_
      have k3 := k s3 I3
      exact ⟨fun e => k3.1 e, fun e bs hb => k3.2 e _ (.cap hN hloc hfn rx hb)⟩
theorem bind_ok (hnd : X.N.Nodup) {ds : List PatI} {xs : List V} {bs : List (Str × Value)} (h : Bs X ds xs bs) : ∀ {σ : L2.St} {s : Shared} {Q : Unit → Shared → Prop}, Inv X pins σ H s → (∀ s', Inv X pins (patBind ds xs σ) H s' → Q () s') →
    wpAny (model X.prog X.w) X.A (assignInOrder (bs.map fun (n, _) => bindName X.env n) (bs.map (·.2))) Q X.xe s := by
  induction h with
  | nil => intro σ s Q I k; exact wpAny_assignInOrder_none (k s I)
  | lit _ ih => intro σ s Q I k; exact ih I k
  | cap hN hl hf r _ ih =>
    intro σ s Q I k
    refine wpAny_assignInOrder_more (bindName_ (store_ok I hnd hN hl r (fun s' I' => ?_) hf))
    exact ih I' k
/-- the cases: a sequence, or whatever there is -/
inductive CaseD where
  | seq (ds : List PatI) (t : TS)
  | any (t : TS)
def tCases : List CaseD → List V → TS
  | [], _ => fun D σ H => D.nx σ H
  | .seq ds t :: r, xs => fun D σ H => if (decide (ds.length = xs.length) && patHit ds xs) = true then t D (patBind ds xs σ) H else tCases r xs D σ H
  | .any t :: _, _ => t
def tMatch (K : PySem.W.Frag) (te : TE) (cs : List CaseD) : TS := fun D σ H => te σ H fun v H1 => ∃ a xs, v = .ref a ∧ SqT K H1 a xs ∧ (∀ x ∈ xs, flatS x = true) ∧ tCases cs xs D σ H1
inductive CsOk (X : Cx) : List MatchCase → List CaseD → Prop where
  | nil : CsOk X [] []
  | seq {ps : List Pattern} {pos : Pos} {ds : List PatI} {t : TS} {body : List Stmt} {cs : List MatchCase} {dd : List CaseD} (hp : PsOk X ps ds) (hb : PSs X body t) (h : CsOk X cs dd)
    (hstar : ps.findIdx? (·.isStar) = none := by rfl) (hwild : (ps.all fun p => p.isWildcard || (p.isStar && p.names.isEmpty)) = false := by rfl) : CsOk X (⟨.MatchSequence ps pos, none, body⟩ :: cs) (.seq ds t :: dd)
  | any {pos : Pos} {t : TS} {body : List Stmt} {cs : List MatchCase} (hb : PSs X body t) : CsOk X (⟨.MatchAs none none pos, none, body⟩ :: cs) [.any t]
theorem cases_ok (hc : X.calm = true) (hnd : X.N.Nodup) {cs : List MatchCase} {dd : List CaseD} (h : CsOk X cs dd) : ∀ {a : Addr} {xs : List V} {s : Shared} {D : Ends} (first : Bool), Inv X pins σ H s → SqT X.K H a xs → (∀ x ∈ xs, flatS x = true) → tCases dd xs D σ H →
    wpAny (model X.prog X.w) X.A (matchCases cs X.env (.ref a) first) (SP X pins D) X.xe s := by
  induction h with
  | nil =>
    intro a xs s D first I ht hf k
    exact wpAny_matchCases_nil ⟨σ, H, I, k⟩
  | @seq ps pos ds t body cs dd hp hb h hstar hwild ih =>
    intro a xs s D first I ht hf k
    refine wpAny_matchCases_cons ?_
    obtain ⟨its, r, pl, hz⟩ := I.tuple ht
    have hlen := r.length
    have hl := hp.len
    have hsz : sizeLine = 16777216 := sizeLine_eq
    have hfit : (its.toArray.size : Int) < 2 ^ 63 := by simp only [List.size_toArray]; omega
    have k : if (decide (ds.length = xs.length) && patHit ds xs) = true then t D (patBind ds xs σ) H else tCases dd xs D σ H := k
    by_cases e : its.toArray.size = ps.length
    · refine matchSeq_tuple_hit pl hfit e ?_ hstar hwild
      have e2 : xs.length = ds.length := by simp only [List.size_toArray] at e; omega
      rw [← e]
      refine unpackItems_tuple (I.ok.hd hc) (s := { s with toks := s.toks + 1 + 1 }) pl fun h' hx => ?_
      have I2 : Inv X pins σ H { s with heap := h', toks := s.toks + 1 + 1 } := I.kept fun b u q => by
        exact hx b u (Nat.ne_of_lt (Heap.lt_size q)) q
      refine each_ok hp r e2 hf I2 fun s3 I3 => ⟨fun hn => ?_, fun hh bs hbs => ?_⟩
      · show wpAny _ _ (matchCases cs X.env (.ref a) false) _ _ s3
        refine ih false I3 ht hf ?_
        rw [hn, Bool.and_false, if_neg (by simp)] at k
        exact k
      · show wpAny _ _ (assignInOrder (bs.map fun (n, _) => bindName X.env n) (bs.map (·.2))) _ _ s3
        refine bind_ok hnd hbs I3 fun s4 I4 => ?_
        rw [hh, Bool.and_true, if_pos (by simp [e2])] at k
        exact hb.run pins s4 _ H D I4 k
    · refine matchSeq_tuple_miss pl hfit e ?_ hstar hwild
      show wpAny _ _ (matchCases cs X.env (.ref a) false) _ _ _
      refine ih false ((I.tok _)) ht hf ?_
      have e2 : ¬ ds.length = xs.length := by simp only [List.size_toArray] at e; omega
      rw [decide_eq_false e2, Bool.false_and, if_neg (by simp)] at k
      exact k
  | @any pos t body cs hb =>
    intro a xs s D first I ht hf k
    refine wpAny_matchCases_cons ?_
    refine wpAny_matchPattern_Capture ?_
    show wpAny _ _ (assignInOrder [] []) _ _ s
    refine wpAny_assignInOrder_none ?_
    exact hb.run pins s σ H D I k
theorem ps_match {subject : Expr} {te : TE} {cs : List MatchCase} {dd : List CaseD} {pos : Pos} (hc : X.calm = true) (hnd : X.N.Nodup) (he : PE X subject te) (h : CsOk X cs dd) : PS X (.Match subject cs pos) (tMatch X.K te dd) := by
  refine ⟨fun pins s σ H D I q => ?_⟩
  refine wpAny_Match (thn (he.run pins s σ H _ I q) fun v s1 hv => ?_)
  obtain ⟨x, H1, I1, r1, a, xs, ex, ht, hf, k⟩ := hv
  subst ex
  cases r1
  exact cases_ok hc hnd h true I1 ht hf k
end
end KT
set_option Elab.async false
set_option linter.all false
set_option maxRecDepth 100000
set_option maxHeartbeats 4000000
namespace KT
open PySem PySem.Spec PyProof.Rows L2 GxR
variable [GT]
/-! ### what is a key -/
theorem tyx_tup {K : PySem.W.Frag} {H : Hp} {a : Addr} {xs : List V} (h : SqT K H a xs) : TyX K H (.ref a) (.type "tuple") := by
  rcases h with (h | ⟨o, h⟩) | ⟨o, its, n, hk, hc, _⟩
  · exact .base (.tup h)
  · exact .fTuple h
  · exact .kTuple hk hc
def wordB (n : Nat) : V → Bool
  | .str z => decide (1 ≤ z.length) && (decide (z.length ≤ n) && z.cps.toList.all signB)
  | _ => false
def timesB : V → Bool
  | .int i => decide (1 ≤ i) && decide (i ≤ 9)
  | _ => false
def namesV : List V := [.str "a", .str "b", .str "c", .str "d", .str "e", .str "f", .str "g", .str "h"]
def nameB (v : V) : Bool := inV v namesV
/-- whether a tuple of these is a key; act: what stands alone -/
def keyB (act : V → Bool) : List V → Bool
  | [k, x] => if k = .str "put" then wordB 1 x else if k = .str "find" then wordB 4 x else if k = .str "till" then nameB x else false
  | [k, x, m] => if k = .str "play" then nameB x && timesB m else false
  | [k] => act k
  | _ => false
/-- a text or a number, not too long -/
def smallV : V → Prop
  | .str z => z.length ≤ 1000
  | .int _ => True
  | _ => False
theorem flatS_small {v : V} (h : smallV v) : flatS v = true := by
  cases v <;> first | rfl | exact h.elim
theorem flatV_small {v : V} (h : smallV v) : flatV v = true := by
  cases v <;> first | rfl | exact h.elim
theorem ite_lit2 {z : Str} {i : Nat} {x y : V} {A B : Prop} (h1 : x = .str z → A) (h2 : ¬ x = .str z → B) : if (decide ([PatI.lit z, PatI.cap i].length = [x, y].length) && patHit [.lit z, .cap i] [x, y]) = true then A else B := by
  by_cases e : x = .str z
  · have : (decide ([PatI.lit z, PatI.cap i].length = [x, y].length) && patHit [.lit z, .cap i] [x, y]) = true := by simp [patHit, e]
    rw [if_pos this]; exact h1 e
  · have : ¬ (decide ([PatI.lit z, PatI.cap i].length = [x, y].length) && patHit [.lit z, .cap i] [x, y]) = true := by simp [patHit, e]
    rw [if_neg this]; exact h2 e
theorem ite_lit3 {z : Str} {i j : Nat} {x y u : V} {A B : Prop} (h1 : x = .str z → A) (h2 : ¬ x = .str z → B) : if (decide ([PatI.lit z, PatI.cap i, PatI.cap j].length = [x, y, u].length) && patHit [.lit z, .cap i, .cap j] [x, y, u]) = true then A else B := by
  by_cases e : x = .str z
  · have : (decide ([PatI.lit z, PatI.cap i, PatI.cap j].length = [x, y, u].length) && patHit [.lit z, .cap i, .cap j] [x, y, u]) = true := by simp [patHit, e]
    rw [if_pos this]; exact h1 e
  · have : ¬ (decide ([PatI.lit z, PatI.cap i, PatI.cap j].length = [x, y, u].length) && patHit [.lit z, .cap i, .cap j] [x, y, u]) = true := by simp [patHit, e]
    rw [if_neg this]; exact h2 e
section
variable {P : Program} {w : World} {K : PySem.W.Frag} {mg : Str → Option Value} {base : Heap}
theorem Tx.names (T : Tx w K mg) (H : Hp) : SqT K H (He.ga K "NAMES") namesV := by
  obtain ⟨_, _, _, c⟩ := T.ex
  have := T.more0
  unfold ex0 at this
  exact He.tupB_ok (He.ba this).1 H
/-- how a word that stands alone is looked up -/
def ActIs (K : PySem.W.Frag) (k : V) (b : Bool) : Prop := ∃ z r, k = .str z ∧ PySem.W.nsIn K (He.ga K "ACTIONS") z = some r ∧ b = r.isSome
def sp_is_word (K : PySem.W.Frag) : Sp := fun vs H Q _ => ∃ v n, vs = [v, .int (n : Nat)] ∧ smallV v ∧ TabG H (tS K) ∧ ∀ H', Kq [] H H' → Q (.bl (wordB n v)) H'
theorem sc_is_word : FnScope ["word", "longest"] ["word", "longest"] (defScope s_is_word) := ⟨rfl, rfl, rfl, by decide +kernel, rfl, by decide +kernel, by decide +kernel⟩
theorem ok_is_word (T : Tx w K mg) (B : TabB base mg (cS K) (tS K)) : Fk P w K mg base 2 (Ad K d_is_word.at_) ["word", "longest"] (sp_is_word K) := by
  have F_are_signs := ok_are_signs (P := P) (base := base) T B
  refine mkF T.f_is_word sc_is_word rfl (fun _ _ _ _ _ _ us hl => match us, hl with | [_, _], _ => rfl) (fun vs H Q E h => by obtain ⟨_, _, rfl, _⟩ := h; rfl) (fun cdv A outer s H vs Q E hcd hcode hr h => ?_)
  refine ⟨_, (pss_one (ps_ret (pe_and (pe_callB call_isi (by rfl) T.n_isinstance (by decide +kernel) (pa_cons (pv 0) (pa_cons (pe_bltn (v := .ty "str") (by rfl) T.n_str (by decide +kernel) rfl) pa_nil))) (pe_and (pe_chain op_le op_le pe_int (pe_callB call_len_str (by rfl) T.n_len (by decide +kernel) (pa_cons (pv 0) pa_nil)) (pv 1)) (pe_one (pe_cF F_are_signs (hr.mono (by decide)) T.g_are_signs px (pa_cons (pv 0) pa_nil))))))), ?_⟩
  obtain ⟨v, n, rfl, hs, hT, k⟩ := h
  cases v with
  | str z =>
    have hz : z.length ≤ 1000 := hs
    refine ⟨_, rfl, _, _, _, _, true, rfl, .ty _, .base (.str _), kit_ty (by decide +kernel), _, rfl, iteT ?_⟩
    refine ⟨_, rfl, _, rfl, line16 (by omega), _, _, rfl, rfl, _, rfl, iteD (fun h1 => ?_) (fun h1 => ?_)⟩
    · refine ⟨_, rfl, _, _, rfl, rfl, _, rfl, iteD (fun h2 => ?_) (fun h2 => ?_)⟩
      · refine ⟨_, rfl, z.cps.toList, by rw [show S z.cps.toList = z from S_tl z], hT, fun H' k' => ?_⟩
        have e : wordB n (.str z) = z.cps.toList.all signB := by
          show (decide (1 ≤ z.length) && (decide (z.length ≤ n) && z.cps.toList.all signB)) = _
          rw [decide_eq_true (by omega), decide_eq_true (by omega)]; rfl
        rw [← e]
        exact k H' k'
      · have e : wordB n (.str z) = false := by
          show (decide (1 ≤ z.length) && (decide (z.length ≤ n) && z.cps.toList.all signB)) = _
          rw [decide_eq_false (show ¬ z.length ≤ n by omega)]; simp
        rw [← e]
        exact k H Kq.refl
    · refine ⟨_, rfl, iteF ?_⟩
      have e : wordB n (.str z) = false := by
        show (decide (1 ≤ z.length) && (decide (z.length ≤ n) && z.cps.toList.all signB)) = _
        rw [decide_eq_false (show ¬ 1 ≤ z.length by omega)]; simp
      rw [← e]
      exact k H Kq.refl
  | int i =>
    exact ⟨_, rfl, _, _, _, _, false, rfl, .ty _, .base (.int _), kit_ty (by decide +kernel), _, rfl, iteF (k H Kq.refl)⟩
  | _ => exact hs.elim
def numB (lo hi : Int) : V → Bool
  | .int i => decide (lo ≤ i) && decide (i ≤ hi)
  | _ => false
theorem numB_times (v : V) : numB 1 9 v = timesB v := by cases v <;> rfl
def sp_is_number : Sp := fun vs H Q _ => ∃ v lo hi, vs = [v, .int lo, .int hi] ∧ flatV v = true ∧ (∀ b, v ≠ .bl b) ∧ Q (.bl (numB lo hi v)) H
theorem sc_is_number : FnScope ["number", "least", "most"] ["number", "least", "most"] (defScope s_is_number) := ⟨rfl, rfl, rfl, by decide +kernel, rfl, by decide +kernel, by decide +kernel⟩
theorem ok_is_number (T : Tx w K mg) : Fk P w K mg base 1 (Ad K d_is_number.at_) ["number", "least", "most"] sp_is_number := by
  refine mkF T.f_is_number sc_is_number rfl (fun _ _ _ _ _ _ us hl => match us, hl with | [_, _, _], _ => rfl) (fun vs H Q E h => by obtain ⟨_, _, _, rfl, _⟩ := h; rfl) (fun cdv A outer s H vs Q E hcd hcode hr h => ?_)
  refine ⟨_, (pss_one (ps_ret (pe_and (pe_callB call_isi (by rfl) T.n_isinstance (by decide +kernel) (pa_cons (pv 0) (pa_cons (pe_bltn (v := .ty "int") (by rfl) T.n_int (by decide +kernel) rfl) pa_nil))) (pe_and (pe_not (pe_callB call_isi (by rfl) T.n_isinstance (by decide +kernel) (pa_cons (pv 0) (pa_cons (pe_bltn (v := .ty "bool") (by rfl) T.n_bool (by decide +kernel) rfl) pa_nil)))) (pe_one (pe_chain op_le op_le (pv 1) (pv 0) (pv 2))))))), ?_⟩
  obtain ⟨v, lo, hi, rfl, hs, hb, k⟩ := h
  cases v with
  | str z =>
    exact ⟨_, rfl, _, _, _, _, false, rfl, .ty _, .base (.str _), kit_ty (by decide +kernel), _, rfl, iteF k⟩
  | int i =>
    refine ⟨_, rfl, _, _, _, _, true, rfl, .ty _, .base (.int _), kit_ty (by decide +kernel), _, rfl, iteT ?_⟩
    refine ⟨_, rfl, _, _, _, _, false, rfl, .ty _, .base (.int _), kit_ty (by decide +kernel), _, rfl, _, rfl, iteT ?_⟩
    refine ⟨_, rfl, _, rfl, _, _, rfl, rfl, _, rfl, iteD (fun h1 => ?_) (fun h1 => ?_)⟩
    · refine ⟨_, rfl, _, _, rfl, rfl, ?_⟩
      have e : numB lo hi (.int i) = decide (i ≤ hi) := by
        show (decide (lo ≤ i) && decide (i ≤ hi)) = _
        rw [decide_eq_true h1]; rfl
      rw [e] at k
      exact k
    · have e : numB lo hi (.int i) = false := by
        show (decide (lo ≤ i) && decide (i ≤ hi)) = _
        rw [decide_eq_false h1]; rfl
      rw [← e]
      exact k
  | bl b => exact absurd rfl (hb b)
  | non => exact ⟨_, rfl, _, _, _, _, false, rfl, .ty _, .base .non, kit_ty (by decide +kernel), _, rfl, iteF k⟩
  | _ => exact (Bool.noConfusion (show false = true from hs))
theorem small_noB {v : V} (h : smallV v) : ∀ b, v ≠ .bl b := by
  rintro b rfl
  exact h.elim
def sp_is_key (K : PySem.W.Frag) : Sp := fun vs H Q _ => ∃ a xs act, vs = [.ref a] ∧ SqT K H a xs ∧ (∀ x ∈ xs, smallV x) ∧ TabG H (tS K) ∧ (∀ k, xs = [k] → ActIs K k (act k)) ∧ ∀ H', Kq [] H H' → Q (.bl (keyB act xs)) H'
theorem sc_is_key : FnScope ["key", "sign", "word", "name", "many", "kind"] ["key"] (defScope s_is_key) := ⟨rfl, rfl, rfl, by decide +kernel, rfl, by decide +kernel, by decide +kernel⟩
theorem ok_is_key (T : Tx w K mg) (B : TabB base mg (cS K) (tS K)) : Fk P w K mg base 3 (Ad K d_is_key.at_) ["key"] (sp_is_key K) := by
  obtain ⟨t_LONGEST_WORD, h_LONGEST_WORD⟩ := T.i_LONGEST_WORD
  obtain ⟨t_MOST_TIMES, h_MOST_TIMES⟩ := T.i_MOST_TIMES
  have F_is_number := ok_is_number (P := P) (base := base) T
  have F_is_word := ok_is_word (P := P) (base := base) T B
  refine mkF T.f_is_key sc_is_key rfl (fun _ _ _ _ _ _ us hl => match us, hl with | [_], _ => rfl) (fun vs H Q E h => by obtain ⟨_, _, _, rfl, _⟩ := h; rfl) (fun cdv A outer s H vs Q E hcd hcode hr h => ?_)
  obtain ⟨_, _, DA⟩ := T.tab
  refine ⟨_, (pss_cons (ps_if (pt_not (pt_val (pe_callB call_isi (by rfl) T.n_isinstance (by decide +kernel) (pa_cons (pv 0) (pa_cons (pe_bltn (v := .ty "tuple") (by rfl) T.n_tuple (by decide +kernel) rfl) pa_nil))))) (pss_one (ps_ret pe_bl)) pss_nil)
      (pss_one (ps_match rfl sc_is_key.nd (pv 0) (.seq (.lit (.cap (i := 1) rfl (.inl rfl) (.inl rfl) .nil)) (pss_one (ps_ret (pe_cF F_is_word (hr.mono (by decide)) T.g_is_word px (pa_cons (pv 1) (pa_cons pe_int pa_nil))))) (.seq (.lit (.cap (i := 2) rfl (.inl rfl) (.inl rfl) .nil)) (pss_one (ps_ret (pe_cF F_is_word (hr.mono (by decide)) T.g_is_word px (pa_cons (pv 2) (pa_cons (pe_glob (v := .int 4) (by rfl) h_LONGEST_WORD ⟨_, rfl⟩) pa_nil))))) (.seq (.lit (.cap (i := 3) rfl (.inl rfl) (.inl rfl) (.cap (i := 4) rfl (.inl rfl) (.inl rfl) .nil))) (pss_one (ps_ret (pe_and (pe_cmpR op_in_seq (pv 3) (pe_glob (v := .ref (He.ga K "NAMES")) rfl T.g_NAMES rfl) (by rfl)) (pe_one (pe_cF F_is_number (hr.mono (by decide)) T.g_is_number px (pa_cons (pv 4) (pa_cons pe_int (pa_cons (pe_glob (v := .int 9) (by rfl) h_MOST_TIMES ⟨_, rfl⟩) pa_nil)))))))) (.seq (.lit (.cap (i := 3) rfl (.inl rfl) (.inl rfl) .nil)) (pss_one (ps_ret (pe_cmpR op_in_seq (pv 3) (pe_glob (v := .ref (He.ga K "NAMES")) rfl T.g_NAMES rfl) (by rfl)))) (.seq (.cap (i := 5) rfl (.inl rfl) (.inl rfl) .nil) (pss_one (ps_ret (pe_cmpR (op_in_kd DA) (pv 5) (pe_glob (v := .ref (He.ga K "ACTIONS")) rfl T.g_ACTIONS rfl) (by rfl)))) (.any (pss_one (ps_ret pe_bl))))))))))), ?_⟩
  obtain ⟨a, xs, act, rfl, ht, hs, hT, hact, k⟩ := h
  refine ⟨_, rfl, _, _, _, _, true, rfl, .ty _, tyx_tup ht, kit_ty (by decide +kernel), _, rfl, iteF ?_⟩
  refine ⟨_, rfl, a, xs, rfl, ht, fun x hx => flatS_small (hs x hx), ?_⟩
  have k0 : ∀ b, keyB act xs = b → ∀ H', Kq [] H H' → Q (.bl b) H' := fun b e H' k' => e ▸ k H' k'
  match xs, ht, hs, hact, k0 with
  | [], _, _, _, k0 => exact k0 false rfl H Kq.refl
  | [x0], _, hs, hact, k0 =>
    obtain ⟨z, r, e1, e2, e3⟩ := hact x0 rfl
    subst e1
    exact ⟨_, rfl, z, r, rfl, rfl, e2, k0 _ e3 H Kq.refl⟩
  | [x0, x1], _, hs, _, k0 =>
    have h1 : smallV x1 := hs x1 (by simp)
    refine ite_lit2 (fun e => ?_) (fun n1 => ite_lit2 (fun e => ?_) (fun n2 => ite_lit2 (fun e => ?_) (fun n3 => ?_)))
    · exact ⟨_, rfl, x1, 1, rfl, h1, hT, fun H' k' => k0 _ (by show (if x0 = .str "put" then _ else _) = _; rw [if_pos e]) H' k'⟩
    · exact ⟨_, rfl, x1, 4, rfl, h1, hT, fun H' k' => k0 _ (by show (if x0 = .str "put" then _ else if x0 = .str "find" then _ else _) = _; rw [if_neg n1, if_pos e]) H' k'⟩
    · exact ⟨_, rfl, _, _, rfl, .inr (T.names H), flatV_small h1, by decide +kernel, k0 _ (by show (if x0 = .str "put" then _ else if x0 = .str "find" then _ else if x0 = .str "till" then _ else _) = _; rw [if_neg n1, if_neg n2, if_pos e]; rfl) H Kq.refl⟩
    · exact k0 false (by show (if x0 = .str "put" then _ else if x0 = .str "find" then _ else if x0 = .str "till" then _ else _) = _; rw [if_neg n1, if_neg n2, if_neg n3]) H Kq.refl
  | [x0, x1, x2], _, hs, _, k0 =>
    have h1 : smallV x1 := hs x1 (by simp)
    have h2 : smallV x2 := hs x2 (by simp)
    refine ite_lit3 (fun e => ?_) (fun n1 => ?_)
    · refine ⟨_, rfl, _, _, rfl, .inr (T.names H), flatV_small h1, by decide +kernel, ?_⟩
      have e0 : keyB act [x0, x1, x2] = (nameB x1 && timesB x2) := by show (if x0 = .str "play" then _ else _) = _; rw [if_pos e]
      cases hn : inV x1 namesV with
      | true => exact ⟨_, rfl, iteT ⟨_, rfl, x2, 1, 9, rfl, flatV_small h2, small_noB h2, k0 _ (e0.trans (by show (inV x1 namesV && timesB x2) = _; rw [hn, numB_times]; rfl)) H Kq.refl⟩⟩
      | false => exact ⟨_, rfl, iteF (k0 _ (e0.trans (by show (inV x1 namesV && timesB x2) = _; rw [hn]; rfl)) H Kq.refl)⟩
    · exact k0 false (by show (if x0 = .str "play" then _ else _) = _; rw [if_neg n1]) H Kq.refl
  | _ :: _ :: _ :: _ :: _, _, _, _, k0 => exact k0 false rfl H Kq.refl
end
end KT
set_option Elab.async false
set_option linter.all false
set_option maxRecDepth 100000
set_option maxHeartbeats 4000000
namespace KT
open PySem PySem.Spec PyProof.Rows L2 GxR
variable [GT]
/-! ### what may be written: lists, dicts, instances but pages -/
def mutO : HO → Bool
  | .lst _ => true
  | .dK _ => true
  | .ins _ _ ((k, _) :: _) => !decide (k = "rows")
  | _ => false
structure Kf (S : List Addr) (H H' : Hp) : Prop where
  q : Kq S H H'
  w : ∀ b ∈ S, ∃ o, H b = some o ∧ mutO o = true
  w' : ∀ b ∈ S, ∃ o, H' b = some o ∧ mutO o = true
section
variable {S S' : List Addr} {H H1 H2 : Hp} {K : PySem.W.Frag}
theorem mut_wr {o : HO} (h : mutO o = true) : wrO o = true := by cases o <;> first | rfl | cases h
theorem mut_noTbl {o : HO} (h : mutO o = true) : noTbl o = true := by
  cases o <;> first | rfl | cases h
theorem Kf.refl (w : ∀ b ∈ S, ∃ o, H b = some o ∧ mutO o = true) : Kf S H H := ⟨Kq.refl, w, w⟩
theorem Kf.trans (a : Kf S H H1) (b : Kf S H1 H2) : Kf S H H2 := ⟨a.q.trans b.q, a.w, b.w'⟩
theorem Kf.kq (a : Kf S H H1) (b : Kq [] H1 H2) : Kf S H H2 := ⟨a.q.trans b.of, a.w, fun c hc => by
  obtain ⟨o, h1, h2⟩ := a.w' c hc
  exact ⟨o, b.get h1 (mut_noTbl h2), h2⟩⟩
theorem Kf.of (b : Kq [] H H1) (w : ∀ b ∈ S, ∃ o, H b = some o ∧ mutO o = true) : Kf S H H1 := (Kf.refl w).kq b
theorem Kf.cat (b : Kq [] H H1) (a : Kf S H1 H2) (w : ∀ b ∈ S, ∃ o, H b = some o ∧ mutO o = true) : Kf S H H2 := (Kf.of b w).trans a
theorem Kf.not (a : Kf S H H1) {b : Addr} {o : HO} (h : H b = some o) (n : mutO o = false) : b ∉ S := fun hb => by
  obtain ⟨u, h1, h2⟩ := a.w b hb
  rw [h] at h1
  cases h1
  rw [n] at h2
  cases h2
theorem Kf.get (a : Kf S H H1) {b : Addr} {o : HO} (h : H b = some o) (n : mutO o = false) (t : noTbl o = true := by rfl) : H1 b = some o := a.q.at_ b o h t (a.not h n)
theorem Kf.tup (a : Kf S H H1) {l : Addr} {xs : List V} (h : SqT K H l xs) : SqT K H1 l xs := by
  rcases h with (h | ⟨o, h⟩) | h
  · exact .inl (.inl (a.get h rfl))
  · exact .inl (.inr ⟨o, a.get h rfl⟩)
  · exact .inr h
theorem Kf.key (a : Kf S H H1) {p : Addr} {k : Ky} (h : KeyAt K H p k) : KeyAt K H1 p k := a.tup h
theorem Kf.page (a : Kf S H H1) {p : Addr} {g : Pg} (h : PageAt K H p g) : PageAt K H1 p g := by
  obtain ⟨dx, t, h1, h2⟩ := h
  exact ⟨dx, t, a.get h1 (by show (!decide (("rows" : Str) = "rows")) = false; simp), a.tup h2⟩
theorem Kf.write {p : Addr} {o u : HO} (hp : H p = some u) (hS : p ∈ S) (hm : mutO o = true) (w : ∀ b ∈ S, ∃ o, H b = some o ∧ mutO o = true) : Kf S H (upd H p o) :=
  ⟨Kq.write hp hS (by obtain ⟨o', h1, h2⟩ := w p hS; rw [hp] at h1; cases h1; exact mut_wr h2), w, fun b hb => by
    by_cases e : b = p
    · rw [e, upd_same]; exact ⟨o, rfl, hm⟩
    · rw [upd_ne e]; exact w b hb⟩
/-- a list of keys, by their addresses -/
inductive KeysAt (K : PySem.W.Frag) (H : Hp) : List Addr → List Ky → Prop where
  | nil : KeysAt K H [] []
  | cons {a : Addr} {k : Ky} {as : List Addr} {ks : List Ky} (h : KeyAt K H a k) (r : KeysAt K H as ks) : KeysAt K H (a :: as) (k :: ks)
theorem KeysAt.imp {as : List Addr} {ks : List Ky} (f : ∀ a k, KeyAt K H a k → KeyAt K H1 a k) (h : KeysAt K H as ks) : KeysAt K H1 as ks := by
  induction h with
  | nil => exact .nil
  | cons h _ ih => exact .cons (f _ _ h) ih
theorem Kf.keys (a : Kf S H H1) {as : List Addr} {ks : List Ky} (h : KeysAt K H as ks) : KeysAt K H1 as ks := h.imp fun _ _ z => a.key z
theorem Kq.keys (a : Kq [] H H1) {as : List Addr} {ks : List Ky} (h : KeysAt K H as ks) : KeysAt K H1 as ks := h.imp fun _ _ z => a.key z
theorem KeysAt.snoc {as : List Addr} {ks : List Ky} {a : Addr} {k : Ky} (h : KeysAt K H as ks) (hk : KeyAt K H a k) : KeysAt K H (as ++ [a]) (ks ++ [k]) := by
  induction h with
  | nil => exact .cons hk .nil
  | cons h _ ih => exact .cons h ih
theorem KeysAt.at_ {as : List Addr} {ks : List Ky} (h : KeysAt K H as ks) : ∀ {i : Nat} (h1 : i < as.length) (h2 : i < ks.length), KeyAt K H as[i] ks[i] := by
  induction h with
  | nil => intro i h1 h2; simp at h1
  | cons h _ ih =>
    intro i h1 h2
    cases i with
    | zero => exact h
    | succ i => exact ih (by simpa using h1) (by simpa using h2)
theorem KeysAt.len {as : List Addr} {ks : List Ky} (h : KeysAt K H as ks) : as.length = ks.length := by
  induction h with
  | nil => rfl
  | cons _ _ ih => simp [ih]
end
end KT
set_option Elab.async false
set_option linter.all false
set_option maxRecDepth 100000
set_option maxHeartbeats 4000000
namespace KT
open PySem PySem.Spec PyProof.Rows L2 GxR
variable [GT]
/-! ### keys refused -/
theorem keyV_small {ky : Ky} (h : ky.Ok) : ∀ x ∈ keyV ky, smallV x := by
  have kw : ∀ z : Str, z.length ≤ 1000 → smallV (.str z) := fun z h => h
  have lit : ∀ x, x ∈ ([.str "put", .str "find", .str "break", .str "rub", .str "left", .str "right", .str "up", .str "down", .str "home", .str "end", .str "take", .str "lay", .str "play", .str "till"] : List V) → smallV x := by
    intro x hx
    simp only [List.mem_cons, List.not_mem_nil, or_false] at hx
    rcases hx with rfl | rfl | rfl | rfl | rfl | rfl | rfl | rfl | rfl | rfl | rfl | rfl | rfl | rfl <;> exact kw _ (by decide +kernel)
  have nm : ∀ n, smallV (.str (nameS n)) := fun n => by show (nameS n).length ≤ 1000; unfold nameS; rw [S_len]; simp
  cases ky with
  | put s => intro x hx; simp only [keyV, List.mem_cons, List.not_mem_nil, or_false] at hx; rcases hx with rfl | rfl; exact lit _ (by simp); exact kw _ (by rw [S_len]; have := h.1; omega)
  | find s => intro x hx; simp only [keyV, List.mem_cons, List.not_mem_nil, or_false] at hx; rcases hx with rfl | rfl; exact lit _ (by simp); exact kw _ (by rw [S_len]; have := h.2.1; omega)
  | play n m => intro x hx; simp only [keyV, List.mem_cons, List.not_mem_nil, or_false] at hx; rcases hx with rfl | rfl | rfl; exact lit _ (by simp); exact nm n; exact True.intro
  | till n => intro x hx; simp only [keyV, List.mem_cons, List.not_mem_nil, or_false] at hx; rcases hx with rfl | rfl; exact lit _ (by simp); exact nm n
  | _ => intro x hx; simp only [keyV, List.mem_cons, List.not_mem_nil, or_false] at hx; subst hx; exact lit _ (by simp)
theorem signs_ok {s : Ln} (h : ∀ c ∈ s, okSign c) : s.all signB = true := by
  rw [List.all_eq_true]
  intro c hc
  rw [signB_eq]
  exact decide_eq_true (h c hc)
theorem nameB_ok {n : Nat} (h : n < 8) : nameB (.str (nameS n)) = true := by
  have : ∀ n, n < 8 → nameB (.str (nameS n)) = true := by decide +kernel
  exact this n h
theorem keyB2 (act : V → Bool) (k x : V) : keyB act [k, x] = if k = .str "put" then wordB 1 x else if k = .str "find" then wordB 4 x else if k = .str "till" then nameB x else false := rfl
theorem keyB3 (act : V → Bool) (k x m : V) : keyB act [k, x, m] = if k = .str "play" then nameB x && timesB m else false := rfl
theorem keyB_ok {ky : Ky} (h : ky.Ok) : keyB (fun _ => true) (keyV ky) = true := by
  have put : ¬ ((.str "find" : V) = .str "put") := by decide +kernel
  have t1 : ¬ ((.str "till" : V) = .str "put") := by decide +kernel
  have t2 : ¬ ((.str "till" : V) = .str "find") := by decide +kernel
  cases ky with
  | put s =>
    obtain ⟨h1, h2⟩ := h
    show keyB _ [.str "put", .str (S s)] = true
    rw [keyB2, if_pos rfl]
    show (decide (1 ≤ (S s).length) && (decide ((S s).length ≤ 1) && (S s).cps.toList.all signB)) = true
    rw [S_len, show (S s).cps.toList = s by simp, signs_ok h2, h1]; rfl
  | find s =>
    obtain ⟨h0, h1, h2⟩ := h
    show keyB _ [.str "find", .str (S s)] = true
    rw [keyB2, if_neg put, if_pos rfl]
    show (decide (1 ≤ (S s).length) && (decide ((S s).length ≤ 4) && (S s).cps.toList.all signB)) = true
    rw [S_len, show (S s).cps.toList = s by simp, signs_ok h2, decide_eq_true h0, decide_eq_true h1]; rfl
  | play n m =>
    obtain ⟨h0, h1, h2⟩ := h
    show keyB _ [.str "play", .str (nameS n), .int m] = true
    rw [keyB3, if_pos rfl, nameB_ok h0]
    show (true && (decide (1 ≤ (m : Int)) && decide ((m : Int) ≤ 9))) = true
    rw [decide_eq_true (by omega), decide_eq_true (by omega)]; rfl
  | till n =>
    show keyB _ [.str "till", .str (nameS n)] = true
    rw [keyB2, if_neg t1, if_neg t2, if_pos rfl]
    exact nameB_ok h
  | _ => rfl
section
variable {P : Program} {w : World} {K : PySem.W.Frag} {mg : Str → Option Value} {base : Heap}
theorem act_ok (T : Tx w K mg) {ky : Ky} : ∀ k, keyV ky = [k] → ActIs K k true := by
  have a : ∀ (i : Nat) (q : Str × He.Dv), acts[i]? = some q → ActIs K (.str q.1) true := fun i q h => by
    obtain ⟨u, h1, h2⟩ := T.vals (List.mem_of_getElem? h)
    exact ⟨_, _, rfl, h1, rfl⟩
  intro k h
  cases ky <;> first | (cases h; done) | (injection h with h1 _; subst h1; first | exact a 0 _ rfl | exact a 1 _ rfl | exact a 2 _ rfl | exact a 3 _ rfl | exact a 4 _ rfl | exact a 5 _ rfl | exact a 6 _ rfl | exact a 7 _ rfl | exact a 8 _ rfl | exact a 9 _ rfl)
def sp_check_key (K : PySem.W.Frag) : Sp := fun vs H Q E => ∃ a xs act, vs = [.ref a] ∧ SqT K H a xs ∧ (∀ x ∈ xs, smallV x) ∧ TabG H (tS K) ∧ (∀ k, xs = [k] → ActIs K k (act k)) ∧
  (keyB act xs = true → ∀ H', Kq [] H H' → Q .non H') ∧ (keyB act xs = false → ∀ H', Kq [] H H' → E (.ref (He.ga K "BadKey")) none H')
theorem sc_check_key : FnScope ["key"] ["key"] (defScope s_check_key) := ⟨rfl, rfl, rfl, by decide +kernel, rfl, by decide +kernel, by decide +kernel⟩
theorem ok_check_key (T : Tx w K mg) (B : TabB base mg (cS K) (tS K)) : Fk P w K mg base 4 (Ad K d_check_key.at_) ["key"] (sp_check_key K) := by
  have F_is_key := ok_is_key (P := P) (base := base) T B
  refine mkF T.f_check_key sc_check_key rfl (fun _ _ _ _ _ _ us hl => match us, hl with | [_], _ => rfl) (fun vs H Q E h => by obtain ⟨_, _, _, rfl, _⟩ := h; rfl) (fun cdv A outer s H vs Q E hcd hcode hr h => ?_)
  have tk : Takes (CxD P w K mg base ["key"] d_check_key cdv A outer s H E) (fun cls d _ H => E cls d H) := takes_of rfl rfl rfl rfl
  refine ⟨_, (pss_one (ps_if (pt_not (pt_val (pe_cF F_is_key (hr.mono (by decide)) T.g_is_key px (pa_cons (pv 0) pa_nil)))) (pss_one (ps_raise rfl tk (pmk_BadKey T rfl))) pss_nil)), ?_⟩
  obtain ⟨a, xs, act, rfl, ht, hs, hT, hact, kt, kf⟩ := h
  refine ⟨_, rfl, a, xs, act, rfl, ht, hs, hT, hact, fun H' k' => ⟨_, rfl, ?_⟩⟩
  cases hb : keyB act xs with
  | true => exact iteF (kt hb H' k')
  | false => exact iteT (kf hb H' k')
/-- a key of the program is let by -/
theorem check_ok (T : Tx w K mg) {a : Addr} {ky : Ky} {H : Hp} {Q : VK} {E : XK} (hk : KeyAt K H a ky) (ok : ky.Ok) (hT : TabG H (tS K)) (k : ∀ H', Kq [] H H' → Q .non H') : sp_check_key K [.ref a] H Q E :=
  ⟨a, keyV ky, fun _ => true, rfl, hk, keyV_small ok, hT, fun x e => act_ok T x e, fun _ => k, fun e => absurd ((keyB_ok ok).symm.trans e) (by simp)⟩
/-! ### tapes -/
def TapeAt (K : PySem.W.Frag) (H : Hp) (a : Addr) (ks : List Ky) : Prop := ∃ as : List Addr, SqT K H a (as.map V.ref) ∧ KeysAt K H as ks
def names8 : List Key := [.inr (nameS 0), .inr (nameS 1), .inr (nameS 2), .inr (nameS 3), .inr (nameS 4), .inr (nameS 5), .inr (nameS 6), .inr (nameS 7)]
/-- a dict of the eight tapes stands at t -/
def TapesAt (K : PySem.W.Frag) (H : Hp) (t : Addr) (tp : Nat → List Ky) : Prop := ∃ kvs : List (Key × V), H t = some (.dK kvs) ∧ kvs.map (·.1) = names8 ∧ ∀ n, n < 8 → ∃ a, valV kvs (.inr (nameS n)) = some (.ref a) ∧ TapeAt K H a (tp n)
structure TpOk (tp : Nat → List Ky) : Prop where
  len : ∀ n, n < 8 → (tp n).length ≤ 30
  ok : ∀ n, n < 8 → ∀ k ∈ tp n, k.Ok
theorem Kf.tape {S : List Addr} {H H1 : Hp} {a : Addr} {ks : List Ky} (k : Kf S H H1) (h : TapeAt K H a ks) : TapeAt K H1 a ks := by
  obtain ⟨as, h1, h2⟩ := h
  exact ⟨as, k.tup h1, k.keys h2⟩
theorem Kf.tapes {S : List Addr} {H H1 : Hp} {t : Addr} {tp : Nat → List Ky} (k : Kf S H H1) (h : TapesAt K H t tp) (n : t ∉ S) : TapesAt K H1 t tp := by
  obtain ⟨kvs, h1, h2, h3⟩ := h
  refine ⟨kvs, k.q.at_ t _ h1 rfl n, h2, fun n hn => ?_⟩
  obtain ⟨a, h4, h5⟩ := h3 n hn
  exact ⟨a, h4, k.tape h5⟩
theorem Kq.tape {H H1 : Hp} {a : Addr} {ks : List Ky} (k : Kq [] H H1) (h : TapeAt K H a ks) : TapeAt K H1 a ks := by
  obtain ⟨as, h1, h2⟩ := h
  exact ⟨as, k.tup h1, k.keys h2⟩
theorem Kq.tapes {H H1 : Hp} {t : Addr} {tp : Nat → List Ky} (k : Kq [] H H1) (h : TapesAt K H t tp) : TapesAt K H1 t tp := (Kf.of (S := []) k (fun b hb => absurd hb (by simp))).tapes h (by simp)
/-! ### the player -/
def playerF (p t y : Addr) (n : Nat) : List (Str × V) := [("page", .ref p), ("tapes", .ref t), ("typed", .ref y), ("things", .int n)]
theorem playerF_page (p t y : Addr) (n : Nat) : (playerF p t y n).lookup ("page" : Str) = some (.ref p) := by kernel_rfl
theorem playerF_tapes (p t y : Addr) (n : Nat) : (playerF p t y n).lookup ("tapes" : Str) = some (.ref t) := by kernel_rfl
theorem playerF_typed (p t y : Addr) (n : Nat) : (playerF p t y n).lookup ("typed" : Str) = some (.ref y) := by kernel_rfl
theorem playerF_things (p t y : Addr) (n : Nat) : (playerF p t y n).lookup ("things" : Str) = some (.int n) := by kernel_rfl
theorem playerF_put_things (p t y : Addr) (n : Nat) (m : Nat) : putF "things" (.int m) (playerF p t y n) = playerF p t y m := by kernel_rfl
theorem playerF_put_page (p t y q : Addr) (n : Nat) : putF "page" (.ref q) (playerF p t y n) = playerF q t y n := by kernel_rfl
theorem playerF_make (p t y : Addr) : putF "things" (.int 0) (putF "typed" (.ref y) (putF "tapes" (.ref t) (putF "page" (.ref p) []))) = playerF p t y 0 := by kernel_rfl
theorem playerF_no_add (p t y : Addr) (n : Nat) : (playerF p t y n).lookup ("add_thing" : Str) = none := by kernel_rfl
theorem playerF_no_do (p t y : Addr) (n : Nat) : (playerF p t y n).lookup ("do" : Str) = none := by kernel_rfl
theorem playerF_no_play (p t y : Addr) (n : Nat) : (playerF p t y n).lookup ("play" : Str) = none := by kernel_rfl
theorem playerF_no_till (p t y : Addr) (n : Nat) : (playerF p t y n).lookup ("play_till" : Str) = none := by kernel_rfl
theorem playerF_no_once (p t y : Addr) (n : Nat) : (playerF p t y n).lookup ("play_once" : Str) = none := by kernel_rfl
theorem mut_player (C dx p t y : Addr) (n : Nat) : mutO (.ins C dx (playerF p t y n)) = true := by kernel_rfl
/-- a player stands at x, its list of keys at y, over the tapes at t -/
structure PlAt (K : PySem.W.Frag) (H : Hp) (x t y : Addr) (tp : Nat → List Ky) (st : PSt) : Prop where
  ex : ∃ dx p as, H x = some (.ins (He.ga K "Player") dx (playerF p t y st.things)) ∧ PageAt K H p st.page ∧ H y = some (.lst (as.map V.ref)) ∧ KeysAt K H as st.typed
  tapes : TapesAt K H t tp
  tok : TpOk tp
  sign : TabG H (tS K)
  ok : st.page.Ok
  small : st.typed.length ≤ st.things
  low : st.things ≤ 401
theorem PlAt.wr {H : Hp} {x t y : Addr} {tp : Nat → List Ky} {st : PSt} (h : PlAt K H x t y tp st) : ∀ b ∈ [x, y], ∃ o, H b = some o ∧ mutO o = true := by
  obtain ⟨dx, p, as, h1, _, h3, _⟩ := h.ex
  intro b hb
  simp only [List.mem_cons, List.not_mem_nil, or_false] at hb
  rcases hb with rfl | rfl
  · exact ⟨_, h1, mut_player _ _ _ _ _ _⟩
  · exact ⟨_, h3, rfl⟩
theorem PlAt.nt {H : Hp} {x t y : Addr} {tp : Nat → List Ky} {st : PSt} (h : PlAt K H x t y tp st) : t ∉ [x, y] := by
  obtain ⟨dx, p, as, h1, _, h3, _⟩ := h.ex
  obtain ⟨kvs, h4, _⟩ := h.tapes
  intro hb
  simp only [List.mem_cons, List.not_mem_nil, or_false] at hb
  rcases hb with rfl | rfl
  · rw [h1] at h4; cases h4
  · rw [h3] at h4; cases h4
theorem PlAt.kq {H H' : Hp} {x t y : Addr} {tp : Nat → List Ky} {st : PSt} (h : PlAt K H x t y tp st) (k : Kq [] H H') : PlAt K H' x t y tp st := by
  obtain ⟨dx, p, as, h1, h2, h3, h4⟩ := h.ex
  exact ⟨⟨dx, p, as, k.get h1, k.page h2, k.get h3, k.keys h4⟩, k.tapes h.tapes, h.tok, k.tab _ h.sign, h.ok, h.small, h.low⟩
def sp_add_thing (K : PySem.W.Frag) : Sp := fun vs H Q E => ∃ x t y tp st, vs = [.ref x] ∧ PlAt K H x t y tp st ∧ st.things ≤ 400 ∧
  (∀ st' H', addT st = some st' → Kf [x, y] H H' → PlAt K H' x t y tp st' → Q .non H') ∧ (∀ H', addT st = none → Kf [x, y] H H' → E (.ref (He.ga K "TooLong")) none H')
theorem sc_Player_add_thing : FnScope ["self"] ["self"] (defScope s_Player_add_thing) := ⟨rfl, rfl, rfl, by decide +kernel, rfl, by decide +kernel, by decide +kernel⟩
theorem ok_Player_add_thing (T : Tx w K mg) : Fk P w K mg base 1 (Ad K d_Player_add_thing.at_) ["self"] (sp_add_thing K) := by
  obtain ⟨t_MOST_THINGS, h_MOST_THINGS⟩ := T.i_MOST_THINGS
  refine mkF T.f_Player_add_thing sc_Player_add_thing rfl (fun _ _ _ _ _ _ us hl => match us, hl with | [_], _ => rfl) (fun vs H Q E h => by obtain ⟨_, _, _, _, _, rfl, _⟩ := h; rfl) (fun cdv A outer s H vs Q E hcd hcode hr h => ?_)
  have tk : Takes (CxD P w K mg base ["self"] d_Player_add_thing cdv A outer s H E) (fun cls d _ H => E cls d H) := takes_of rfl rfl rfl rfl
  refine ⟨_, (pss_cons (ps_fldaug (pv 0) pe_int in_add)
      (pss_one (ps_if (pt_cmpR op_gt (pe_fld (pv 0) rfl) (pe_glob (v := .int 400) (by rfl) h_MOST_THINGS ⟨_, rfl⟩) (nomark _)) (pss_one (ps_raise rfl tk (pmk_TooLong T rfl))) pss_nil))), ?_⟩
  obtain ⟨x, t, y, tp, st, rfl, hP, h4, kt, kf⟩ := h
  obtain ⟨dx, p, as, h1, h2, h3, h5⟩ := hP.ex
  refine ⟨_, rfl, x, _, dx, _, _, rfl, h1, T.c_Player, T.a_Player_things, playerF_things _ _ _ _, _, _, rfl, rfl, dx, _, h1, (by show 4 < 1000; decide), ?_⟩
  rw [show ((st.things : Int) + 1) = ((st.things + 1 : Nat) : Int) by omega, playerF_put_things]
  have kw := Kf.write (S := [x, y]) (o := .ins (He.ga K "Player") dx (playerF p t y (st.things + 1))) h1 (by simp) (mut_player _ _ _ _ _ _) hP.wr
  have nyx : y ≠ x := fun e => by rw [e, h1] at h3; cases h3
  have hP' : PlAt K (upd H x (.ins (He.ga K "Player") dx (playerF p t y (st.things + 1)))) x t y tp { st with things := st.things + 1 } :=
    ⟨⟨dx, p, as, upd_same, kw.page h2, (upd_ne nyx).trans h3, kw.keys h5⟩, kw.tapes hP.tapes hP.nt, hP.tok, kw.q.tab _ hP.sign, hP.ok, Nat.le_succ_of_le hP.small, by show st.things + 1 ≤ 401; omega⟩
  refine ⟨_, rfl, x, _, dx, _, _, rfl, upd_same, T.c_Player, T.a_Player_things, playerF_things _ _ _ _, _, _, rfl, rfl, _, rfl, ?_⟩
  refine iteD (fun h => kf _ (by unfold addT; rw [if_neg (by omega)]) kw) (fun h => kt _ _ (by unfold addT; rw [if_pos (by omega)]) kw hP')
end
end KT
set_option Elab.async false
set_option linter.all false
set_option maxRecDepth 100000
set_option maxHeartbeats 4000000
namespace KT
open PySem PySem.Spec PyProof.Rows L2 GxR
variable [GT]
section
variable {P : Program} {w : World} {K : PySem.W.Frag} {mg : Str → Option Value} {base : Heap}
/-- what a def of the player that plays comes to: long, or whether all fits -/
def spRes (K : PySem.W.Frag) (H : Hp) (x t y : Addr) (tp : Nat → List Ky) (r : Res) (Q : VK) (E : XK) : Prop :=
  (r = .long → ∀ H', Kf [x, y] H H' → E (.ref (He.ga K "TooLong")) none H') ∧ ∀ b st' H', r = .fin b st' → Kf [x, y] H H' → PlAt K H' x t y tp st' → st'.things ≤ 400 → Q (.bl b) H'
theorem spRes.pre {H H1 : Hp} {x t y : Addr} {tp : Nat → List Ky} {r : Res} {Q : VK} {E : XK} (h : spRes K H x t y tp r Q E) (k : Kf [x, y] H H1) : spRes K H1 x t y tp r Q E :=
  ⟨fun e H' k' => h.1 e H' (k.trans k'), fun b st' H' e k' a l => h.2 b st' H' e (k.trans k') a l⟩
theorem spRes.eq {H : Hp} {x t y : Addr} {tp : Nat → List Ky} {r r' : Res} {Q : VK} {E : XK} (h : spRes K H x t y tp r Q E) (e : r = r') : spRes K H x t y tp r' Q E := e ▸ h
def sp_do (K : PySem.W.Frag) (d : Nat) : Sp := fun vs H Q E => ∃ x t y tp st a ky, vs = [.ref x, .ref a, .int ((20 : Int) - (d : Int))] ∧ PlAt K H x t y tp st ∧ st.things ≤ 400 ∧ d ≤ 20 ∧ KeyAt K H a ky ∧ ky.Ok ∧ spRes K H x t y tp (doK tp d ky st) Q E
/-- the def under a play at d others -/
def sp_once (K : PySem.W.Frag) : Nat → Sp
  | 0 => fun _ _ _ _ => False
  | d + 1 => fun vs H Q E => ∃ x t y tp st n, vs = [.ref x, .str (nameS n), .int ((20 : Int) - (d : Int))] ∧ n < 8 ∧ PlAt K H x t y tp st ∧ st.things ≤ 400 ∧ d ≤ 20 ∧ spRes K H x t y tp (once (doK tp d) (tp n) st) Q E
def sp_play (K : PySem.W.Frag) (d : Nat) : Sp := fun vs H Q E => ∃ x t y tp st n m, vs = [.ref x, .str (nameS n), .int (m : Nat), .int ((20 : Int) - (d : Int))] ∧ n < 8 ∧ m ≤ 9 ∧ PlAt K H x t y tp st ∧ st.things ≤ 400 ∧ d ≤ 20 ∧ spRes K H x t y tp (playR tp (under tp d) (.play n m) st) Q E
def sp_till (K : PySem.W.Frag) (d : Nat) : Sp := fun vs H Q E => ∃ x t y tp st n, vs = [.ref x, .str (nameS n), .int ((20 : Int) - (d : Int))] ∧ n < 8 ∧ PlAt K H x t y tp st ∧ st.things ≤ 400 ∧ d ≤ 20 ∧ spRes K H x t y tp (playR tp (under tp d) (.till n) st) Q E
theorem sc_Player_do : FnScope ["self", "key", "around", "behind"] ["self", "key", "around"] (defScope s_Player_do) := ⟨rfl, rfl, rfl, by decide +kernel, rfl, by decide +kernel, by decide +kernel⟩
theorem ok_Player_do (T : Tx w K mg) {d k : Nat} (hk : 6 ≤ k) (F_Player_play : Fk P w K mg base k (Ad K d_Player_play.at_) ["self", "name", "many", "around"] (sp_play K d)) (F_Player_play_till : Fk P w K mg base k (Ad K d_Player_play_till.at_) ["self", "name", "around"] (sp_till K d)) : Fk P w K mg base (k + 1) (Ad K d_Player_do.at_) ["self", "key", "around"] (sp_do K d) := by
  have F_Player_add_thing := ok_Player_add_thing (P := P) (base := base) T
  have F_page_behind := ok_page_behind (P := P) (base := base) T
  refine mkF T.f_Player_do sc_Player_do rfl (fun _ _ _ _ _ _ us hl => match us, hl with | [_, _, _], _ => rfl) (fun vs H Q E h => by obtain ⟨_, _, _, _, _, _, _, rfl, _⟩ := h; rfl) (fun cdv A outer s H vs Q E hcd hcode hr h => ?_)
  refine ⟨_, (pss_cons (ps_expr (pe_mF0 _ (pv 0) T.c_Player T.m_Player_add_thing F_Player_add_thing (hr.mono (by omega)) px))
      (pss_cons (ps_if (pt_cmpR op_eq (pe_ix ix_tup (pv 1) pe_int (fun _ _ => rfl)) pe_str (nomark _)) (pss_one (ps_ret (pe_mF _ (pv 0) T.c_Player T.m_Player_play F_Player_play hr px (pa_cons (pe_ix ix_tup (pv 1) pe_int (fun _ _ => rfl)) (pa_cons (pe_ix ix_tup (pv 1) pe_int (fun _ _ => rfl)) (pa_cons (pv 2) pa_nil)))))) pss_nil)
      (pss_cons (ps_if (pt_cmpR op_eq (pe_ix ix_tup (pv 1) pe_int (fun _ _ => rfl)) pe_str (nomark _)) (pss_one (ps_ret (pe_mF _ (pv 0) T.c_Player T.m_Player_play_till F_Player_play_till hr px (pa_cons (pe_ix ix_tup (pv 1) pe_int (fun _ _ => rfl)) (pa_cons (pv 2) pa_nil))))) pss_nil)
      (pss_cons (ps_asg (pe_cF F_page_behind (hr.mono (by omega)) T.g_page_behind px (pa_cons (pe_fld (pv 0) rfl) (pa_cons (pv 1) pa_nil))) (pg_name (i := 3) sc_Player_do.nd rfl (.inl rfl)))
      (pss_cons (ps_if (pt_cmpR op_isN (pv 3) pe_non (nomark _)) (pss_one (ps_ret pe_bl)) pss_nil)
      (pss_cons (ps_fld (pv 0) (pv 3) rfl)
      (pss_cons (ps_expr (pe_bm PySem.F.plainAttrs_list PySem.F.slot_list_append PySem.F.type_list_append mt_append (pe_fld (pv 0) rfl) (pa_cons (pv 1) pa_nil)))
      (pss_one (ps_ret pe_bl))))))))), ?_⟩
  obtain ⟨x, t, y, tp, st, a, ky, rfl, hP, h4, hd, hk', kok, hres⟩ := h
  rw [doK_eq] at hres
  obtain ⟨dx0, p0, as0, g1, _⟩ := hP.ex
  refine ⟨_, rfl, x, _, _, rfl, g1, playerF_no_add _ _ _ _, x, t, y, tp, st, rfl, hP, h4, fun st1 H1 e1 k1 hP1 => ?_, fun H1 e1 k1 => ?_⟩
  rotate_left
  · rw [e1] at hres
    exact hres.1 rfl H1 k1
  rw [e1] at hres
  obtain ⟨ep, et, en, e400⟩ := addT_some e1
  have hka := k1.key hk'
  have hres1 : spRes K H1 x t y tp (playR tp (under tp d) ky st1) Q E := hres.pre k1
  obtain ⟨dx1, p1, as1, g2, gp, gy, gk⟩ := hP1.ex
  -- what a single key comes to
  have single : ky.single = true → playR tp (under tp d) ky st1 = singleR ky st1 → tSeq (tAsg (tCF (sp_page_behind K) E (tCons (tFld K (tVar 0) "page") (tCons (tVar 1) tNil))) (gName 3))
      (tSeq (tIfS (tTest (tOp (fun x y H Q => y = V.non ∧ Q (.bl (decide (x = .non))) H) (tVar 3) (tC .non))) (tRet (tC (.bl false))) tNext)
        (tSeq (sFld K (tVar 0) (tVar 3) "page") (tSeq (tDrop (tBM K "list" rAppend (tFld K (tVar 0) "typed") (tCons (tVar 1) tNil))) (tRet (tC (.bl true))))))
      { nx := fun _ H' => Q .non H', rt := Q } [some (.ref x), some (.ref a), some (.int ((20 : Int) - (d : Int))), none] H1 := by
    intro hsg hpr
    rw [hpr] at hres1
    refine ⟨_, rfl, x, _, dx1, _, _, rfl, g2, T.c_Player, T.a_Player_page, playerF_page _ _ _ _, _, rfl, p1, a, st1.page, ky, rfl, gp, hP1.ok, hka, kok, hsg, fun H2 k2 e2 => ?_, fun q H2 g' k2 e2 hq => ?_⟩
    · refine ⟨_, rfl, rfl, _, rfl, iteT ?_⟩
      refine hres1.2 false st1 H2 ?_ (Kf.of k2 hP1.wr) (hP1.kq k2) (by omega)
      unfold singleR; rw [e2]
    · refine ⟨_, rfl, rfl, _, rfl, iteF ?_⟩
      have hP2 := hP1.kq k2
      have hw2 := hP2.wr
      have g3 := k2.get g2
      have gy3 := k2.get gy
      have nyx : y ≠ x := fun e => by rw [e, g3] at gy3; cases gy3
      refine ⟨_, rfl, _, rfl, x, _, dx1, _, rfl, g3, T.c_Player, T.a_Player_page, (by show 4 < 1000; decide), ?_⟩
      rw [playerF_put_page]
      have kw := Kf.write (S := [x, y]) (o := .ins (He.ga K "Player") dx1 (playerF q t y st1.things)) g3 (by simp) (mut_player _ _ _ _ _ _) hw2
      have g4 : (upd H2 x (.ins (He.ga K "Player") dx1 (playerF q t y st1.things))) x = some (.ins (He.ga K "Player") dx1 (playerF q t y st1.things)) := upd_same
      have gy4 : (upd H2 x (.ins (He.ga K "Player") dx1 (playerF q t y st1.things))) y = some (.lst (as1.map V.ref)) := (upd_ne nyx).trans gy3
      generalize (upd H2 x (.ins (He.ga K "Player") dx1 (playerF q t y st1.things))) = H3 at kw g4 gy4 ⊢
      refine ⟨_, rfl, x, _, dx1, _, _, rfl, g4, T.c_Player, T.a_Player_typed, playerF_typed _ _ _ _, .inl ⟨rfl, _, SqL.of gy4⟩, _, rfl, y, _, _, rfl, rfl, gy4, ?_, ?_⟩
      · have := gk.len
        have h1 := hP1.small
        have h2 := hP1.low
        rw [List.length_map]
        exact small1000 (by omega)
      have kw2 := Kf.write (S := [x, y]) (o := .lst (as1.map V.ref ++ [V.ref a])) gy4 (by simp) rfl kw.w'
      have kk : Kf [x, y] H1 (upd H3 y (.lst (as1.map V.ref ++ [V.ref a]))) := (Kf.of k2 hP1.wr).trans (kw.trans kw2)
      refine hres1.2 true ⟨g', st1.typed ++ [ky], st1.things⟩ _ ?_ kk ⟨⟨dx1, q, as1 ++ [a], (upd_ne (Ne.symm nyx)).trans g4, (kw.trans kw2).page hq, ?_, (kk.keys gk).snoc (kk.key hka)⟩, kk.tapes hP1.tapes hP1.nt, hP1.tok, kk.q.tab _ hP1.sign, does_ok hP1.ok kok e2, ?_, hP1.low⟩ (by show st1.things ≤ 400; omega)
      · unfold singleR; rw [e2]
      · rw [upd_same, List.map_append]; rfl
      · show (st1.typed ++ [ky]).length ≤ st1.things
        rw [List.length_append, et]
        have := hP.small
        simp only [List.length_cons, List.length_nil]
        omega
  cases ky with
  | play n m =>
    refine ⟨_, rfl, a, _, _, _, rfl, rfl, hka, rfl, rfl, _, rfl, iteD (fun _ => ?_) (fun h => absurd rfl h)⟩
    have h1 : n < 8 := kok.1
    have h2 : m ≤ 9 := kok.2.2
    exact ⟨_, rfl, x, _, _, rfl, g2, playerF_no_play _ _ _ _, _, rfl, a, _, _, _, rfl, rfl, hka, rfl, _, rfl, a, _, _, _, rfl, rfl, hka, rfl, _, rfl, x, t, y, tp, st1, n, m, rfl, h1, h2, hP1, by omega, hd, hres1⟩
  | till n =>
    refine ⟨_, rfl, a, _, _, _, rfl, rfl, hka, rfl, rfl, _, rfl, iteD (fun h => absurd h (by decide +kernel)) (fun _ => ?_)⟩
    refine ⟨_, rfl, a, _, _, _, rfl, rfl, hka, rfl, rfl, _, rfl, iteD (fun _ => ?_) (fun h => absurd rfl h)⟩
    exact ⟨_, rfl, x, _, _, rfl, g2, playerF_no_till _ _ _ _, _, rfl, a, _, _, _, rfl, rfl, hka, rfl, _, rfl, x, t, y, tp, st1, n, rfl, kok, hP1, by omega, hd, hres1⟩
  | _ =>
    refine ⟨_, rfl, a, _, _, _, rfl, rfl, hka, rfl, rfl, _, rfl, iteD (fun h => absurd h (by decide +kernel)) (fun _ => ?_)⟩
    refine ⟨_, rfl, a, _, _, _, rfl, rfl, hka, rfl, rfl, _, rfl, iteD (fun h => absurd h (by decide +kernel)) (fun _ => ?_)⟩
    exact single rfl rfl
theorem sc_Player_play_once : FnScope ["self", "name", "around", "key"] ["self", "name", "around"] (defScope s_Player_play_once) := ⟨rfl, rfl, rfl, by decide +kernel, rfl, by decide +kernel, by decide +kernel⟩
theorem ok_Player_play_once (T : Tx w K mg) {d k : Nat} (hk : 6 ≤ k) (F_Player_do : Fk P w K mg base k (Ad K d_Player_do.at_) ["self", "key", "around"] (sp_do K d)) : Fk P w K mg base (k + 1) (Ad K d_Player_play_once.at_) ["self", "name", "around"] (sp_once K (d + 1)) := by
  have F_Player_add_thing := ok_Player_add_thing (P := P) (base := base) T
  refine mkF T.f_Player_play_once sc_Player_play_once rfl (fun _ _ _ _ _ _ us hl => match us, hl with | [_, _, _], _ => rfl) (fun vs H Q E h => by obtain ⟨_, _, _, _, _, _, rfl, _⟩ := h; rfl) (fun cdv A outer s H vs Q E hcd hcode hr h => ?_)
  have po : PassesOwn (model P w) (CxD P w K mg base ["self", "name", "around", "key"] d_Player_play_once cdv A outer s H E).A (CxD P w K mg base ["self", "name", "around", "key"] d_Player_play_once cdv A outer s H E).env (CxD P w K mg base ["self", "name", "around", "key"] d_Player_play_once cdv A outer s H E).xe := passes_of rfl
  refine ⟨_, (pss_cons (ps_expr (pe_mF0 _ (pv 0) T.c_Player T.m_Player_add_thing F_Player_add_thing (hr.mono (by omega)) px))
      (pss_cons (ps_for po rfl (pi_tup (pe_dget (hu_of hr) (pe_fld (pv 0) rfl) (pv 1) (fun _ _ => rfl))) (pg_name (i := 3) sc_Player_play_once.nd rfl (.inl rfl)) (pss_one (ps_if (pt_not (pt_val (pe_mF _ (pv 0) T.c_Player T.m_Player_do F_Player_do hr px (pa_cons (pv 3) (pa_cons (pv 2) pa_nil))))) (pss_one (ps_ret pe_bl)) pss_nil)))
      (pss_one (ps_ret pe_bl)))), ?_⟩
  obtain ⟨x, t, y, tp, st, n, rfl, hn, hP, h4, hd, hres⟩ := h
  obtain ⟨dx0, p0, as0, g1, _⟩ := hP.ex
  unfold once at hres
  refine ⟨_, rfl, x, _, _, rfl, g1, playerF_no_add _ _ _ _, x, t, y, tp, st, rfl, hP, h4, fun st1 H1 e1 k1 hP1 => ?_, fun H1 e1 k1 => ?_⟩
  rotate_left
  · rw [e1] at hres
    exact hres.1 rfl H1 k1
  rw [e1] at hres
  obtain ⟨ep, et, en, e400⟩ := addT_some e1
  have hres1 : spRes K H1 x t y tp (keysR (doK tp d) (tp n) st1) Q E := hres.pre k1
  obtain ⟨dx1, p1, as1, g2, gp, gy, gk⟩ := hP1.ex
  obtain ⟨kvs, ht1, hnm, hall⟩ := hP1.tapes
  obtain ⟨ta, hta, as, hsq, hks⟩ := hall n hn
  have hlen := hks.len
  refine ⟨_, rfl, x, _, dx1, _, _, rfl, g2, T.c_Player, T.a_Player_tapes, playerF_tapes _ _ _ _, _, rfl, t, _, rfl, hta ▸ DGet.k (k := Sum.inr (nameS n)) ht1, ta, rfl, ⟨_, hsq⟩, ?_⟩
  refine for_tup (K := K) (a := ta) (xs := as.map V.ref) (fun i σ H' => Kf [x, y] H1 H' ∧ ∃ st' v3, σ = [some (.ref x), some (.str (nameS n)), some (.int ((20 : Int) - (d : Int))), v3] ∧ PlAt K H' x t y tp st' ∧ st'.things ≤ 400 ∧
    keysR (doK tp d) (tp n) st1 = keysR (doK tp d) ((tp n).drop i) st') ⟨Kf.refl hP1.wr, st1, none, rfl, hP1, by omega, rfl⟩ (fun i σ H' _ ⟨k', _⟩ => k'.tup hsq) ?_ ?_
  · rintro i v σ H' hi ⟨k', st', v3, rfl, hP', h4', he⟩
    have hil : i < as.length := by have := (List.getElem?_eq_some_iff.mp hi).1; rwa [List.length_map] at this
    have hil2 : i < (tp n).length := by omega
    obtain ⟨dx2, p2, as2, g3, _⟩ := hP'.ex
    rw [List.drop_eq_getElem_cons hil2, keysR_cons] at he
    have hv : v = V.ref as[i] := by
      rw [List.getElem?_map, List.getElem?_eq_getElem hil] at hi
      exact (Option.some.inj hi).symm
    subst hv
    have hki : KeyAt K H' as[i] (tp n)[i] := k'.key (hks.at_ hil hil2)
    have hok : (tp n)[i].Ok := hP'.tok.ok n hn _ (List.getElem_mem _)
    have hr2 : spRes K H' x t y tp _ Q E := (hres1.pre k').eq he
    refine ⟨_, rfl, x, _, _, rfl, g3, playerF_no_do _ _ _ _, _, rfl, _, rfl, x, t, y, tp, st', as[i], (tp n)[i], rfl, hP', h4', hd, hki, hok, fun el H3 k3 => ?_, fun b st2 H3 eb k3 hP3 h43 => ⟨_, rfl, ?_⟩⟩
    · rw [el] at hr2
      exact hr2.1 rfl H3 k3
    · rw [eb] at hr2 he
      cases b with
      | true => exact iteF ⟨k'.trans k3, st2, _, rfl, hP3, h43, he⟩
      | false => exact iteT (hr2.2 false st2 H3 rfl k3 hP3 h43)
  · rintro σ H' ⟨k', st', v3, rfl, hP', h4', he⟩
    rw [List.length_map, hlen, List.drop_length] at he
    exact (hres1.eq he).2 true st' H' rfl k' hP' h4'
theorem sc_Player_play : FnScope ["self", "name", "many", "around", "_"] ["self", "name", "many", "around"] (defScope s_Player_play) := ⟨rfl, rfl, rfl, by decide +kernel, rfl, by decide +kernel, by decide +kernel⟩
theorem ok_Player_play (T : Tx w K mg) {d k : Nat} (hk : 1 ≤ k) (F_Player_play_once : Fk P w K mg base k (Ad K d_Player_play_once.at_) ["self", "name", "around"] (sp_once K d)) : Fk P w K mg base (k + 1) (Ad K d_Player_play.at_) ["self", "name", "many", "around"] (sp_play K d) := by
  obtain ⟨t_MOST_AROUND, h_MOST_AROUND⟩ := T.i_MOST_AROUND
  refine mkF T.f_Player_play sc_Player_play rfl (fun _ _ _ _ _ _ us hl => match us, hl with | [_, _, _, _], _ => rfl) (fun vs H Q E h => by obtain ⟨_, _, _, _, _, _, _, rfl, _⟩ := h; rfl) (fun cdv A outer s H vs Q E hcd hcode hr h => ?_)
  have po : PassesOwn (model P w) (CxD P w K mg base ["self", "name", "many", "around", "_"] d_Player_play cdv A outer s H E).A (CxD P w K mg base ["self", "name", "many", "around", "_"] d_Player_play cdv A outer s H E).env (CxD P w K mg base ["self", "name", "many", "around", "_"] d_Player_play cdv A outer s H E).xe := passes_of rfl
  refine ⟨_, (pss_cons (ps_if (pt_cmpR op_ge (pv 3) (pe_glob (v := .int 20) (by rfl) h_MOST_AROUND ⟨_, rfl⟩) (nomark _)) (pss_one (ps_ret pe_bl)) pss_nil)
      (pss_cons (ps_for po rfl (pi_range1 (by rfl) T.n_range (pa_cons (pv 2) pa_nil)) (pg_name (i := 4) sc_Player_play.nd rfl (.inl rfl)) (pss_one (ps_if (pt_not (pt_val (pe_mF _ (pv 0) T.c_Player T.m_Player_play_once F_Player_play_once hr px (pa_cons (pv 1) (pa_cons (pe_op op_add (pv 3) pe_int) pa_nil))))) (pss_one (ps_ret pe_bl)) pss_nil)))
      (pss_one (ps_ret pe_bl)))), ?_⟩
  obtain ⟨x, t, y, tp, st, n, m, rfl, hn, hm, hP, h4, hd, hres⟩ := h
  refine ⟨_, rfl, _, _, rfl, rfl, _, rfl, ?_⟩
  cases d with
  | zero =>
    refine iteD (fun _ => ?_) (fun h => absurd (by omega) h)
    exact hres.2 false st H rfl (Kf.refl hP.wr) hP h4
  | succ d =>
    refine iteD (fun h => absurd h (by omega)) (fun _ => ?_)
    have hres : spRes K H x t y tp (timesR (once (doK tp d) (tp n)) m st) Q E := hres
    refine ⟨_, rfl, (m : Int), rfl, by omega, by omega, ?_⟩
    refine for_range (lo := 0) (n := (m : Int).toNat) (fun i σ H' => Kf [x, y] H H' ∧ ∃ st' v4, σ = [some (.ref x), some (.str (nameS n)), some (.int (m : Int)), some (.int ((20 : Int) - ((d + 1 : Nat) : Int))), v4] ∧ PlAt K H' x t y tp st' ∧ st'.things ≤ 400 ∧
      timesR (once (doK tp d) (tp n)) m st = timesR (once (doK tp d) (tp n)) (m - i) st') ⟨Kf.refl hP.wr, st, none, rfl, hP, h4, rfl⟩ ?_ ?_
    · rintro i σ H' hi ⟨k', st', v4, rfl, hP', h4', he⟩
      obtain ⟨dx2, p2, as2, g3, _⟩ := hP'.ex
      rw [show m - i = (m - (i + 1)) + 1 by omega, timesR_succ] at he
      have hr2 : spRes K H' x t y tp _ Q E := (hres.pre k').eq he
      refine ⟨_, rfl, x, _, _, rfl, g3, playerF_no_once _ _ _ _, _, rfl, _, rfl, _, _, rfl, rfl, x, t, y, tp, st', n, ?_, hn, hP', h4', by omega, fun el H3 k3 => ?_, fun b st2 H3 eb k3 hP3 h43 => ⟨_, rfl, ?_⟩⟩
      · show [V.ref x, V.str (nameS n), V.int (20 - ((d + 1 : Nat) : Int) + 1)] = _
        rw [show (20 - ((d + 1 : Nat) : Int) + 1) = 20 - (d : Int) by omega]
      · rw [el] at hr2
        exact hr2.1 rfl H3 k3
      · rw [eb] at hr2 he
        cases b with
        | true => exact iteF ⟨k'.trans k3, st2, _, rfl, hP3, h43, he⟩
        | false => exact iteT (hr2.2 false st2 H3 rfl k3 hP3 h43)
    · rintro σ H' ⟨k', st', v4, rfl, hP', h4', he⟩
      rw [show m - (m : Int).toNat = 0 by omega] at he
      exact (hres.eq he).2 true st' H' rfl k' hP' h4'
theorem sc_Player_play_till : FnScope ["self", "name", "around"] ["self", "name", "around"] (defScope s_Player_play_till) := ⟨rfl, rfl, rfl, by decide +kernel, rfl, by decide +kernel, by decide +kernel⟩
theorem ok_Player_play_till (T : Tx w K mg) {d k : Nat} (hk : 1 ≤ k) (F_Player_play_once : Fk P w K mg base k (Ad K d_Player_play_once.at_) ["self", "name", "around"] (sp_once K d)) : Fk P w K mg base (k + 1) (Ad K d_Player_play_till.at_) ["self", "name", "around"] (sp_till K d) := by
  obtain ⟨t_MOST_AROUND, h_MOST_AROUND⟩ := T.i_MOST_AROUND
  refine mkF T.f_Player_play_till sc_Player_play_till rfl (fun _ _ _ _ _ _ us hl => match us, hl with | [_, _, _], _ => rfl) (fun vs H Q E h => by obtain ⟨_, _, _, _, _, _, rfl, _⟩ := h; rfl) (fun cdv A outer s H vs Q E hcd hcode hr h => ?_)
  have po : PassesOwn (model P w) (CxD P w K mg base ["self", "name", "around"] d_Player_play_till cdv A outer s H E).A (CxD P w K mg base ["self", "name", "around"] d_Player_play_till cdv A outer s H E).env (CxD P w K mg base ["self", "name", "around"] d_Player_play_till cdv A outer s H E).xe := passes_of rfl
  refine ⟨_, (pss_cons (ps_if (pt_cmpR op_ge (pv 2) (pe_glob (v := .int 20) (by rfl) h_MOST_AROUND ⟨_, rfl⟩) (nomark _)) (pss_one (ps_ret pe_bl)) pss_nil)
      (pss_cons (ps_while po (pt_val (pe_mF _ (pv 0) T.c_Player T.m_Player_play_once F_Player_play_once hr px (pa_cons (pv 1) (pa_cons (pe_op op_add (pv 2) pe_int) pa_nil)))) (pss_one ps_pass))
      (pss_one (ps_ret pe_bl)))), ?_⟩
  obtain ⟨x, t, y, tp, st, n, rfl, hn, hP, h4, hd, hres⟩ := h
  refine ⟨_, rfl, _, _, rfl, rfl, _, rfl, ?_⟩
  cases d with
  | zero =>
    refine iteD (fun _ => ?_) (fun h => absurd (by omega) h)
    exact hres.2 false st H rfl (Kf.refl hP.wr) hP h4
  | succ d =>
    refine iteD (fun h => absurd h (by omega)) (fun _ => ?_)
    have hres : spRes K H x t y tp (tillR (once (doK tp d) (tp n)) 401 st) Q E := hres
    refine ⟨fun m σ H' => Kf [x, y] H H' ∧ ∃ st' j, σ = [some (.ref x), some (.str (nameS n)), some (.int ((20 : Int) - ((d + 1 : Nat) : Int)))] ∧ PlAt K H' x t y tp st' ∧ st'.things ≤ 400 ∧ j ≤ st'.things ∧
      tillR (once (doK tp d) (tp n)) 401 st = tillR (once (doK tp d) (tp n)) (401 - j) st' ∧ m = 401 - st'.things, ⟨_, Kf.refl hP.wr, st, 0, rfl, hP, h4, Nat.zero_le _, rfl, rfl⟩, ?_⟩
    rintro m σ H' ⟨k', st', j, rfl, hP', h4', hj, he, rfl⟩
    obtain ⟨dx2, p2, as2, g3, _⟩ := hP'.ex
    rw [show 401 - j = (401 - (j + 1)) + 1 by omega, tillR_succ _ (401 - (j + 1))] at he
    have hr2 : spRes K H' x t y tp _ Q E := (hres.pre k').eq he
    refine ⟨_, rfl, x, _, _, rfl, g3, playerF_no_once _ _ _ _, _, rfl, _, rfl, _, _, rfl, rfl, x, t, y, tp, st', n, ?_, hn, hP', h4', by omega, fun el H3 k3 => ?_, fun b st2 H3 eb k3 hP3 h43 => ⟨_, rfl, ?_⟩⟩
    · show [V.ref x, V.str (nameS n), V.int (20 - ((d + 1 : Nat) : Int) + 1)] = _
      rw [show (20 - ((d + 1 : Nat) : Int) + 1) = 20 - (d : Int) by omega]
    · rw [el] at hr2
      exact hr2.1 rfl H3 k3
    · have hmono := onceK_mono tp d eb
      rw [eb] at hr2 he
      cases b with
      | true =>
        refine iteT ⟨fun σ' H4 => H4 = H3 ∧ σ' = [some (.ref x), some (.str (nameS n)), some (.int ((20 : Int) - ((d + 1 : Nat) : Int)))], fun σ' H4 ⟨e1, e2⟩ => ⟨401 - st2.things, by omega, e1 ▸ (k'.trans k3), st2, j + 1, e2, e1 ▸ hP3, h43, by omega, he, rfl⟩, ?_⟩
        exact ⟨rfl, rfl⟩
      | false => exact iteF (hr2.2 true st2 H3 rfl k3 hP3 h43)
/-- the player's defs, at every depth -/
theorem ok_player (T : Tx w K mg) : ∀ d, Fk P w K mg base (3 * d + 9) (Ad K d_Player_do.at_) ["self", "key", "around"] (sp_do K d)
  | 0 => by
    have F0 : Fk P w K mg base 7 (Ad K d_Player_play_once.at_) ["self", "name", "around"] (sp_once K 0) :=
      mkF T.f_Player_play_once sc_Player_play_once rfl (fun _ _ _ _ _ _ us hl => match us, hl with | [_, _, _], _ => rfl) (fun _ _ _ _ h => h.elim) (fun _ _ _ _ _ _ _ _ _ _ _ h => h.elim)
    exact ok_Player_do T (d := 0) (k := 8) (by decide) (ok_Player_play T (d := 0) (k := 7) (by decide) F0) (ok_Player_play_till T (d := 0) (k := 7) (by decide) F0)
  | d + 1 => by
    have F := ok_player T d
    have F1 := ok_Player_play_once T (d := d) (k := 3 * d + 9) (by omega) F
    exact ok_Player_do T (d := d + 1) (k := 3 * d + 11) (by omega) (ok_Player_play T (d := d + 1) (k := 3 * d + 10) (by omega) F1) (ok_Player_play_till T (d := d + 1) (k := 3 * d + 10) (by omega) F1)
end
end KT
set_option Elab.async false
set_option linter.all false
set_option maxRecDepth 100000
set_option maxHeartbeats 4000000
namespace KT
open PySem PySem.Spec PyProof.Rows L2 GxR
variable [GT]
/-! ### texts of rows -/
def nl : Str := Str.ofString "\n"
theorem nl_eq : nl = ⟨#[10]⟩ := by decide +kernel
def textS (ls : List Ln) : Str := Txt.join nl (ls.map S)
theorem S_tls (ls : List Ln) : (ls.map S).map TL.tl = ls := by
  rw [List.map_map]
  conv => rhs; rw [← List.map_id ls]
  apply List.map_congr_left
  intro l _
  show (S l).cps.toList = l
  simp
theorem textS_split {ls : List Ln} (h : ls ≠ []) (h10 : ∀ l ∈ ls, 10 ∉ l) : Txt.split (textS ls) nl = ls.map S := by
  refine TL.split_join (y := nl) (s := 10) (S := []) (by rw [nl_eq]) (by rw [nl_eq]; decide +kernel) (by simpa using h) ?_
  intro p hp
  obtain ⟨l, hl, rfl⟩ := List.mem_map.mp hp
  have : TL.tl (S l) = l := by show (S l).cps.toList = l; simp
  rw [this]
  exact h10 l hl
theorem joinL_len {B : Nat} : ∀ (ls : List Ln), (∀ l ∈ ls, l.length ≤ B) → (TL.joinL [10] ls).length ≤ ls.length * (B + 1)
  | [], _ => by simp [TL.joinL]
  | [l], h => by
    have := h l (by simp)
    simp only [TL.joinL, List.length_cons, List.length_nil]
    omega
  | l :: m :: r, h => by
    have h1 := h l (by simp)
    have h2 := joinL_len (B := B) (m :: r) (fun x hx => h x (by simp [List.mem_cons.mp hx]))
    show (l ++ ([10] ++ TL.joinL [10] (m :: r))).length ≤ (m :: r).length.succ * (B + 1)
    rw [List.length_append, List.length_append, Nat.succ_mul]
    simp only [List.length_cons, List.length_nil] at h2 ⊢
    omega
theorem textS_len {B : Nat} {ls : List Ln} (h : ∀ l ∈ ls, l.length ≤ B) : (textS ls).length ≤ ls.length * (B + 1) := by
  have : (textS ls).length = (TL.joinL [10] ls).length := by
    unfold textS
    rw [TL.join_eq, TL.len_tl, TL.tl_join, S_tls, nl_eq]
  rw [this]
  exact joinL_len ls h
def goodRow (l : Ln) : Bool := decide (l.length ≤ 60) && l.all signB
def goodB (ls : List Ln) : Bool := decide (ls.length ≤ 12) && ls.all goodRow
theorem good_no10 {l : Ln} (h : l.all signB = true) : 10 ∉ l := fun h10 => by
  have := List.all_eq_true.mp h 10 h10
  rw [signB_eq] at this
  exact absurd (of_decide_eq_true this).1 (by decide)
section
variable {P : Program} {w : World} {K : PySem.W.Frag} {mg : Str → Option Value} {base : Heap}
def sp_first_page (K : PySem.W.Frag) : Sp := fun vs H Q E => ∃ ls, vs = [.str (textS ls)] ∧ ls ≠ [] ∧ (∀ l ∈ ls, 10 ∉ l) ∧ (∀ l ∈ ls, l.length ≤ 1000) ∧ ls.length ≤ 900 ∧ TabG H (tS K) ∧
  (goodB ls = true → ∀ q H', Kq [] H H' → PageAt K H' q ⟨ls, 0, 0, []⟩ → Q (.ref q) H') ∧ (goodB ls = false → ∀ H', Kq [] H H' → E (.ref (He.ga K "BadText")) none H')
theorem sc_first_page : FnScope ["text", "rows", "row"] ["text"] (defScope s_first_page) := ⟨rfl, rfl, rfl, by decide +kernel, rfl, by decide +kernel, by decide +kernel⟩
theorem ok_first_page (T : Tx w K mg) (B : TabB base mg (cS K) (tS K)) : Fk P w K mg base 3 (Ad K d_first_page.at_) ["text"] (sp_first_page K) := by
  obtain ⟨t_MOST_ROWS, h_MOST_ROWS⟩ := T.i_MOST_ROWS
  obtain ⟨t_MOST_SIGNS, h_MOST_SIGNS⟩ := T.i_MOST_SIGNS
  have F_Page___init__ := ok_Page___init__ (P := P) (base := base) T
  have F_are_signs := ok_are_signs (P := P) (base := base) T B
  refine mkF T.f_first_page sc_first_page rfl (fun _ _ _ _ _ _ us hl => match us, hl with | [_], _ => rfl) (fun vs H Q E h => by obtain ⟨_, rfl, _⟩ := h; rfl) (fun cdv A outer s H vs Q E hcd hcode hr h => ?_)
  have tk : Takes (CxD P w K mg base ["text", "rows", "row"] d_first_page cdv A outer s H E) (fun cls d _ H => E cls d H) := takes_of rfl rfl rfl rfl
  have po : PassesOwn (model P w) (CxD P w K mg base ["text", "rows", "row"] d_first_page cdv A outer s H E).A (CxD P w K mg base ["text", "rows", "row"] d_first_page cdv A outer s H E).env (CxD P w K mg base ["text", "rows", "row"] d_first_page cdv A outer s H E).xe := passes_of rfl
  refine ⟨_, (pss_cons (ps_asg (pe_callTy call_tuple_of (by rfl) T.n_tuple (by decide +kernel) (pa_cons (pe_split (pv 0) pe_str) pa_nil)) (pg_name (i := 1) sc_first_page.nd rfl (.inl rfl)))
      (pss_cons (ps_if (pt_cmpR op_gt (pe_callB call_len_seq (by rfl) T.n_len (by decide +kernel) (pa_cons (pv 1) pa_nil)) (pe_glob (v := .int 12) (by rfl) h_MOST_ROWS ⟨_, rfl⟩) (nomark _)) (pss_one (ps_raise rfl tk (pmk_BadText T rfl))) pss_nil)
      (pss_cons (ps_for po rfl (pi_tup (pv 1)) (pg_name (i := 2) sc_first_page.nd rfl (.inl rfl)) (pss_cons (ps_if (pt_cmpR op_gt (pe_callB call_len_str (by rfl) T.n_len (by decide +kernel) (pa_cons (pv 2) pa_nil)) (pe_glob (v := .int 60) (by rfl) h_MOST_SIGNS ⟨_, rfl⟩) (nomark _)) (pss_one (ps_raise rfl tk (pmk_BadText T rfl))) pss_nil)
      (pss_one (ps_if (pt_not (pt_val (pe_cF F_are_signs (hr.mono (by decide)) T.g_are_signs px (pa_cons (pv 2) pa_nil)))) (pss_one (ps_raise rfl tk (pmk_BadText T rfl))) pss_nil))))
      (pss_one (ps_ret (pe_kF (spN := sp_Page K) T.k_Page F_Page___init__ (hr.mono (by decide)) T.g_Page px new_Page (pa_cons (pv 1) (pa_cons pe_int (pa_cons pe_int (pa_cons pe_str pa_nil)))))))))), ?_⟩
  obtain ⟨ls, rfl, hne, h10, hlong, hmany, hT, kt, kf⟩ := h
  have hlen : (textS ls).length ≤ 1000000 := Nat.le_trans (textS_len hlong) (Nat.le_trans (Nat.mul_le_mul_right _ hmany) (by decide))
  have hsz : sizeLine = 16777216 := sizeLine_eq
  refine ⟨_, rfl, ⟨_, rfl⟩, _, nl, rfl, rfl, by rw [nl_eq]; rfl, by omega, fun p np => ⟨p, _, rfl, .inl ⟨SqL.of upd_same, fun l nl' => ?_⟩⟩⟩
  rw [textS_split hne h10, show (ls.map S).map V.str = rowsV ls by unfold rowsV; rw [List.map_map]; rfl]
  have k1 : Kq [] H (upd (upd H p (.lst (rowsV ls))) l (.tup (rowsV ls))) := by
    rw [textS_split hne h10, show (ls.map S).map V.str = rowsV ls by unfold rowsV; rw [List.map_map]; rfl] at nl'
    exact (Kq.alloc np).trans (Kq.alloc nl')
  have a1 : SqT K (upd (upd H p (.lst (rowsV ls))) l (.tup (rowsV ls))) l (rowsV ls) := SqT.of upd_same
  generalize (upd (upd H p (.lst (rowsV ls))) l (.tup (rowsV ls))) = H1 at k1 a1 ⊢
  refine ⟨_, rfl, l, _, rfl, .inr a1, _, _, rfl, rfl, _, rfl, ?_⟩
  rw [rowsV_len]
  refine iteD (fun h => kf (by unfold goodB; rw [decide_eq_false (by omega)]; rfl) H1 k1) (fun h12 => ?_)
  have bad : ∀ i (hi : i < ls.length), goodRow ls[i] = false → goodB ls = false := fun i hi hg => by
    unfold goodB
    rw [decide_eq_true (by omega)]
    show ls.all goodRow = false
    rw [List.all_eq_false]
    exact ⟨ls[i], List.getElem_mem _, by rw [hg]; simp⟩
  refine ⟨_, rfl, l, rfl, ⟨_, a1⟩, ?_⟩
  refine for_tup (K := K) (a := l) (xs := rowsV ls) (fun i σ H' => Kq [] H1 H' ∧ (∃ v2, σ = [some (.str (textS ls)), some (.ref l), v2]) ∧ ∀ m ∈ ls.take i, goodRow m = true) ⟨Kq.refl, ⟨none, rfl⟩, fun m hm => by simp at hm⟩ (fun i σ H' _ ⟨k', _⟩ => k'.tup a1) ?_ ?_
  · rintro i v σ H' hi ⟨k', ⟨v2, rfl⟩, hg⟩
    have hil : i < ls.length := by have := (List.getElem?_eq_some_iff.mp hi).1; rwa [rowsV_len] at this
    have hv : v = V.str (S ls[i]) := by
      unfold rowsV at hi
      rw [List.getElem?_map, List.getElem?_eq_getElem hil] at hi
      exact (Option.some.inj hi).symm
    subst hv
    have hl1 := hlong ls[i] (List.getElem_mem _)
    refine ⟨_, rfl, _, rfl, S16 (by omega), _, _, rfl, rfl, _, rfl, ?_⟩
    rw [S_len]
    refine iteD (fun h60 => kf (bad i hil (by unfold goodRow; rw [decide_eq_false (by omega)]; rfl)) H' (k1.trans k')) (fun h60 => ?_)
    refine ⟨_, rfl, ls[i], rfl, k'.tab _ (k1.tab _ hT), fun H2 k2 => ⟨_, rfl, ?_⟩⟩
    cases hs : ls[i].all signB with
    | false => exact iteT (kf (bad i hil (by unfold goodRow; rw [hs]; simp)) H2 ((k1.trans k').trans k2))
    | true =>
      refine iteF ⟨k'.trans k2, ⟨_, rfl⟩, fun m hm => ?_⟩
      rw [List.take_succ_eq_append_getElem hil] at hm
      rcases List.mem_append.mp hm with hm | hm
      · exact hg m hm
      · rw [List.mem_singleton.mp hm]
        unfold goodRow
        rw [hs, decide_eq_true (by omega)]; rfl
  · rintro σ H' ⟨k', ⟨v2, rfl⟩, hg⟩
    rw [rowsV_len, List.take_length] at hg
    refine ⟨_, rfl, l, _, _, _, ⟨ls, 0, 0, []⟩, rfl, rfl, rfl, rfl, k'.tup a1, fun q H2 k2 a2 => ?_⟩
    exact kt (by unfold goodB; rw [decide_eq_true (by omega)]; exact List.all_eq_true.mpr hg) q H2 ((k1.trans k').trans k2) a2
theorem good_ok {ls : List Ln} (hne : ls ≠ []) (h : goodB ls = true) : Pg.Ok ⟨ls, 0, 0, []⟩ := by
  unfold goodB at h
  simp only [Bool.and_eq_true, decide_eq_true_eq, List.all_eq_true] at h
  have h2 : ∀ l ∈ ls, l.length ≤ 60 ∧ ∀ c ∈ l, signB c = true := fun l hl => by
    have := h.2 l hl
    unfold goodRow at this
    simp only [Bool.and_eq_true, decide_eq_true_eq, List.all_eq_true] at this
    exact this
  refine ⟨h.1, fun l hl => (h2 l hl).1, List.length_pos_iff.mpr hne, Nat.zero_le _, Nat.zero_le _, fun l hl c hc => ?_, fun c hc => by simp at hc⟩
  have := (h2 l hl).2 c hc
  rw [signB_eq] at this
  exact of_decide_eq_true this
end
end KT
set_option Elab.async false
set_option linter.all false
set_option maxRecDepth 100000
set_option maxHeartbeats 4000000
namespace KT
open PySem PySem.Spec PyProof.Rows L2 GxR
variable [GT]
/-! ### rows held against rows -/
def rowsD (ls : List Ln) : PyData := .tuple (ls.map fun l => .str (S l))
theorem dp_strs {K : PySem.W.Frag} {H : Hp} : ∀ ls : List Ln, DpAll K H (rowsV ls) (ls.map fun l => PyData.str (S l))
  | [] => .nil
  | l :: r => .cons (.str _) (dp_strs r)
theorem dp_rows {K : PySem.W.Frag} {H : Hp} {t : Addr} {ls : List Ln} (h : SqT K H t (rowsV ls)) : Dp K H (.ref t) (rowsD ls) := .tup h (dp_strs ls)
theorem strOk_sig {l : Ln} (h : ∀ c ∈ l, okSign c) : PyData.strOk (S l) = true := by
  unfold PyData.strOk
  rw [Array.all_eq_true_iff_forall_mem]
  intro c hc
  have : c ∈ l := by simpa using hc
  have := (h c this).2
  exact decide_eq_true (by omega)
theorem canLay_strs : ∀ ls : List Ln, (∀ l ∈ ls, ∀ c ∈ l, okSign c) → PyData.canLayAll0 (ls.map fun l => PyData.str (S l)) = true
  | [], _ => rfl
  | l :: r, h => by
    show (PyData.strOk (S l) && PyData.canLayAll0 (r.map fun l => PyData.str (S l))) = true
    rw [strOk_sig (h l (by simp)), canLay_strs r fun m hm => h m (by simp [hm])]; rfl
theorem depth_strs : ∀ ls : List Ln, PyData.depthAll (ls.map fun l => PyData.str (S l)) = 0
  | [] => rfl
  | l :: r => by
    show max 0 (PyData.depthAll (r.map fun l => PyData.str (S l))) = 0
    rw [depth_strs r]; rfl
theorem shaped_rows {ls : List Ln} (h : ∀ l ∈ ls, ∀ c ∈ l, okSign c) : SeqAt.shaped (rowsD ls) = true := by
  unfold SeqAt.shaped rowsD
  have h1 : PyData.canLay0 (.tuple (ls.map fun l => PyData.str (S l))) = PyData.canLayAll0 (ls.map fun l => PyData.str (S l)) := by simp [PyData.canLay0]
  have h2 : PyData.depth (.tuple (ls.map fun l => PyData.str (S l))) = PyData.depthAll (ls.map fun l => PyData.str (S l)) + 1 := by simp [PyData.depth]
  rw [h1, h2, canLay_strs ls h, depth_strs]; rfl
theorem eqv_strs : ∀ a b : List Ln, PyData.eqvAll (a.map fun l => PyData.str (S l)) (b.map fun l => PyData.str (S l)) = decide (a = b)
  | [], [] => rfl
  | [], _ :: _ => rfl
  | _ :: _, [] => rfl
  | x :: a, y :: b => by
    show (PyData.eqv (.str (S x)) (.str (S y)) && PyData.eqvAll (a.map fun l => PyData.str (S l)) (b.map fun l => PyData.str (S l))) = _
    rw [eqv_strs a b]
    have : PyData.eqv (.str (S x)) (.str (S y)) = (S x == S y) := by simp [PyData.eqv]
    rw [this]
    by_cases e : x = y
    · subst e; simp
    · have : (S x == S y) = false := by rw [beq_eq_false_iff_ne]; exact fun z => e (S_inj z)
      rw [this]; simp [e]
theorem eqv_rows (a b : List Ln) : PyData.eqv (rowsD a) (rowsD b) = decide (a = b) := by
  unfold rowsD
  have : PyData.eqv (.tuple (a.map fun l => PyData.str (S l))) (.tuple (b.map fun l => PyData.str (S l))) = PyData.eqvAll (a.map fun l => PyData.str (S l)) (b.map fun l => PyData.str (S l)) := by simp [PyData.eqv]
  rw [this, eqv_strs]
/-! ### the editor -/
structure EdSt where
  page : Pg
  tapes : Nat → List Ky
  taped : Option Nat
  pressed : List Ky
  units : List (Pg × Pg)
  undone : List (Pg × Pg)
/-- where an editor's parts stand -/
structure EdM where
  e : Addr
  t : Addr
  pr : Addr
  un : Addr
  ud : Addr
def EdM.l (m : EdM) : List Addr := [m.e, m.t, m.pr, m.un, m.ud]
def recV : Option Nat → V
  | none => .non
  | some n => .str (nameS n)
def edF (p t : Addr) (r : V) (pr un ud : Addr) : List (Str × V) := [("page", .ref p), ("tapes", .ref t), ("recorded", r), ("pressed", .ref pr), ("units", .ref un), ("undone", .ref ud)]
theorem edF_page (p t : Addr) (r : V) (pr un ud : Addr) : (edF p t r pr un ud).lookup ("page" : Str) = some (.ref p) := by kernel_rfl
theorem edF_tapes (p t : Addr) (r : V) (pr un ud : Addr) : (edF p t r pr un ud).lookup ("tapes" : Str) = some (.ref t) := by kernel_rfl
theorem edF_recorded (p t : Addr) (r : V) (pr un ud : Addr) : (edF p t r pr un ud).lookup ("recorded" : Str) = some r := by kernel_rfl
theorem edF_pressed (p t : Addr) (r : V) (pr un ud : Addr) : (edF p t r pr un ud).lookup ("pressed" : Str) = some (.ref pr) := by kernel_rfl
theorem edF_units (p t : Addr) (r : V) (pr un ud : Addr) : (edF p t r pr un ud).lookup ("units" : Str) = some (.ref un) := by kernel_rfl
theorem edF_undone (p t : Addr) (r : V) (pr un ud : Addr) : (edF p t r pr un ud).lookup ("undone" : Str) = some (.ref ud) := by kernel_rfl
theorem edF_put_page (p q t : Addr) (r : V) (pr un ud : Addr) : putF "page" (.ref q) (edF p t r pr un ud) = edF q t r pr un ud := by kernel_rfl
theorem edF_put_recorded (p t : Addr) (r r' : V) (pr un ud : Addr) : putF "recorded" r' (edF p t r pr un ud) = edF p t r' pr un ud := by kernel_rfl
theorem edF_put_pressed (p t : Addr) (r : V) (pr pr' un ud : Addr) : putF "pressed" (.ref pr') (edF p t r pr un ud) = edF p t r pr' un ud := by kernel_rfl
theorem edF_put_undone (p t : Addr) (r : V) (pr un ud ud' : Addr) : putF "undone" (.ref ud') (edF p t r pr un ud) = edF p t r pr un ud' := by kernel_rfl
theorem edF_make (p t : Addr) (r : V) (pr un ud : Addr) : putF "undone" (.ref ud) (putF "units" (.ref un) (putF "pressed" (.ref pr) (putF "recorded" r (putF "tapes" (.ref t) (putF "page" (.ref p) []))))) = edF p t r pr un ud := by kernel_rfl
theorem mut_ed (C dx p t : Addr) (r : V) (pr un ud : Addr) : mutO (.ins C dx (edF p t r pr un ud)) = true := by kernel_rfl
inductive UnitsAt (K : PySem.W.Frag) (H : Hp) : List Addr → List (Pg × Pg) → Prop where
  | nil : UnitsAt K H [] []
  | cons {a p q : Addr} {u : Pg × Pg} {as : List Addr} {us : List (Pg × Pg)} (h : SqT K H a [.ref p, .ref q]) (h1 : PageAt K H p u.1) (h2 : PageAt K H q u.2) (r : UnitsAt K H as us) : UnitsAt K H (a :: as) (u :: us)
theorem UnitsAt.imp {K : PySem.W.Frag} {H H1 : Hp} {as : List Addr} {us : List (Pg × Pg)} (f : ∀ a xs, SqT K H a xs → SqT K H1 a xs) (g : ∀ p x, PageAt K H p x → PageAt K H1 p x) (h : UnitsAt K H as us) : UnitsAt K H1 as us := by
  induction h with
  | nil => exact .nil
  | cons h h1 h2 _ ih => exact .cons (f _ _ h) (g _ _ h1) (g _ _ h2) ih
theorem UnitsAt.snoc {K : PySem.W.Frag} {H : Hp} {as : List Addr} {us : List (Pg × Pg)} {a p q : Addr} {u : Pg × Pg} (h : UnitsAt K H as us) (ha : SqT K H a [.ref p, .ref q]) (h1 : PageAt K H p u.1) (h2 : PageAt K H q u.2) : UnitsAt K H (as ++ [a]) (us ++ [u]) := by
  induction h with
  | nil => exact .cons ha h1 h2 .nil
  | cons h g1 g2 _ ih => exact .cons h g1 g2 ih
theorem UnitsAt.len {K : PySem.W.Frag} {H : Hp} {as : List Addr} {us : List (Pg × Pg)} (h : UnitsAt K H as us) : as.length = us.length := by
  induction h with
  | nil => rfl
  | cons _ _ _ _ ih => simp [ih]
/-- an editor stands at m -/
structure EdAt (K : PySem.W.Frag) (H : Hp) (m : EdM) (ed : EdSt) : Prop where
  ex : ∃ dx p ap au ad, H m.e = some (.ins (He.ga K "Editor") dx (edF p m.t (recV ed.taped) m.pr m.un m.ud)) ∧ PageAt K H p ed.page ∧ H m.pr = some (.lst (ap.map V.ref)) ∧ KeysAt K H ap ed.pressed ∧
    H m.un = some (.lst (au.map V.ref)) ∧ UnitsAt K H au ed.units ∧ H m.ud = some (.lst (ad.map V.ref)) ∧ UnitsAt K H ad ed.undone
  tapes : TapesAt K H m.t ed.tapes
  tok : TpOk ed.tapes
  sign : TabG H (tS K)
  ok : ed.page.Ok
  d1 : m.pr ≠ m.un
  d2 : m.pr ≠ m.ud
  d3 : m.un ≠ m.ud
  pok : ∀ k ∈ ed.pressed, k.Ok
  uok : ∀ u ∈ ed.units, u.1.Ok ∧ u.2.Ok
  dok : ∀ u ∈ ed.undone, u.1.Ok ∧ u.2.Ok
  rok : ∀ n, ed.taped = some n → n < 8
theorem EdAt.wr {K : PySem.W.Frag} {H : Hp} {m : EdM} {ed : EdSt} (h : EdAt K H m ed) : ∀ b ∈ m.l, ∃ o, H b = some o ∧ mutO o = true := by
  obtain ⟨dx, p, ap, au, ad, h1, _, h3, _, h5, _, h7, _⟩ := h.ex
  obtain ⟨kvs, h9, _⟩ := h.tapes
  intro b hb
  simp only [EdM.l, List.mem_cons, List.not_mem_nil, or_false] at hb
  rcases hb with rfl | rfl | rfl | rfl | rfl
  · exact ⟨_, h1, mut_ed _ _ _ _ _ _ _ _⟩
  · exact ⟨_, h9, rfl⟩
  · exact ⟨_, h3, rfl⟩
  · exact ⟨_, h5, rfl⟩
  · exact ⟨_, h7, rfl⟩
/-- what is written elsewhere is nothing to an editor -/
theorem EdAt.kf {K : PySem.W.Frag} {S : List Addr} {H H1 : Hp} {m : EdM} {ed : EdSt} (h : EdAt K H m ed) (k : Kf S H H1) (d : ∀ b ∈ m.l, b ∉ S) : EdAt K H1 m ed := by
  obtain ⟨dx, p, ap, au, ad, h1, h2, h3, h4, h5, h6, h7, h8⟩ := h.ex
  have g : ∀ {b o}, b ∈ m.l → H b = some o → noTbl o = true → H1 b = some o := fun hb e n => k.q.at_ _ _ e n (d _ hb)
  exact ⟨⟨dx, p, ap, au, ad, g (by simp [EdM.l]) h1 rfl, k.page h2, g (by simp [EdM.l]) h3 rfl, k.keys h4, g (by simp [EdM.l]) h5 rfl, h6.imp (fun _ _ z => k.tup z) (fun _ _ z => k.page z), g (by simp [EdM.l]) h7 rfl, h8.imp (fun _ _ z => k.tup z) (fun _ _ z => k.page z)⟩,
    k.tapes h.tapes (d _ (by simp [EdM.l])), h.tok, k.q.tab _ h.sign, h.ok, h.d1, h.d2, h.d3, h.pok, h.uok, h.dok, h.rok⟩
theorem EdAt.kq {K : PySem.W.Frag} {H H1 : Hp} {m : EdM} {ed : EdSt} (h : EdAt K H m ed) (k : Kq [] H H1) : EdAt K H1 m ed := h.kf (Kf.of (S := []) k (fun b hb => absurd hb (by simp))) (fun b _ => by simp)
section
variable {P : Program} {w : World} {K : PySem.W.Frag} {mg : Str → Option Value} {base : Heap}
def sp_ed_text (K : PySem.W.Frag) : Sp := fun vs H Q _ => ∃ m ed, vs = [.ref m.e] ∧ EdAt K H m ed ∧ Q (.str (textS ed.page.rows)) H
theorem sc_Editor_text : FnScope ["self"] ["self"] (defScope s_Editor_text) := ⟨rfl, rfl, rfl, by decide +kernel, rfl, by decide +kernel, by decide +kernel⟩
theorem ok_Editor_text (T : Tx w K mg) : Fk P w K mg base 1 (Ad K d_Editor_text.at_) ["self"] (sp_ed_text K) := by
  refine mkF T.f_Editor_text sc_Editor_text rfl (fun _ _ _ _ _ _ us hl => match us, hl with | [_], _ => rfl) (fun vs H Q E h => by obtain ⟨_, _, rfl, _⟩ := h; rfl) (fun cdv A outer s H vs Q E hcd hcode hr h => ?_)
  refine ⟨_, (pss_one (ps_ret (pe_join pe_str (pe_fld (pe_fld (pv 0) rfl) rfl)))), ?_⟩
  obtain ⟨m, ed, rfl, hE, k⟩ := h
  obtain ⟨dx, p, ap, au, ad, h1, h2, _⟩ := hE.ex
  have ok := hE.ok
  refine ⟨⟨_, rfl⟩, _, rfl, m.e, _, dx, _, _, rfl, h1, T.c_Editor, T.a_Editor_page, edF_page _ _ _ _ _ _, rd_rows T h2 fun t ht => ⟨nl, t, ed.page.rows.map S, rfl, rfl, .inr (by rw [List.map_map]; exact ht), ?_, k⟩⟩
  have hs : ∀ ls : List Ln, (∀ l ∈ ls, l.length ≤ 60) → ((ls.map S).map (·.length)).sum ≤ ls.length * 60 := by
    intro ls
    induction ls with
    | nil => intro _; simp
    | cons a r ih =>
      intro h
      have h1 := h a (by simp)
      have h2 := ih fun l hl => h l (by simp [hl])
      simp only [List.map_cons, List.sum_cons, List.length_cons, S_len]
      omega
  have h3 := hs _ ok.long
  have h4 := ok.many
  have h5 : nl.length = 1 := by rw [nl_eq]; rfl
  rw [List.length_map, h5]
  omega
def sp_ed_place (K : PySem.W.Frag) : Sp := fun vs H Q _ => ∃ m ed, vs = [.ref m.e] ∧ EdAt K H m ed ∧ ∀ q H', Kq [] H H' → H' q = some (.tup [.int ed.page.row, .int ed.page.col]) → Q (.ref q) H'
theorem sc_Editor_place : FnScope ["self"] ["self"] (defScope s_Editor_place) := ⟨rfl, rfl, rfl, by decide +kernel, rfl, by decide +kernel, by decide +kernel⟩
theorem ok_Editor_place (T : Tx w K mg) : Fk P w K mg base 1 (Ad K d_Editor_place.at_) ["self"] (sp_ed_place K) := by
  refine mkF T.f_Editor_place sc_Editor_place rfl (fun _ _ _ _ _ _ us hl => match us, hl with | [_], _ => rfl) (fun vs H Q E h => by obtain ⟨_, _, rfl, _⟩ := h; rfl) (fun cdv A outer s H vs Q E hcd hcode hr h => ?_)
  refine ⟨_, (pss_one (ps_ret (pe_tup (pa_cons (pe_fld (pe_fld (pv 0) rfl) rfl) (pa_cons (pe_fld (pe_fld (pv 0) rfl) rfl) pa_nil))))), ?_⟩
  obtain ⟨m, ed, rfl, hE, k⟩ := h
  obtain ⟨dx, p, ap, au, ad, h1, h2, _⟩ := hE.ex
  refine ⟨_, rfl, m.e, _, dx, _, _, rfl, h1, T.c_Editor, T.a_Editor_page, edF_page _ _ _ _ _ _, rd_row T h2 ⟨_, rfl, m.e, _, dx, _, _, rfl, h1, T.c_Editor, T.a_Editor_page, edF_page _ _ _ _ _ _, rd_col T h2 ⟨line16 (by show 2 ≤ 1000000; decide), fun q nq => ?_⟩⟩⟩
  exact k q _ (Kq.alloc nq) upd_same
def sp_ed_clip (K : PySem.W.Frag) : Sp := fun vs H Q _ => ∃ m ed, vs = [.ref m.e] ∧ EdAt K H m ed ∧ Q (.str (S ed.page.clip)) H
theorem sc_Editor_clip : FnScope ["self"] ["self"] (defScope s_Editor_clip) := ⟨rfl, rfl, rfl, by decide +kernel, rfl, by decide +kernel, by decide +kernel⟩
theorem ok_Editor_clip (T : Tx w K mg) : Fk P w K mg base 1 (Ad K d_Editor_clip.at_) ["self"] (sp_ed_clip K) := by
  refine mkF T.f_Editor_clip sc_Editor_clip rfl (fun _ _ _ _ _ _ us hl => match us, hl with | [_], _ => rfl) (fun vs H Q E h => by obtain ⟨_, _, rfl, _⟩ := h; rfl) (fun cdv A outer s H vs Q E hcd hcode hr h => ?_)
  refine ⟨_, (pss_one (ps_ret (pe_fld (pe_fld (pv 0) rfl) rfl))), ?_⟩
  obtain ⟨m, ed, rfl, hE, k⟩ := h
  obtain ⟨dx, p, ap, au, ad, h1, h2, _⟩ := hE.ex
  exact ⟨_, rfl, m.e, _, dx, _, _, rfl, h1, T.c_Editor, T.a_Editor_page, edF_page _ _ _ _ _ _, rd_clip T h2 k⟩
end
end KT
set_option Elab.async false
set_option linter.all false
set_option maxRecDepth 100000
set_option maxHeartbeats 4000000
namespace KT
open PySem PySem.Spec PyProof.Rows L2 GxR
variable [GT]
/-- what was not there may be written -/
theorem Kq.writeF {S : List Addr} {H H' : Hp} {d : Addr} {o u : HO} (k : Kq S H H') (nd : H d = none) (hd : H' d = some u) (n : wrO u = true := by rfl) : Kq S H (upd H' d o) := by
  refine ⟨fun b v h n' m => ?_, fun q h => ?_, fun b h => ?_, fun q m h => tabS_imp (k.tabS q m h) (fun ps e => by rw [upd_ne (wr_tbl hd n e)]; exact e) (fun c e => by rw [upd_ne (wr_ne hd n e)]; exact e)⟩
  · rw [upd_ne (ne_of_none h nd)]; exact k.at_ b v h n' m
  · obtain ⟨ps, h1, h2⟩ := k.tab q h
    have : q ≠ d := fun e => by
      subst e
      rw [hd] at h1
      cases h1
      cases n
    exact ⟨ps, by rw [upd_ne this]; exact h1, h2⟩
  · by_cases e : b = d
    · subst e; rw [upd_same] at h; cases h
    · rw [upd_ne e] at h; exact k.fr b h
theorem Kq.tup1 {K : PySem.W.Frag} {x C dx : Addr} {fs : List (Str × V)} {H H' : Hp} (k : Kq [x] H H') (hx : H x = some (.ins C dx fs)) {l : Addr} {xs : List V} (h : SqT K H l xs) : SqT K H' l xs := by
  rcases h with (h | ⟨o, h⟩) | h
  · exact .inl (.inl (k.gets h (by simp; exact fun e => by rw [e, hx] at h; cases h)))
  · exact .inl (.inr ⟨o, k.gets h (by simp; exact fun e => by rw [e, hx] at h; cases h)⟩)
  · exact .inr h
theorem Kq.page1 {K : PySem.W.Frag} {x C dx : Addr} {fs : List (Str × V)} {H H' : Hp} (k : Kq [x] H H') (hx : H x = some (.ins C dx fs)) {p : Addr} {g : Pg} (h : PageAt K H p g) (ne : p ≠ x) : PageAt K H' p g := by
  obtain ⟨d, t, h1, h2⟩ := h
  exact ⟨d, t, k.gets h1 (by simp [ne]), k.tup1 hx h2⟩
theorem valV_zip : ∀ {ks : List Key} {vs : List V} {n : Nat} (h1 : n < ks.length) (h2 : n < vs.length), ks.Nodup → valV (ks.zip vs) ks[n] = some vs[n]
  | k :: ks, v :: vs, 0, _, _, _ => valV_pos (p := (k, v)) rfl
  | k :: ks, v :: vs, n + 1, h1, h2, hn => by
    have hne : ¬ k = ks[n]'(by simpa using h1) := fun e => (List.nodup_cons.mp hn).1 (e ▸ List.getElem_mem _)
    show valV ((k, v) :: ks.zip vs) (ks[n]'(by simpa using h1)) = some (vs[n]'(by simpa using h2))
    rw [valV_neg (p := (k, v)) hne]
    exact valV_zip (by simpa using h1) (by simpa using h2) (List.nodup_cons.mp hn).2
theorem valV_no {kvs : List (Key × V)} {k : Key} (h : ∀ p ∈ kvs, p.1 ≠ k) : valV kvs k = none := by
  induction kvs with
  | nil => rfl
  | cons p r ih => rw [valV_neg (h p (by simp))]; exact ih fun q hq => h q (by simp [hq])
theorem names8_nd : names8.Nodup := by decide +kernel
theorem names8_V : namesV = names8.map kV := by decide +kernel
theorem names8_at {n : Nat} (h : n < 8) : names8[n]'(by simpa [names8] using h) = .inr (nameS n) := by
  have : ∀ n (h : n < 8), names8[n]'(by simpa [names8] using h) = .inr (nameS n) := by decide +kernel
  exact this n h
def EdSt.new (ls : List Ln) : EdSt := ⟨⟨ls, 0, 0, []⟩, fun _ => [], none, [], [], []⟩
section
variable {P : Program} {w : World} {K : PySem.W.Frag} {mg : Str → Option Value} {base : Heap}
def sp_Editor___init__ (K : PySem.W.Frag) : Sp := fun vs H Q E => ∃ x dx ls, vs = [.ref x, .str (textS ls)] ∧ H x = some (.ins (He.ga K "Editor") dx []) ∧ ls ≠ [] ∧ (∀ l ∈ ls, 10 ∉ l) ∧ (∀ l ∈ ls, l.length ≤ 1000) ∧ ls.length ≤ 900 ∧ TabG H (tS K) ∧
  (goodB ls = true → ∀ t pr un ud H', H t = none → H pr = none → H un = none → H ud = none → Kq [x] H H' → EdAt K H' ⟨x, t, pr, un, ud⟩ (EdSt.new ls) → Q .non H') ∧ (goodB ls = false → ∀ H', Kq [] H H' → E (.ref (He.ga K "BadText")) none H')
theorem sc_Editor___init__ : FnScope ["self", "text", "name"] ["self", "text"] (defScope s_Editor___init__) := ⟨rfl, rfl, rfl, by decide +kernel, rfl, by decide +kernel, by decide +kernel⟩
theorem ok_Editor___init__ (T : Tx w K mg) (B : TabB base mg (cS K) (tS K)) : Fk P w K mg base 4 (Ad K d_Editor___init__.at_) ["self", "text"] (sp_Editor___init__ K) := by
  have F_first_page := ok_first_page (P := P) (base := base) T B
  refine mkF T.f_Editor___init__ sc_Editor___init__ rfl (fun _ _ _ _ _ _ us hl => match us, hl with | [_, _], _ => rfl) (fun vs H Q E h => by obtain ⟨_, _, _, rfl, _⟩ := h; rfl) (fun cdv A outer s H vs Q E hcd hcode hr h => ?_)
  refine ⟨_, (pss_cons (ps_fld (pv 0) (pe_cF F_first_page (hr.mono (by decide)) T.g_first_page px (pa_cons (pv 1) pa_nil)) rfl)
      (pss_cons (ps_fld (pv 0) (pe_dc (own := [("name", 2)]) rfl sc_Editor___init__.nd (pi_tup (pe_glob (v := .ref (He.ga K "NAMES")) rfl T.g_NAMES rfl)) (blkOk_by (own := [("name", 2)]) (N := ["self", "text", "name"]) (sc := defScope s_Editor___init__) (by decide +kernel)) (fun _ _ _ _ _ => (pg_name (i := 2) sc_Editor___init__.nd rfl (.inl rfl))) (fun _ _ _ _ _ => pts_nil) (fun _ _ _ _ _ => (pv 2)) (fun _ _ _ _ _ => (pe_tup pa_nil))) rfl)
      (pss_cons (ps_fld (pv 0) pe_non rfl)
      (pss_cons (ps_fld (pv 0) (pe_lst pa_nil) rfl)
      (pss_cons (ps_fld (pv 0) (pe_lst pa_nil) rfl)
      (pss_one (ps_fld (pv 0) (pe_lst pa_nil) rfl))))))), ?_⟩
  obtain ⟨x, dx, ls, rfl, hx, hne, h10, hlong, hmany, hT, kt, kf⟩ := h
  refine ⟨_, rfl, ls, rfl, hne, h10, hlong, hmany, hT, fun hg q H1 k1 a1 => ?_, fun hb H1 k1 => kf hb H1 k1⟩
  refine ⟨_, rfl, x, _, dx, _, rfl, k1.get hx, T.c_Editor, T.a_Editor_page, (by show 0 < 1000; decide), ?_⟩
  have kw : Kq [x] H (upd H1 x (.ins (He.ga K "Editor") dx (putF "page" (.ref q) []))) := k1.of.trans (Kq.write (k1.get hx) (by simp))
  have gx : (upd H1 x (.ins (He.ga K "Editor") dx (putF "page" (.ref q) []))) x = some (.ins (He.ga K "Editor") dx (putF "page" (.ref q) [])) := upd_same
  have hqx : q ≠ x := fun e => by
    obtain ⟨dq, t, h1, h2⟩ := a1
    rw [e, k1.get hx] at h1
    have z := congrArg (fun o => match o with | some (HO.ins _ _ fs) => fs.length | _ => 0) h1
    exact absurd z (by show ¬ (0 = 4); decide)
  have aq : PageAt K (upd H1 x (.ins (He.ga K "Editor") dx (putF "page" (.ref q) []))) q ⟨ls, 0, 0, []⟩ := by
    obtain ⟨dq, t, h1, h2⟩ := a1
    have hne1 : q ≠ x := fun e => by
      rw [e, k1.get hx] at h1
      have z := congrArg (fun o => match o with | some (HO.ins _ _ fs) => fs.length | _ => 0) h1
      exact absurd z (by show ¬ (0 = 4); decide)
    refine ⟨dq, t, by rw [upd_ne hne1]; exact h1, ?_⟩
    rcases h2 with (h2 | ⟨o, h2⟩) | h2
    · exact .inl (.inl (by rw [upd_ne (fun e => by rw [e, k1.get hx] at h2; cases h2)]; exact h2))
    · exact .inl (.inr ⟨o, by rw [upd_ne (fun e => by rw [e, k1.get hx] at h2; cases h2)]; exact h2⟩)
    · exact .inr h2
  generalize (upd H1 x (.ins (He.ga K "Editor") dx (putF "page" (.ref q) []))) = H2 at kw gx aq ⊢
  -- the tapes
  refine ⟨_, rfl, ⟨_, T.names _⟩, fun D nD => ?_⟩
  refine dc_tup (K := K) (a := He.ga K "NAMES") (xs := namesV) (fun i H' => ∃ as : List Addr, as.length = i ∧ H' D = some (.dK ((names8.take i).zip (as.map V.ref))) ∧ (∀ a ∈ as, SqT K H' a []) ∧ Kq [] H2 H')
    ⟨[], rfl, upd_same, fun a ha => by simp at ha, Kq.alloc nD⟩ (fun i H' _ _ => T.names _) ?_ ?_
  · rintro i v H' hi ⟨as, hlen, hD, has, k2⟩
    have hi8 : i < 8 := by have := (List.getElem?_eq_some_iff.mp hi).1; exact this
    have hi9 : i < names8.length := hi8
    have hv : v = kV names8[i] := by
      rw [names8_V, List.getElem?_map, List.getElem?_eq_getElem hi9] at hi
      exact (Option.some.inj hi).symm
    subst hv
    refine ⟨rfl, _, rfl, line16 (by show 0 ≤ 1000000; decide), fun p np => ?_⟩
    have npD : D ≠ p := ne_of_none hD np
    refine ⟨_, names8[i], rfl, (by rw [upd_ne npD]; exact hD), ?_, as ++ [p], by simp [hlen], ?_, fun a ha => ?_, ?_⟩
    · rw [List.length_zip, List.length_take, List.length_map]
      exact small1000 (by omega)
    · rw [upd_same]
      have hno : valV ((names8.take i).zip (as.map V.ref)) names8[i] = none := valV_no fun pq hpq e => by
        have h1 : pq.1 ∈ names8.take i := (List.of_mem_zip hpq).1
        rw [e] at h1
        obtain ⟨j, hj, ej⟩ := List.mem_iff_getElem.mp h1
        rw [List.length_take] at hj
        rw [List.getElem_take] at ej
        have := (List.getElem_inj names8_nd).mp ej
        omega
      rw [putK_new _ hno, List.take_succ_eq_append_getElem hi9, List.map_append, List.zip_append (by rw [List.length_take, List.length_map]; omega)]
      rfl
    · have k3 : Kq [] H' (upd H' p (.tup [])) := Kq.alloc np
      have nD2 : ∀ xs, (upd (upd H' p (.tup [])) D (.dK xs)) = (upd (upd H' p (.tup [])) D (.dK xs)) := fun _ => rfl
      have tupD : ∀ {l ys}, SqT K (upd H' p (.tup [])) l ys → ∀ o, SqT K (upd (upd H' p (.tup [])) D (.dK o)) l ys := fun {l ys} h o => by
        rcases h with (h | ⟨u, h⟩) | h
        · exact .inl (.inl (by rw [upd_ne (fun e => by rw [e, upd_ne npD, hD] at h; cases h)]; exact h))
        · exact .inl (.inr ⟨u, by rw [upd_ne (fun e => by rw [e, upd_ne npD, hD] at h; cases h)]; exact h⟩)
        · exact .inr h
      rcases List.mem_append.mp ha with ha | ha
      · exact tupD (k3.tup (has a ha)) _
      · rw [List.mem_singleton.mp ha]
        exact tupD (SqT.of upd_same) _
    · have nD' : H2 D = none := nD
      exact Kq.writeF (k2.trans (Kq.alloc np)) nD' (by rw [upd_ne npD]; exact hD)
  rintro H3 ⟨as, hlen, hD, has, k3⟩
  have hlen : as.length = 8 := hlen
  have nDH : H D = none := kw.fr D nD
  have gx3 := k3.get gx
  have nxD : D ≠ x := ne_of_none gx nD |>.symm
  -- the rest
  refine ⟨_, rfl, x, _, dx, _, rfl, gx3, T.c_Editor, T.a_Editor_tapes, (by show 1 < 1000; decide), ?_⟩
  refine ⟨_, rfl, x, _, dx, _, rfl, upd_same, T.c_Editor, T.a_Editor_recorded, (by show 2 < 1000; decide), ?_⟩
  refine ⟨line16 (by show 0 ≤ 1000000; decide), fun pr npr => ?_⟩
  have npx : x ≠ pr := fun e => by subst e; rw [upd_same] at npr; cases npr
  refine ⟨_, rfl, x, _, dx, _, rfl, (by rw [upd_ne npx]; exact upd_same), T.c_Editor, T.a_Editor_pressed, (by show 3 < 1000; decide), ?_⟩
  refine ⟨line16 (by show 0 ≤ 1000000; decide), fun un nun => ?_⟩
  have nux : x ≠ un := fun e => by subst e; rw [upd_same] at nun; cases nun
  refine ⟨_, rfl, x, _, dx, _, rfl, (by rw [upd_ne nux]; exact upd_same), T.c_Editor, T.a_Editor_units, (by show 4 < 1000; decide), ?_⟩
  refine ⟨line16 (by show 0 ≤ 1000000; decide), fun ud nud => ?_⟩
  have ndx : x ≠ ud := fun e => by subst e; rw [upd_same] at nud; cases nud
  refine ⟨_, rfl, x, _, dx, _, rfl, (by rw [upd_ne ndx]; exact upd_same), T.c_Editor, T.a_Editor_undone, (by show 5 < 1000; decide), ?_⟩
  rw [edF_make]
  have g1 : ∀ o, (upd H3 x o) x = some o := fun o => upd_same
  have nprH : H3 pr = none := by
    by_cases e : pr = x
    · exact absurd e (Ne.symm npx)
    · rw [upd_ne e, upd_ne e] at npr; exact npr
  have e1 : un ≠ pr := fun e => by subst e; rw [upd_ne (Ne.symm nux), upd_same] at nun; cases nun
  have e2 : ud ≠ un := fun e => by subst e; rw [upd_ne (Ne.symm ndx), upd_same] at nud; cases nud
  have e3 : ud ≠ pr := fun e => by subst e; rw [upd_ne (Ne.symm ndx), upd_ne e2, upd_ne (Ne.symm ndx), upd_same] at nud; cases nud
  have nunH : H3 un = none := by rw [upd_ne (Ne.symm nux), upd_ne e1, upd_ne (Ne.symm nux), upd_ne (Ne.symm nux)] at nun; exact nun
  have nudH : H3 ud = none := by rw [upd_ne (Ne.symm ndx), upd_ne e2, upd_ne (Ne.symm ndx), upd_ne e3, upd_ne (Ne.symm ndx), upd_ne (Ne.symm ndx)] at nud; exact nud
  have dpr : D ≠ pr := ne_of_none hD nprH
  have dun : D ≠ un := ne_of_none hD nunH
  have dud : D ≠ ud := ne_of_none hD nudH
  have hm : ∀ {o : HO}, x ∈ [x] := fun {o} => by simp
  have k4 := (((((((Kq.write (S := [x]) (o := _) gx3 (by simp)).trans (Kq.write (S := [x]) (o := _) upd_same (by simp))).trans (Kq.alloc (o := .lst []) npr)).trans (Kq.write (S := [x]) (o := _) ((upd_ne npx).trans upd_same) (by simp))).trans (Kq.alloc (o := .lst []) nun)).trans (Kq.write (S := [x]) (o := _) ((upd_ne nux).trans upd_same) (by simp))).trans (Kq.alloc (o := .lst []) nud)).trans (Kq.write (S := [x]) (o := .ins (He.ga K "Editor") dx (edF q D .non pr un ud)) ((upd_ne ndx).trans upd_same) (by simp))
  refine kt hg D pr un ud _ nDH ?_ ?_ ?_ (kw.trans (k3.of.trans k4)) ?_
  · exact kw.fr _ (k3.fr _ nprH)
  · exact kw.fr _ (k3.fr _ nunH)
  · exact kw.fr _ (k3.fr _ nudH)
  refine ⟨⟨dx, q, [], [], [], upd_same, k4.page1 gx3 (k3.page aq) hqx, ?_, .nil, ?_, .nil, ?_, .nil⟩, ⟨_, k4.gets hD (by simp [nxD]), ?_, fun n hn => ?_⟩, ⟨fun n _ => by simp [EdSt.new], fun n _ k hk => by simp [EdSt.new] at hk⟩, ?_, good_ok hne hg, e1.symm, e3.symm, e2.symm, fun k hk => by simp [EdSt.new] at hk, fun u hu => by simp [EdSt.new] at hu, fun u hu => by simp [EdSt.new] at hu, fun n hn => by simp [EdSt.new] at hn⟩
  · show _ = some (HO.lst [])
    rw [upd_ne (Ne.symm npx), upd_ne e3.symm, upd_ne (Ne.symm npx), upd_ne e1.symm, upd_ne (Ne.symm npx), upd_same]
  · show _ = some (HO.lst [])
    rw [upd_ne (Ne.symm nux), upd_ne e2.symm, upd_ne (Ne.symm nux), upd_same]
  · show _ = some (HO.lst [])
    rw [upd_ne (Ne.symm ndx), upd_same]
  · rw [List.take_of_length_le (by decide +kernel), List.map_fst_zip (by rw [List.length_map, hlen]; decide +kernel)]
  · have h1 : n < names8.length := hn
    have h2 : n < (as.map V.ref).length := by rw [List.length_map]; omega
    have h3 := valV_zip h1 h2 names8_nd
    rw [names8_at hn] at h3
    refine ⟨as[n]'(by omega), ?_, [], k4.tup1 gx3 (has _ (List.getElem_mem _)), .nil⟩
    rw [List.take_of_length_le (by decide +kernel), h3, List.getElem_map]
  · exact k4.tab _ (k3.tab _ (kw.tab _ hT))
end
end KT
set_option Elab.async false
set_option linter.all false
set_option maxRecDepth 100000
set_option maxHeartbeats 4000000
namespace KT
open PySem PySem.Spec PyProof.Rows L2 GxR
variable [GT]
/-- what is fresh may be written -/
theorem Kq.fresh {S : List Addr} {H H1 H2 : Hp} (a : Kq [] H H1) (b : Kq S H1 H2) (h : ∀ c ∈ S, H c = none) : Kq [] H H2 :=
  ⟨fun c o q n m => b.at_ c o (a.get q n) n (fun z => absurd (h c z) (by rw [q]; simp)), fun p q => b.tab p (a.tab p q), fun c q => a.fr c (b.fr c q), fun p m q => b.tabS p m (a.tabS p m q)⟩
theorem PlAt.kf {K : PySem.W.Frag} {S : List Addr} {H H1 : Hp} {x t y : Addr} {tp : Nat → List Ky} {st : PSt} (h : PlAt K H x t y tp st) (k : Kf S H H1) (nx : x ∉ S) (ny : y ∉ S) (nt : t ∉ S) : PlAt K H1 x t y tp st := by
  obtain ⟨dx, p, as, h1, h2, h3, h4⟩ := h.ex
  exact ⟨⟨dx, p, as, k.q.at_ _ _ h1 rfl nx, k.page h2, k.q.at_ _ _ h3 rfl ny, k.keys h4⟩, k.tapes h.tapes nt, h.tok, k.q.tab _ h.sign, h.ok, h.small, h.low⟩
theorem Kf.mono {S S' : List Addr} {H H1 : Hp} (k : Kf S H H1) (h : ∀ b ∈ S, b ∈ S') (w : ∀ b ∈ S', ∃ o, H b = some o ∧ mutO o = true) (w' : ∀ b ∈ S', ∃ o, H1 b = some o ∧ mutO o = true) : Kf S' H H1 := ⟨k.q.mono h, w, w'⟩
/-- one list is written -/
theorem Kf.one {H : Hp} {l : Addr} {xs ys : List V} (h : H l = some (.lst xs)) : Kf [l] H (upd H l (.lst ys)) :=
  Kf.write h (by simp) rfl fun b hb => by rw [List.mem_singleton.mp hb]; exact ⟨_, h, rfl⟩
theorem recV_none {o : Option Nat} (h : recV o = .non) : o = none := by
  cases o with
  | none => rfl
  | some n => cases h
def doneE (ed : EdSt) (ky : Ky) (g : Pg) : EdSt :=
  { page := g, tapes := ed.tapes, taped := ed.taped, pressed := if ed.taped.isSome = true then ed.pressed ++ [ky] else ed.pressed,
    units := if g.rows = ed.page.rows then ed.units else ed.units ++ [(ed.page, g)], undone := if g.rows = ed.page.rows then ed.undone else [] }
def runK (ed : EdSt) (ky : Ky) : Res := doK ed.tapes 20 ky ⟨ed.page, [], 0⟩
structure EdSt.Small (ed : EdSt) : Prop where
  p : ed.pressed.length ≤ 900000
  u : ed.units.length ≤ 900000
  d : ed.undone.length ≤ 900000
theorem smallM {n : Nat} (h : n ≤ 1000000) : n < sizeLine := Nat.lt_of_le_of_lt h (by rw [sizeLine_eq]; decide)
section
variable {P : Program} {w : World} {K : PySem.W.Frag} {mg : Str → Option Value} {base : Heap}
def sp_Player___init__ (K : PySem.W.Frag) : Sp := fun vs H Q _ => ∃ x dx p t, vs = [.ref x, .ref p, .ref t] ∧ H x = some (.ins (He.ga K "Player") dx []) ∧ ∀ y H', H y = none → Kq [x] H H' → H' x = some (.ins (He.ga K "Player") dx (playerF p t y 0)) → H' y = some (.lst []) → Q .non H'
theorem sc_Player___init__ : FnScope ["self", "page", "tapes"] ["self", "page", "tapes"] (defScope s_Player___init__) := ⟨rfl, rfl, rfl, by decide +kernel, rfl, by decide +kernel, by decide +kernel⟩
theorem ok_Player___init__ (T : Tx w K mg) : Fk P w K mg base 1 (Ad K d_Player___init__.at_) ["self", "page", "tapes"] (sp_Player___init__ K) := by
  refine mkF T.f_Player___init__ sc_Player___init__ rfl (fun _ _ _ _ _ _ us hl => match us, hl with | [_, _, _], _ => rfl) (fun vs H Q E h => by obtain ⟨_, _, _, _, rfl, _⟩ := h; rfl) (fun cdv A outer s H vs Q E hcd hcode hr h => ?_)
  refine ⟨_, (pss_cons (ps_fld (pv 0) (pv 1) rfl)
      (pss_cons (ps_fld (pv 0) (pv 2) rfl)
      (pss_cons (ps_fld (pv 0) (pe_lst pa_nil) rfl)
      (pss_one (ps_fld (pv 0) pe_int rfl))))), ?_⟩
  obtain ⟨x, dx, p, t, rfl, hx, k⟩ := h
  refine ⟨_, rfl, _, rfl, x, _, dx, _, rfl, hx, T.c_Player, T.a_Player_page, (by show 0 < 1000; decide), ?_⟩
  refine ⟨_, rfl, _, rfl, x, _, dx, _, rfl, upd_same, T.c_Player, T.a_Player_tapes, (by show 1 < 1000; decide), ?_⟩
  refine ⟨line16 (by show 0 ≤ 1000000; decide), fun y ny => ?_⟩
  have nxy : x ≠ y := fun e => by subst e; rw [upd_same] at ny; cases ny
  refine ⟨_, rfl, x, _, dx, _, rfl, (by rw [upd_ne nxy]; exact upd_same), T.c_Player, T.a_Player_typed, (by show 2 < 1000; decide), ?_⟩
  refine ⟨_, rfl, x, _, dx, _, rfl, upd_same, T.c_Player, T.a_Player_things, (by show 3 < 1000; decide), ?_⟩
  rw [playerF_make]
  refine k y _ ?_ ((((Kq.write (S := [x]) (o := _) hx (by simp)).trans (Kq.write (S := [x]) (o := _) upd_same (by simp))).trans (Kq.alloc (o := .lst []) ny)).trans ((Kq.write (S := [x]) (o := _) ((upd_ne nxy).trans upd_same) (by simp)).trans (Kq.write (S := [x]) (o := .ins (He.ga K "Player") dx (playerF p t y 0)) upd_same (by simp)))) upd_same ?_
  · rw [upd_ne (Ne.symm nxy), upd_ne (Ne.symm nxy)] at ny; exact ny
  · rw [upd_ne (Ne.symm nxy), upd_ne (Ne.symm nxy), upd_same]
def sp_Player (K : PySem.W.Frag) : Sp := fun vs H Q _ => ∃ p t g tp, vs = [.ref p, .ref t] ∧ PageAt K H p g ∧ g.Ok ∧ TapesAt K H t tp ∧ TpOk tp ∧ TabG H (tS K) ∧ ∀ x y H', Kq [] H H' → H x = none → H y = none → x ≠ y → PlAt K H' x t y tp ⟨g, [], 0⟩ → Q (.ref x) H'
theorem new_Player {E : XK} : ∀ vs H Q, sp_Player K vs H Q E → ∀ x dx, H x = none → H dx = none → dx ≠ x →
    sp_Player___init__ K (.ref x :: vs) (upd (upd H dx (.own x)) x (.ins (He.ga K "Player") dx [])) (fun v H2 => v = .non ∧ Q (.ref x) H2) E := by
  rintro vs H Q ⟨p, t, g, tp, rfl, hp, hg, ht, hto, hT, k⟩ x dx nx ndx ne
  refine ⟨x, dx, p, t, rfl, upd_same, fun y H' ny k' h1 h2 => ⟨rfl, ?_⟩⟩
  have k0 : Kq [] H (upd (upd H dx (.own x)) x (.ins (He.ga K "Player") dx [])) := Kq.made nx ndx ne
  have kk : Kq [] H H' := k0.fresh k' fun c hc => by rw [List.mem_singleton.mp hc]; exact nx
  have nxy : x ≠ y := fun e => by subst e; rw [upd_same] at ny; cases ny
  exact k x y H' kk nx (k0.fr y ny) nxy ⟨⟨dx, p, [], h1, kk.page hp, h2, .nil⟩, kk.tapes ht, hto, kk.tab _ hT, hg, Nat.le_refl _, Nat.zero_le _⟩
def sp_ed_press (K : PySem.W.Frag) : Sp := fun vs H Q E => ∃ m ed a ky, vs = [.ref m.e, .ref a] ∧ EdAt K H m ed ∧ ed.Small ∧ KeyAt K H a ky ∧ ky.Ok ∧
  (runK ed ky = .long → ∀ H', Kq [] H H' → E (.ref (He.ga K "TooLong")) none H') ∧
  (∀ b st m' H', runK ed ky = .fin b st → m'.e = m.e → m'.t = m.t → m'.pr = m.pr → m'.un = m.un → (m'.ud = m.ud ∨ H m'.ud = none) → Kf m.l H H' → EdAt K H' m' (doneE ed ky st.page) → Q (.bl b) H')
theorem sc_Editor_press : FnScope ["self", "key", "player", "fits"] ["self", "key"] (defScope s_Editor_press) := ⟨rfl, rfl, rfl, by decide +kernel, rfl, by decide +kernel, by decide +kernel⟩
theorem ok_Editor_press (T : Tx w K mg) (B : TabB base mg (cS K) (tS K)) : Fk P w K mg base 70 (Ad K d_Editor_press.at_) ["self", "key"] (sp_ed_press K) := by
  have F_Player___init__ := ok_Player___init__ (P := P) (base := base) T
  have F_Player_do := ok_player (P := P) (base := base) T 20
  have F_check_key := ok_check_key (P := P) (base := base) T B
  refine mkF T.f_Editor_press sc_Editor_press rfl (fun _ _ _ _ _ _ us hl => match us, hl with | [_, _], _ => rfl) (fun vs H Q E h => by obtain ⟨_, _, _, _, rfl, _⟩ := h; rfl) (fun cdv A outer s H vs Q E hcd hcode hr h => ?_)
  refine ⟨_, (pss_cons (ps_expr (pe_cF F_check_key (hr.mono (by decide)) T.g_check_key px (pa_cons (pv 1) pa_nil)))
      (pss_cons (ps_asg (pe_kF (spN := sp_Player K) T.k_Player F_Player___init__ (hr.mono (by decide)) T.g_Player px new_Player (pa_cons (pe_fld (pv 0) rfl) (pa_cons (pe_fld (pv 0) rfl) pa_nil))) (pg_name (i := 2) sc_Editor_press.nd rfl (.inl rfl)))
      (pss_cons (ps_asg (pe_mF _ (pv 2) T.c_Player T.m_Player_do F_Player_do (hr.mono (by decide)) px (pa_cons (pv 1) (pa_cons pe_int pa_nil))) (pg_name (i := 3) sc_Editor_press.nd rfl (.inl rfl)))
      (C8.pss_cut (ps_if (pt_cmpR op_notN (pe_fld (pv 0) rfl) pe_non (nomark _)) (pss_one (ps_expr (pe_bm PySem.F.plainAttrs_list PySem.F.slot_list_append PySem.F.type_list_append mt_append (pe_fld (pv 0) rfl) (pa_cons (pv 1) pa_nil)))) pss_nil)
      (C8.pss_cut (ps_if (pt_cmpR (op_neD hr.units) (pe_fld (pe_fld (pv 2) rfl) rfl) (pe_fld (pe_fld (pv 0) rfl) rfl) (nomark _)) (pss_cons (ps_expr (pe_bm PySem.F.plainAttrs_list PySem.F.slot_list_append PySem.F.type_list_append mt_append (pe_fld (pv 0) rfl) (pa_cons (pe_tup (pa_cons (pe_fld (pv 0) rfl) (pa_cons (pe_fld (pv 2) rfl) pa_nil))) pa_nil)))
      (pss_one (ps_fld (pv 0) (pe_lst pa_nil) rfl))) pss_nil)
      (pss_cons (ps_fld (pv 0) (pe_fld (pv 2) rfl) rfl)
      (pss_one (ps_ret (pv 3))))))))), ?_⟩
  obtain ⟨m, ed, a, ky, rfl, hE, hsm, hk, kok, kl, kf⟩ := h
  refine ⟨_, rfl, a, keyV ky, fun _ => true, rfl, hk, keyV_small kok, hE.sign, fun x e => act_ok T x e, fun _ H1 k1 => ?_, fun e => absurd ((keyB_ok kok).symm.trans e) (by simp)⟩
  have hE1 := hE.kq k1
  obtain ⟨dx1, p1, ap1, au1, ad1, g1, g2, _⟩ := hE1.ex
  refine ⟨_, rfl, m.e, _, dx1, _, _, rfl, g1, T.c_Editor, T.a_Editor_page, edF_page _ _ _ _ _ _, _, rfl, m.e, _, dx1, _, _, rfl, g1, T.c_Editor, T.a_Editor_tapes, edF_tapes _ _ _ _ _ _, p1, m.t, ed.page, ed.tapes, rfl, g2, hE.ok, hE1.tapes, hE1.tok, hE1.sign, fun x y H2 k2 nx ny nxy hP => ?_⟩
  obtain ⟨dx2, p2, as2, q1, _⟩ := hP.ex
  have nxH : H x = none := k1.fr x nx
  have nyH : H y = none := k1.fr y ny
  have fr : ∀ {H3}, Kf [x, y] H2 H3 → Kq [] H H3 := fun k3 => (k1.trans k2).fresh k3.q fun c hc => by
    simp only [List.mem_cons, List.not_mem_nil, or_false] at hc
    rcases hc with rfl | rfl
    · exact nxH
    · exact nyH
  refine ⟨_, rfl, x, _, _, rfl, q1, playerF_no_do _ _ _ _, _, rfl, x, m.t, y, ed.tapes, ⟨ed.page, [], 0⟩, a, ky, rfl, hP, Nat.zero_le _, Nat.le_refl _, (k1.trans k2).key hk, kok, fun el H3 k3 => kl el H3 (fr k3), fun b st H3 eb k3 hP3 h43 => ?_⟩
  have kk := fr k3
  have hE3 := hE.kq kk
  have outx : ∀ c ∈ m.l, c ≠ x := fun c hc e => by obtain ⟨o, h1, _⟩ := hE.wr c hc; rw [e, nxH] at h1; cases h1
  have outy : ∀ c ∈ m.l, c ≠ y := fun c hc e => by obtain ⟨o, h1, _⟩ := hE.wr c hc; rw [e, nyH] at h1; cases h1
  have kf0 : Kf m.l H H3 := Kf.of kk hE.wr
  -- taping
  refine ⟨fun σ' H' => σ' = [some (.ref m.e), some (.ref a), some (.ref x), some (.bl b)] ∧ Kf m.l H H' ∧ EdAt K H' m { ed with pressed := if ed.taped.isSome = true then ed.pressed ++ [ky] else ed.pressed } ∧ PlAt K H' x m.t y ed.tapes st, ?_, ?_⟩
  · obtain ⟨dx, p, ap, au, ad, h1, h2, h3, h4, h5, h6, h7, h8⟩ := hE3.ex
    refine ⟨_, rfl, m.e, _, dx, _, _, rfl, h1, T.c_Editor, T.a_Editor_recorded, edF_recorded _ _ _ _ _ _, rfl, _, rfl, ?_⟩
    refine iteN (fun hr => ?_) (fun hr => ?_)
    · have hs : ed.taped.isSome = true := by
        cases e : ed.taped with
        | none => exact absurd (show recV ed.taped = .non by rw [e]; rfl) hr
        | some n => rfl
      refine ⟨_, rfl, m.e, _, dx, _, _, rfl, h1, T.c_Editor, T.a_Editor_pressed, edF_pressed _ _ _ _ _ _, .inl ⟨rfl, _, SqL.of h3⟩, _, rfl, m.pr, _, _, rfl, rfl, h3, smallM (by rw [List.length_map, h4.len]; have := hsm.p; omega), ?_⟩
      have k4 := Kf.one (ys := ap.map V.ref ++ [V.ref a]) h3
      have ne1 : m.e ≠ m.pr := ne_of h1 h3 (by intro z; cases z)
      obtain ⟨kvs, ht1, ht2⟩ := hE3.tapes
      have ne2 : m.t ≠ m.pr := ne_of ht1 h3 (by intro z; cases z)
      refine ⟨rfl, kf0.trans (k4.mono (fun c hc => by rw [List.mem_singleton.mp hc]; simp [EdM.l]) hE3.wr ?_), ?_, hP3.kf k4 (by simp; exact (outx m.pr (by simp [EdM.l])).symm) (by simp; exact (outy m.pr (by simp [EdM.l])).symm) (by simp [ne2])⟩
      · intro c hc
        by_cases e : c = m.pr
        · rw [e, upd_same]; exact ⟨_, rfl, rfl⟩
        · rw [upd_ne e]; exact hE3.wr c hc
      · rw [if_pos hs]
        refine ⟨⟨dx, p, ap ++ [a], au, ad, (upd_ne ne1).trans h1, k4.page h2, ?_, (k4.keys h4).snoc (k4.key (kk.key hk)), (upd_ne hE.d1.symm).trans h5, h6.imp (fun _ _ z => k4.tup z) (fun _ _ z => k4.page z), (upd_ne hE.d2.symm).trans h7, h8.imp (fun _ _ z => k4.tup z) (fun _ _ z => k4.page z)⟩, k4.tapes hE3.tapes (by simp [ne2]), hE.tok, k4.q.tab _ hE3.sign, hE.ok, hE.d1, hE.d2, hE.d3, fun k' hk' => ?_, hE.uok, hE.dok, hE.rok⟩
        · rw [upd_same, List.map_append]; rfl
        · rcases List.mem_append.mp hk' with z | z
          · exact hE.pok k' z
          · rw [List.mem_singleton.mp z]; exact kok
    · have hs : ed.taped = none := recV_none hr
      refine ⟨rfl, kf0, ?_, hP3⟩
      rw [if_neg (by rw [hs]; simp)]
      exact hE3
  rintro σ' H4 ⟨rfl, k4, hE4, hP4⟩
  -- the units
  refine ⟨fun σ' H' => σ' = [some (.ref m.e), some (.ref a), some (.ref x), some (.bl b)] ∧ ∃ ud', (ud' = m.ud ∨ H ud' = none) ∧ Kf m.l H H' ∧ EdAt K H' ⟨m.e, m.t, m.pr, m.un, ud'⟩ { doneE ed ky st.page with page := ed.page } ∧ PlAt K H' x m.t y ed.tapes st, ?_, ?_⟩
  · obtain ⟨dx, p, ap, au, ad, h1, h2, h3, h4, h5, h6, h7, h8⟩ := hE4.ex
    obtain ⟨dy, p', as', q1, q2, q3, q4⟩ := hP4.ex
    refine ⟨_, rfl, x, _, dy, _, _, rfl, q1, T.c_Player, T.a_Player_page, playerF_page _ _ _ _, rd_rows T q2 fun t1 ht1 => ⟨_, rfl, m.e, _, dx, _, _, rfl, h1, T.c_Editor, T.a_Editor_page, edF_page _ _ _ _ _ _, rd_rows T h2 fun t2 ht2 => ⟨rowsD st.page.rows, rowsD ed.page.rows, dp_rows ht1, dp_rows ht2, shaped_rows hP4.ok.sig, shaped_rows hE.ok.sig, _, rfl, ?_⟩⟩⟩
    rw [eqv_rows]
    refine iteN (fun hne => ?_) (fun heq => ?_)
    · refine ⟨_, rfl, m.e, _, dx, _, _, rfl, h1, T.c_Editor, T.a_Editor_units, edF_units _ _ _ _ _ _, .inl ⟨rfl, _, SqL.of h5⟩, _, rfl, m.e, _, dx, _, _, rfl, h1, T.c_Editor, T.a_Editor_page, edF_page _ _ _ _ _ _, _, rfl, x, _, dy, _, _, rfl, q1, T.c_Player, T.a_Player_page, playerF_page _ _ _ _, line16 (by show 2 ≤ 1000000; decide), fun u nu => ?_⟩
      have ku : Kq [] H4 (upd H4 u (.tup [.ref p, .ref p'])) := Kq.alloc nu
      have au5 := ku.get h5
      have su : SqT K (upd H4 u (.tup [.ref p, .ref p'])) u [.ref p, .ref p'] := SqT.of upd_same
      have hE5 := hE4.kq ku
      have hP5 := hP4.kq ku
      have h15 := ku.get h1
      have h25 := ku.page h2
      have h75 := ku.get h7
      have h35 := ku.get h3
      have q25 := ku.page q2
      generalize (upd H4 u (.tup [.ref p, .ref p'])) = H5 at ku au5 su hE5 hP5 h15 h25 h75 h35 q25 ⊢
      refine ⟨m.un, _, _, rfl, rfl, au5, smallM (by rw [List.length_map, h6.len]; have := hsm.u; show ed.units.length ≤ 1000000; omega), ?_⟩
      have k6 := Kf.one (ys := au.map V.ref ++ [V.ref u]) au5
      have ne1 : m.e ≠ m.un := ne_of h15 au5 (by intro z; cases z)
      obtain ⟨kvs, ht1', ht2'⟩ := hE5.tapes
      have ne2 : m.t ≠ m.un := ne_of ht1' au5 (by intro z; cases z)
      have h16 : (upd H5 m.un (.lst (au.map V.ref ++ [V.ref u]))) m.e = _ := (upd_ne ne1).trans h15
      have a16 : (upd H5 m.un (.lst (au.map V.ref ++ [V.ref u]))) m.un = _ := upd_same
      have a36 : (upd H5 m.un (.lst (au.map V.ref ++ [V.ref u]))) m.pr = _ := (upd_ne hE.d1).trans h35
      have a76 : (upd H5 m.un (.lst (au.map V.ref ++ [V.ref u]))) m.ud = _ := (upd_ne hE.d3.symm).trans h75
      have hP6 := hP5.kf k6 (by simp; exact (outx m.un (by simp [EdM.l])).symm) (by simp; exact (outy m.un (by simp [EdM.l])).symm) (by simp [ne2])
      have t6 := k6.tapes hE5.tapes (by simp [ne2])
      have kq6 : Kq m.l H (upd H5 m.un (.lst (au.map V.ref ++ [V.ref u]))) := (k4.kq ku).q.trans (k6.q.mono fun c hc => by rw [List.mem_singleton.mp hc]; simp [EdM.l])
      have w6 : ∀ c ∈ m.l, ∃ o, (upd H5 m.un (.lst (au.map V.ref ++ [V.ref u]))) c = some o ∧ mutO o = true := fun c hc => by
        by_cases e : c = m.un
        · rw [e, upd_same]; exact ⟨_, rfl, rfl⟩
        · rw [upd_ne e]; exact hE5.wr c hc
      generalize (upd H5 m.un (.lst (au.map V.ref ++ [V.ref u]))) = H6 at k6 h16 a16 a36 a76 hP6 t6 kq6 w6 ⊢
      -- self.undone = []
      refine ⟨line16 (by show 0 ≤ 1000000; decide), fun ud' nud => ?_⟩
      have nud0 : H ud' = none := kq6.fr _ nud
      have k7 : Kq [] H6 (upd H6 ud' (.lst [])) := Kq.alloc nud
      refine ⟨_, rfl, m.e, _, dx, _, rfl, k7.get h16, T.c_Editor, T.a_Editor_undone, (by show 6 < 1000; decide), ?_⟩
      rw [edF_put_undone]
      have neud : m.e ≠ ud' := ne_of_none h16 nud
      have w7 : ∀ c ∈ m.l, ∃ o, (upd H6 ud' (.lst [])) c = some o ∧ mutO o = true := fun c hc => by
        obtain ⟨o, z1, z2⟩ := w6 c hc
        exact ⟨o, k7.get z1 (mut_noTbl z2), z2⟩
      have k8 : Kf m.l (upd H6 ud' (.lst [])) (upd (upd H6 ud' (.lst [])) m.e (.ins (He.ga K "Editor") dx (edF p m.t (recV ed.taped) m.pr m.un ud'))) := Kf.write (k7.get h16) (by simp [EdM.l]) (mut_ed _ _ _ _ _ _ _ _) w7
      have k8e : Kf [m.e] (upd H6 ud' (.lst [])) (upd (upd H6 ud' (.lst [])) m.e (.ins (He.ga K "Editor") dx (edF p m.t (recV ed.taped) m.pr m.un ud'))) := Kf.write (k7.get h16) (by simp) (mut_ed _ _ _ _ _ _ _ _) fun c hc => by rw [List.mem_singleton.mp hc]; exact w7 m.e (by simp [EdM.l])
      have kall : Kf [m.e] H6 (upd (upd H6 ud' (.lst [])) m.e (.ins (He.ga K "Editor") dx (edF p m.t (recV ed.taped) m.pr m.un ud'))) := Kf.cat k7 k8e fun c hc => by rw [List.mem_singleton.mp hc]; exact w6 m.e (by simp [EdM.l])
      have net : m.t ≠ m.e := fun e => by obtain ⟨kv, z1, _⟩ := t6; rw [e, h16] at z1; cases z1
      have neun : m.un ≠ m.e := fun e => by rw [e, h16] at a16; cases a16
      have nepr : m.pr ≠ m.e := fun e => by rw [e, h16] at a36; cases a36
      refine ⟨rfl, ud', .inr nud0, ⟨kq6.trans (k7.of.trans k8.q), hE.wr, k8.w'⟩, ?_, hP6.kf kall (by simp; exact (outx m.e (by simp [EdM.l])).symm) (by simp; exact (outy m.e (by simp [EdM.l])).symm) (by simp [net])⟩
      have tr : ∀ {l xs}, SqT K H5 l xs → SqT K (upd (upd H6 ud' (.lst [])) m.e (.ins (He.ga K "Editor") dx (edF p m.t (recV ed.taped) m.pr m.un ud'))) l xs := fun h => kall.tup (k6.tup h)
      have pg : ∀ {q g}, PageAt K H5 q g → PageAt K (upd (upd H6 ud' (.lst [])) m.e (.ins (He.ga K "Editor") dx (edF p m.t (recV ed.taped) m.pr m.un ud'))) q g := fun h => kall.page (k6.page h)
      have e1 : (doneE ed ky st.page).units = ed.units ++ [(ed.page, st.page)] := if_neg hne
      have e2 : (doneE ed ky st.page).undone = [] := if_neg hne
      refine ⟨⟨dx, p, ap, au ++ [u], [], upd_same, pg h25, kall.q.gets a36 (by simp [nepr]), (h4.imp (fun _ _ z => ku.tup z)).imp fun _ _ z => tr z, ?_, ?_, ?_, ?_⟩, kall.tapes t6 (by simp [net]), hE.tok, kall.q.tab _ (k6.q.tab _ hE5.sign), hE.ok, hE.d1, (ne_of_none a36 nud), (ne_of_none a16 nud), hE4.pok, fun v hv => ?_, fun v hv => ?_, hE.rok⟩
      · rw [List.map_append]
        exact kall.q.gets a16 (by simp [neun])
      · show UnitsAt K _ (au ++ [u]) (doneE ed ky st.page).units
        rw [e1]
        exact ((h6.imp (fun _ _ z => ku.tup z) (fun _ _ z => ku.page z)).imp (fun _ _ z => tr z) (fun _ _ z => pg z)).snoc (tr su) (pg h25) (pg q25)
      · show _ = some (HO.lst [])
        rw [upd_ne neud.symm, upd_same]
      · show UnitsAt K _ [] (doneE ed ky st.page).undone
        rw [e2]
        exact .nil
      · have hv : v ∈ (doneE ed ky st.page).units := hv
        rw [e1] at hv
        rcases List.mem_append.mp hv with z | z
        · exact hE.uok v z
        · rw [List.mem_singleton.mp z]; exact ⟨hE.ok, hP4.ok⟩
      · have hv : v ∈ (doneE ed ky st.page).undone := hv
        rw [e2] at hv
        simp at hv
    · refine ⟨rfl, m.ud, .inl rfl, k4, ?_, hP4⟩
      have e1 : (doneE ed ky st.page).units = ed.units := if_pos heq
      have e2 : (doneE ed ky st.page).undone = ed.undone := if_pos heq
      have e3 : { doneE ed ky st.page with page := ed.page } = { ed with pressed := if ed.taped.isSome = true then ed.pressed ++ [ky] else ed.pressed } := by
        show EdSt.mk ed.page ed.tapes ed.taped _ (doneE ed ky st.page).units (doneE ed ky st.page).undone = _
        rw [e1, e2]; rfl
      rw [e3]
      exact hE4
  rintro σ' H5 ⟨rfl, ud', hud, k5, hE5, hP5⟩
  -- self.page = player.page
  obtain ⟨dx, p, ap, au, ad, h1, h2, h3, h4, h5, h6, h7, h8⟩ := hE5.ex
  obtain ⟨dy, p', as', q1, q2, q3, q4⟩ := hP5.ex
  refine ⟨_, rfl, x, _, dy, _, _, rfl, q1, T.c_Player, T.a_Player_page, playerF_page _ _ _ _, _, rfl, m.e, _, dx, _, rfl, h1, T.c_Editor, T.a_Editor_page, (by show 6 < 1000; decide), ?_⟩
  rw [edF_put_page]
  have ke : Kf [m.e] H5 (upd H5 m.e (.ins (He.ga K "Editor") dx (edF p' m.t (recV ed.taped) m.pr m.un ud'))) := Kf.write h1 (by simp) (mut_ed _ _ _ _ _ _ _ _) fun c hc => by rw [List.mem_singleton.mp hc]; exact ⟨_, h1, mut_ed _ _ _ _ _ _ _ _⟩
  have net : m.t ≠ m.e := fun e => by obtain ⟨kv, z1, _⟩ := hE5.tapes; have z1 : H5 m.t = _ := z1; rw [e, h1] at z1; cases z1
  refine ⟨_, rfl, kf b st ⟨m.e, m.t, m.pr, m.un, ud'⟩ _ eb rfl rfl rfl rfl hud ⟨k5.q.trans (ke.q.mono fun c hc => by rw [List.mem_singleton.mp hc]; simp [EdM.l]), hE.wr, fun c hc => ?_⟩ ?_⟩
  · by_cases e : c = m.e
    · rw [e, upd_same]; exact ⟨_, rfl, mut_ed _ _ _ _ _ _ _ _⟩
    · rw [upd_ne e]; exact k5.w' c hc
  have g : ∀ {c o}, H5 c = some o → noTbl o = true → c ≠ m.e → (upd H5 m.e (.ins (He.ga K "Editor") dx (edF p' m.t (recV ed.taped) m.pr m.un ud'))) c = some o := fun h _ n => (upd_ne n).trans h
  refine ⟨⟨dx, p', ap, au, ad, upd_same, ke.page q2, g h3 rfl (ne_of h3 h1 (by intro z; cases z)), ke.keys h4, g h5 rfl (ne_of h5 h1 (by intro z; cases z)), h6.imp (fun _ _ z => ke.tup z) (fun _ _ z => ke.page z), g h7 rfl (ne_of h7 h1 (by intro z; cases z)), h8.imp (fun _ _ z => ke.tup z) (fun _ _ z => ke.page z)⟩,
    ke.tapes hE5.tapes (by simp [net]), hE.tok, ke.q.tab _ hE5.sign, hP5.ok, hE5.d1, hE5.d2, hE5.d3, hE5.pok, hE5.uok, hE5.dok, hE5.rok⟩
end
end KT
set_option Elab.async false
set_option linter.all false
set_option maxRecDepth 100000
set_option maxHeartbeats 4000000
namespace KT
open PySem PySem.Spec PyProof.Rows L2 GxR
variable [GT]
/-! ### the drawer of numbers -/
def DrAt (H : Hp) (h l : Addr) : Prop := ∃ (a c : Int) (xs : List Int), H h = some (.lst [.int a, .ref l, .int c]) ∧ H l = some (.lst (xs.map V.int)) ∧ h ≠ l
theorem DrAt.kq {H H1 : Hp} {h l : Addr} (d : DrAt H h l) (k : Kq [] H H1) : DrAt H1 h l := by
  obtain ⟨a, c, xs, h1, h2, ne⟩ := d
  exact ⟨a, c, xs, k.get h1, k.get h2, ne⟩
theorem DrAt.kf {S : List Addr} {H H1 : Hp} {h l : Addr} (d : DrAt H h l) (k : Kf S H H1) (n1 : h ∉ S) (n2 : l ∉ S) : DrAt H1 h l := by
  obtain ⟨a, c, xs, h1, h2, ne⟩ := d
  exact ⟨a, c, xs, k.q.gets h1 n1, k.q.gets h2 n2, ne⟩
theorem DrAt.wr {H : Hp} {h l : Addr} (d : DrAt H h l) : ∀ b ∈ [h, l], ∃ o, H b = some o ∧ mutO o = true := by
  obtain ⟨a, c, xs, h1, h2, ne⟩ := d
  intro b hb
  simp only [List.mem_cons, List.not_mem_nil, or_false] at hb
  rcases hb with rfl | rfl
  · exact ⟨_, h1, rfl⟩
  · exact ⟨_, h2, rfl⟩
theorem ints_at {xs : List Int} {j : Nat} (h : j < xs.length) : atI (xs.map V.int) (j : Int) = some (.int xs[j]) := at_of rfl (by rw [List.getElem?_map, List.getElem?_eq_getElem h]; rfl)
theorem ixN_nat {n j : Nat} (h : j < n) : ixN n (j : Int) = some j := by
  unfold ixN
  rw [if_pos (by omega), if_pos (by omega)]; rfl
theorem eqv_nil (xs : List PyData) : PyData.eqv (.list xs) (.list []) = xs.isEmpty := by
  cases xs <;> simp [PyData.eqv, PyData.eqvAll]
theorem dp_ints {K : PySem.W.Frag} {H : Hp} : ∀ (xs : List Int), DpAll K H (xs.map V.int) (xs.map PyData.int)
  | [] => .nil
  | x :: xs => .cons (.int x) (dp_ints xs)
theorem canLay_ints : ∀ xs : List Int, PyData.canLayAll0 (xs.map PyData.int) = true
  | [] => rfl
  | x :: r => by
    show (PyData.canLay0 (.int x) && PyData.canLayAll0 (r.map PyData.int)) = true
    rw [canLay_ints r]; rfl
theorem depth_ints : ∀ xs : List Int, PyData.depthAll (xs.map PyData.int) = 0
  | [] => rfl
  | x :: r => by
    show max 0 (PyData.depthAll (r.map PyData.int)) = 0
    rw [depth_ints r]; rfl
theorem shaped_ints (xs : List Int) : SeqAt.shaped (.list (xs.map PyData.int)) = true := by
  unfold SeqAt.shaped
  have h1 : PyData.canLay0 (.list (xs.map PyData.int)) = PyData.canLayAll0 (xs.map PyData.int) := by simp [PyData.canLay0]
  have h2 : PyData.depth (.list (xs.map PyData.int)) = PyData.depthAll (xs.map PyData.int) + 1 := by simp [PyData.depth]
  rw [h1, h2, canLay_ints, depth_ints]; rfl
section
variable {P : Program} {w : World} {K : PySem.W.Frag} {mg : Str → Option Value} {base : Heap}
def sp_mix (K : PySem.W.Frag) : Sp := fun vs H Q _ => ∃ (a : Addr) (ns : List Int) (i : Int), vs = [.ref a, .int i] ∧ SqL K H a (ns.map V.int) ∧ ∀ h l H', H h = none → H l = none → Kq [] H H' → DrAt H' h l → Q (.ref h) H'
theorem sc__law_mix : FnScope ["_law_script", "_law_seed", "_law_mixed", "_law_cell"] ["_law_script", "_law_seed"] (defScope s__law_mix) := ⟨rfl, rfl, rfl, by decide +kernel, rfl, by decide +kernel, by decide +kernel⟩
theorem ok__law_mix (T : Tx w K mg) : Fk P w K mg base 1 (Ad K d__law_mix.at_) ["_law_script", "_law_seed"] (sp_mix K) := by
  refine mkF T.f__law_mix sc__law_mix rfl (fun _ _ _ _ _ _ us hl => match us, hl with | [_, _], _ => rfl) (fun vs H Q E h => by obtain ⟨_, _, _, rfl, _⟩ := h; rfl) (fun cdv A outer s H vs Q E hcd hcode hr h => ?_)
  have po : PassesOwn (model P w) (CxD P w K mg base ["_law_script", "_law_seed", "_law_mixed", "_law_cell"] d__law_mix cdv A outer s H E).A (CxD P w K mg base ["_law_script", "_law_seed", "_law_mixed", "_law_cell"] d__law_mix cdv A outer s H E).env (CxD P w K mg base ["_law_script", "_law_seed", "_law_mixed", "_law_cell"] d__law_mix cdv A outer s H E).xe := passes_of rfl
  refine ⟨_, (pss_cons (ps_asg (pv 1) (pg_name (i := 2) sc__law_mix.nd rfl (.inl rfl)))
      (pss_cons (ps_for po rfl (pi_list (pv 0)) (pg_name (i := 3) sc__law_mix.nd rfl (.inl rfl)) (pss_one (ps_asg (pe_op op_mod (pe_op op_add (pe_op op_add (pe_op op_mul (pv 2) pe_int) (pe_op op_mod (pv 3) pe_int)) pe_int) pe_int) (pg_name (i := 2) sc__law_mix.nd rfl (.inl rfl)))))
      (pss_one (ps_ret (pe_lst (pa_cons (pv 2) (pa_cons (pe_callTy call_list_of (by rfl) T.n_list (by decide +kernel) (pa_cons (pv 0) pa_nil)) (pa_cons pe_int pa_nil)))))))), ?_⟩
  obtain ⟨a, ns, i, rfl, ha, k⟩ := h
  refine ⟨_, rfl, ?_⟩
  refine ⟨_, rfl, a, rfl, ⟨_, ha⟩, ?_⟩
  refine for_list (K := K) (a := a) (xs := ns.map V.int) (fun j σ H' => H' = H ∧ ∃ z c, σ = [some (.ref a), some (.int i), some (.int z), c]) ⟨rfl, _, _, rfl⟩ (fun j σ H' _ z => by rw [z.1]; exact ha) ?_ ?_
  · rintro j x σ H' hx ⟨rfl, z, c, rfl⟩
    rw [List.getElem?_map] at hx
    obtain ⟨y, _, rfl⟩ := Option.map_eq_some_iff.mp hx
    refine ⟨_, rfl, _, _, rfl, rfl, .inr ⟨by decide, by decide⟩, _, rfl, _, _, rfl, rfl, (by show (0 : Int) < 2147483629; decide), _, _, rfl, rfl, _, _, rfl, rfl, _, _, rfl, rfl, (by show (0 : Int) < 2147483647; decide), rfl, _, _, rfl⟩
  · rintro σ H' ⟨rfl, z, c, rfl⟩
    refine ⟨_, rfl, _, rfl, a, _, rfl, .inl ha, fun l nl => ⟨line16 (by show 3 ≤ 1000000; decide), fun h nh => ?_⟩⟩
    have ne : h ≠ l := fun e => by subst e; rw [upd_same] at nh; cases nh
    refine k h l _ (by rw [upd_ne ne] at nh; exact nh) nl ((Kq.alloc nl).trans (Kq.alloc nh)) ⟨z, 0, ns, upd_same, by rw [upd_ne ne.symm, upd_same], ne⟩
def sp_next (K : PySem.W.Frag) : Sp := fun vs H Q _ => ∃ (h l : Addr) (m : Nat), vs = [.ref h, .int m] ∧ DrAt H h l ∧ 1 ≤ m ∧ m < 1073741824 ∧ ∀ (r : Nat) H', r < m → Kf [h, l] H H' → DrAt H' h l → Q (.int r) H'
theorem sc__law_next : FnScope ["_law_h", "_law_many", "_law_at", "_law_cell"] ["_law_h", "_law_many"] (defScope s__law_next) := ⟨rfl, rfl, rfl, by decide +kernel, rfl, by decide +kernel, by decide +kernel⟩
theorem ok__law_next (T : Tx w K mg) : Fk P w K mg base 1 (Ad K d__law_next.at_) ["_law_h", "_law_many"] (sp_next K) := by
  refine mkF T.f__law_next sc__law_next rfl (fun _ _ _ _ _ _ us hl => match us, hl with | [_, _], _ => rfl) (fun vs H Q E h => by obtain ⟨_, _, _, rfl, _⟩ := h; rfl) (fun cdv A outer s H vs Q E hcd hcode hr h => ?_)
  refine ⟨_, (pss_cons (ps_asg (pe_op op_mod (pe_ix ix_list (pv 0) pe_int (fun _ _ => rfl)) (pe_callB (call_max2 rfl) (by rfl) T.n_max (by decide +kernel) (pa_cons pe_int (pa_cons (pe_callB call_len_seq (by rfl) T.n_len (by decide +kernel) (pa_cons (pe_ix ix_list (pv 0) pe_int (fun _ _ => rfl)) pa_nil)) pa_nil)))) (pg_name (i := 2) sc__law_next.nd rfl (.inl rfl)))
      (C8.pss_cut (ps_asg (pe_ifExp (pt_cmpR (op_neD hr.units) (pe_ix ix_list (pv 0) pe_int (fun _ _ => rfl)) (pe_lst pa_nil) (nomark _)) (pe_ix ix_list (pe_ix ix_list (pv 0) pe_int (fun _ _ => rfl)) (pv 2) (fun _ _ => rfl)) pe_int) (pg_name (i := 3) sc__law_next.nd rfl (.inl rfl)))
      (pss_cons (ps_if (pt_cmpR op_ge (pv 3) (pe_op op_pow pe_int pe_int) (nomark _)) (pss_cons (ps_asg (pe_op op_fdivN (pv 3) (pv 1)) (pg_sub (pe_ix ix_list (pv 0) pe_int (fun _ _ => rfl)) (pv 2) set_list))
      (pss_one (ps_ret (pe_op op_mod (pv 3) (pv 1))))) pss_nil)
      (pss_cons (ps_asg (pe_op op_mod (pe_op op_add (pe_op op_add (pe_op op_mul (pe_ix ix_list (pv 0) pe_int (fun _ _ => rfl)) pe_int) (pe_op op_mul (pv 3) pe_int)) pe_int) pe_int) (pg_sub (pv 0) pe_int set_list))
      (pss_cons (ps_asg (pe_op op_add (pe_ix ix_list (pv 0) pe_int (fun _ _ => rfl)) pe_int) (pg_sub (pv 0) pe_int set_list))
      (pss_one (ps_ret (pe_op op_mod (pe_op op_fdivN (pe_ix ix_list (pv 0) pe_int (fun _ _ => rfl)) pe_int) (pv 1))))))))), ?_⟩
  obtain ⟨h, l, m, rfl, hD, hm, hm2, kQ⟩ := h
  have hD0 := hD
  obtain ⟨a, c, xs, h1, h2, ne⟩ := hD
  refine ⟨_, rfl, h, _, _, .int c, rfl, rfl, SqL.of h1, at_of (j := 2) rfl rfl, _, rfl, h, _, _, .ref l, rfl, rfl, SqL.of h1, at_of (j := 1) rfl rfl, l, _, rfl, .inl (SqL.of h2), _, _, rfl, _, _, rfl, rfl, ?_, ?_⟩
  · split <;> omega
  rw [List.length_map]
  have hat : ∃ j : Nat, c % (if (xs.length : Int) > 1 then (xs.length : Int) else 1) = (j : Int) ∧ (xs ≠ [] → j < xs.length) := by
    have hp : (0 : Int) < (if (xs.length : Int) > 1 then (xs.length : Int) else 1) := by split <;> omega
    refine ⟨(c % (if (xs.length : Int) > 1 then (xs.length : Int) else 1)).toNat, ?_, fun hx => ?_⟩
    · rw [Int.toNat_of_nonneg (Int.emod_nonneg _ (by omega))]
    · have h1 := Int.emod_lt_of_pos c hp
      have h0 := Int.emod_nonneg c (b := (if (xs.length : Int) > 1 then (xs.length : Int) else 1)) (by omega)
      have : 0 < xs.length := List.length_pos_iff.mpr hx
      generalize c % (if (xs.length : Int) > 1 then (xs.length : Int) else 1) = r at *
      split at h1 <;> omega
  obtain ⟨j, ej, hj⟩ := hat
  refine ⟨fun σ' H' => ∃ z, σ' = [some (.ref h), some (.int m), some (.int j), some (.int z)] ∧ Kq [] H H' ∧ (xs = [] → z = 0), ?_, ?_⟩
  · refine ⟨_, rfl, h, _, _, .ref l, rfl, rfl, SqL.of h1, at_of (j := 1) rfl rfl, line16 (by show 0 ≤ 1000000; decide), fun p np => ?_⟩
    have k1 : Kq [] H (upd H p (.lst [])) := Kq.alloc np
    refine ⟨.list (xs.map .int), .list [], .lst (SqL.of (k1.get h2)) (dp_ints xs), .lst (SqL.of upd_same) .nil, shaped_ints xs, rfl, _, rfl, ?_⟩
    rw [eqv_nil]
    by_cases hx : xs = []
    · rw [show (xs.map PyData.int).isEmpty = true by rw [hx]; rfl]
      exact iteF ⟨0, by rw [← ej]; rfl, k1, fun _ => rfl⟩
    · rw [show (xs.map PyData.int).isEmpty = false by cases xs <;> first | rfl | exact absurd rfl hx]
      exact iteT ⟨_, rfl, h, _, _, .ref l, rfl, rfl, SqL.of (k1.get h1), at_of (j := 1) rfl rfl, _, rfl, l, _, _, _, rfl, rfl, SqL.of (k1.get h2), (by rw [ej]; exact ints_at (hj hx)), xs[j]'(hj hx), by rw [← ej]; rfl, k1, fun e => absurd e hx⟩
  rintro σ' H1 ⟨z, rfl, k1, hz⟩
  refine ⟨_, rfl, _, _, rfl, rfl, ⟨by decide, by decide, by decide⟩, _, _, rfl, rfl, _, rfl, ?_⟩
  refine iteD (fun hge => ?_) (fun hlt => ?_)
  · have hne : xs ≠ [] := fun e => by rw [hz e] at hge; exact absurd hge (by decide)
    have k2 : Kf [h, l] H1 (upd H1 l (.lst ((xs.map V.int).set j (.int (z.fdiv m))))) := Kf.write (k1.get h2) (by simp) rfl (hD0.kq k1).wr
    refine ⟨_, rfl, _, rfl, _, _, rfl, rfl, ⟨by omega, by omega⟩, _, rfl, h, _, _, .ref l, rfl, rfl, SqL.of (k1.get h1), at_of (j := 1) rfl rfl, _, rfl, l, _, _, j, rfl, rfl, k1.get h2, ixN_nat (by rw [List.length_map]; exact hj hne), ?_⟩
    refine ⟨_, rfl, _, rfl, _, _, rfl, rfl, by omega, ?_⟩
    have e0 : z % (m : Int) = ((z % (m : Int)).toNat : Int) := by rw [Int.toNat_of_nonneg (Int.emod_nonneg _ (by omega))]
    have e1 := Int.emod_lt_of_pos z (b := (m : Int)) (by omega)
    show Q (.int (z % (m : Int))) _
    rw [e0]
    refine kQ _ _ (by omega) (Kf.cat k1 k2 hD0.wr) ⟨a, c, xs.set j (z.fdiv m), (upd_ne ne).trans (k1.get h1), ?_, ne⟩
    rw [upd_same, List.map_set]
  · have g1 := k1.get h1
    have g2 := k1.get h2
    have d1 := hD0.kq k1
    refine ⟨_, rfl, h, _, _, .int a, rfl, rfl, SqL.of g1, at_of (j := 0) rfl rfl, _, _, rfl, rfl, .inr ⟨by decide, by decide⟩, _, rfl, _, _, rfl, rfl, .inr ⟨by decide, by decide⟩, _, _, rfl, rfl, _, _, rfl, rfl, _, _, rfl, rfl, (by show (0 : Int) < 2147483647; decide), _, rfl, h, _, _, 0, rfl, rfl, g1, rfl, ?_⟩
    have kA : Kf [h, l] H1 (upd H1 h (.lst [.int ((a * 48271 + z * 69621 + 11) % 2147483647), .ref l, .int c])) := Kf.write g1 (by simp) rfl d1.wr
    refine ⟨_, rfl, h, _, _, .int c, rfl, rfl, SqL.of upd_same, at_of (j := 2) rfl rfl, _, _, rfl, rfl, _, rfl, h, _, _, 2, rfl, rfl, upd_same, rfl, ?_⟩
    have kB : Kf [h, l] (upd H1 h (.lst [.int ((a * 48271 + z * 69621 + 11) % 2147483647), .ref l, .int c])) (upd (upd H1 h (.lst [.int ((a * 48271 + z * 69621 + 11) % 2147483647), .ref l, .int c])) h (.lst [.int ((a * 48271 + z * 69621 + 11) % 2147483647), .ref l, .int (c + 1)])) := Kf.write upd_same (by simp) rfl kA.w'
    refine ⟨_, rfl, h, _, _, .int ((a * 48271 + z * 69621 + 11) % 2147483647), rfl, rfl, SqL.of upd_same, at_of (j := 0) rfl rfl, _, _, rfl, rfl, ⟨by decide, by decide⟩, _, rfl, _, _, rfl, rfl, by omega, ?_⟩
    show Q (.int (((a * 48271 + z * 69621 + 11) % 2147483647).fdiv 7 % (m : Int))) _
    generalize ((a * 48271 + z * 69621 + 11) % 2147483647).fdiv 7 = u
    have e0 : u % (m : Int) = ((u % (m : Int)).toNat : Int) := by rw [Int.toNat_of_nonneg (Int.emod_nonneg _ (by omega))]
    have e1 := Int.emod_lt_of_pos u (b := (m : Int)) (by omega)
    rw [e0]
    exact kQ _ _ (by omega) (Kf.cat k1 (kA.trans kB) hD0.wr) ⟨_, c + 1, xs, upd_same, (upd_ne ne.symm).trans ((upd_ne ne.symm).trans g2), ne⟩
end
end KT
set_option Elab.async false
set_option linter.all false
set_option maxRecDepth 100000
set_option maxHeartbeats 4000000
namespace KT
open PySem PySem.Spec PyProof.Rows L2 GxR
variable [GT]
theorem kit_tl {K : PySem.W.Frag} {a : String} {b1 b2 : Bool} (h1 : kitB a "tuple" = some b1) (h2 : kitB a "list" = some b2) : W.kitAny K (.type a) [.type "tuple", .type "list"] = some (b1 || b2) := by
  simp only [PySem.W.kitAny, kit_ty h1, kit_ty h2]
  cases b1 <;> cases b2 <;> rfl
theorem ix_seqB {X : Cx} {K : PySem.W.Frag} (e : X.K = K) : IxR X (rIx K) := e ▸ ix_seq
theorem ix_listB {X : Cx} {K : PySem.W.Frag} (e : X.K = K) : IxR X (rIxL K) := e ▸ ix_list
theorem ix_tupB {X : Cx} {K : PySem.W.Frag} (e : X.K = K) : IxR X (rIxT K) := e ▸ ix_tup
theorem op_in_seqB {X : Cx} {K : PySem.W.Frag} (e : X.K = K) : OpR X (compareOp .In) (rIn K false) := e ▸ op_in_seq
theorem call_len_seqB {X : Cx} {K : PySem.W.Frag} (e : X.K = K) : CallR X (Value.builtin "len") fun xs H Q => ∃ p ys, xs = [V.ref p] ∧ (SqL K H p ys ∨ SqT K H p ys) ∧ Q (V.int ↑ys.length) H := e ▸ call_len_seq
/-- alike, n deep -/
inductive Al (K : PySem.W.Frag) (H : Hp) : Nat → V → V → Prop where
  | non (n : Nat) : Al K H n .non .non
  | int (n : Nat) (i : Int) : Al K H n (.int i) (.int i)
  | str (n : Nat) (s : Str) : Al K H n (.str s) (.str s)
  | bl (n : Nat) (b : Bool) : Al K H n (.bl b) (.bl b)
  | lst {n : Nat} {a b : Addr} {xs ys : List V} (h1 : H a = some (.lst xs)) (h2 : H b = some (.lst ys)) (hl : xs.length = ys.length) (hb : xs.length ≤ 1000) (h : ∀ (i : Nat) (x y : V), xs[i]? = some x → ys[i]? = some y → Al K H n x y) : Al K H (n + 1) (.ref a) (.ref b)
  | tup {n : Nat} {a b : Addr} {xs ys : List V} (h1 : SqT K H a xs) (h2 : SqT K H b ys) (hl : xs.length = ys.length) (hb : xs.length ≤ 1000) (h : ∀ (i : Nat) (x y : V), xs[i]? = some x → ys[i]? = some y → Al K H n x y) : Al K H (n + 1) (.ref a) (.ref b)
theorem Al.kq {K : PySem.W.Frag} {H H1 : Hp} (k : Kq [] H H1) {n : Nat} {x y : V} (h : Al K H n x y) : Al K H1 n x y := by
  induction h with
  | non n => exact .non n
  | int n i => exact .int n i
  | str n s => exact .str n s
  | bl n b => exact .bl n b
  | lst h1 h2 hl hb _ ih => exact .lst (k.get h1) (k.get h2) hl hb ih
  | tup h1 h2 hl hb _ ih => exact .tup (k.tup h1) (k.tup h2) hl hb ih
section
variable {P : Program} {w : World} {K : PySem.W.Frag} {mg : Str → Option Value} {base : Heap}
def sp_alike (K : PySem.W.Frag) : Nat → Sp
  | 0 => fun _ _ _ _ => False
  | n + 1 => fun vs H Q _ => ∃ x y, vs = [x, y] ∧ Al K H n x y ∧ ∀ H', Kq [] H H' → Q (.bl true) H'
theorem paired_tl : Paired ClsV [.ty "tuple", .ty "list"] [.type "tuple", .type "list"] := .cons (.ty _) (.cons (.ty _) .nil)
theorem sc__law_alike : FnScope ["_law_found", "_law_due", "_law_k"] ["_law_found", "_law_due"] (defScope s__law_alike) := ⟨rfl, rfl, rfl, by decide +kernel, rfl, by decide +kernel, by decide +kernel⟩
theorem ok__law_alike (T : Tx w K mg) {n k : Nat} (F__law_alike : Fk P w K mg base k (Ad K d__law_alike.at_) ["_law_found", "_law_due"] (sp_alike K n)) : Fk P w K mg base (k + 1) (Ad K d__law_alike.at_) ["_law_found", "_law_due"] (sp_alike K (n + 1)) := by
  refine mkF T.f__law_alike sc__law_alike rfl (fun _ _ _ _ _ _ us hl => match us, hl with | [_, _], _ => rfl) (fun vs H Q E h => by obtain ⟨_, _, rfl, _⟩ := h; rfl) (fun cdv A outer s H vs Q E hcd hcode hr h => ?_)
  refine ⟨_, (pss_cons (ps_if (pt_val (pe_callB call_isiT (by rfl) T.n_isinstance (by decide +kernel) (pa_cons (pv 1) (pa_cons (pe_tup (pa_cons (pe_bltn (v := .ty "tuple") (by rfl) T.n_tuple (by decide +kernel) rfl) (pa_cons (pe_bltn (v := .ty "list") (by rfl) T.n_list (by decide +kernel) rfl) pa_nil))) pa_nil)))) (pss_cons (ps_if ((pw_or (pt_not (pt_val (pe_callB call_isiT (by rfl) T.n_isinstance (by decide +kernel) (pa_cons (pv 0) (pa_cons (pe_tup (pa_cons (pe_bltn (v := .ty "tuple") (by rfl) T.n_tuple (by decide +kernel) rfl) (pa_cons (pe_bltn (v := .ty "list") (by rfl) T.n_list (by decide +kernel) rfl) pa_nil))) pa_nil))))) (pw_or1 (pt_cmpR op_ne (pe_callB call_isi (by rfl) T.n_isinstance (by decide +kernel) (pa_cons (pv 0) (pa_cons (pe_bltn (v := .ty "list") (by rfl) T.n_list (by decide +kernel) rfl) pa_nil))) (pe_callB call_isi (by rfl) T.n_isinstance (by decide +kernel) (pa_cons (pv 1) (pa_cons (pe_bltn (v := .ty "list") (by rfl) T.n_list (by decide +kernel) rfl) pa_nil))) (nomark _))))).pt (pss_one (ps_ret pe_bl)) pss_nil)
      (pss_cons (ps_if (pt_cmpR op_ne (pe_callB call_len_seq (by rfl) T.n_len (by decide +kernel) (pa_cons (pv 0) pa_nil)) (pe_callB call_len_seq (by rfl) T.n_len (by decide +kernel) (pa_cons (pv 1) pa_nil)) (nomark _)) (pss_one (ps_ret pe_bl)) pss_nil)
      (pss_one (ps_ret (pe_cmpR (op_eqD hr.units) (pe_lc (own := [("_law_k", 2)]) (by rfl) sc__law_alike.nd (pi_range1 (by rfl) T.n_range (pa_cons (pe_callB call_len_seq (by rfl) T.n_len (by decide +kernel) (pa_cons (pv 1) pa_nil)) pa_nil)) (blkOk_by (own := [("_law_k", 2)]) (N := ["_law_found", "_law_due", "_law_k"]) (sc := defScope s__law_alike) (by decide +kernel)) (fun _ _ _ _ _ => (pg_name (i := 2) sc__law_alike.nd rfl (.inl rfl))) (fun _ _ _ _ _ => (pts_one (pt_not (pt_val (pe_cF F__law_alike hr T.g__law_alike passL (pa_cons (pe_ix (ix_seqB (K := K) rfl) (pv 0) (pv 2) (fun _ _ => rfl)) (pa_cons (pe_ix (ix_seqB (K := K) rfl) (pv 1) (pv 2) (fun _ _ => rfl)) pa_nil))))))) (fun _ _ _ _ _ => (pv 2))) (pe_lst pa_nil) (nomark _)))))) pss_nil)
      (pss_cons (ps_if (pt_cmpR op_isN (pv 1) pe_non (nomark _)) (pss_one (ps_ret (pe_cmpR op_isN (pv 0) pe_non (nomark _)))) pss_nil)
      (pss_cons (ps_if (pt_val (pe_callB call_isi (by rfl) T.n_isinstance (by decide +kernel) (pa_cons (pv 1) (pa_cons (pe_bltn (v := .ty "str") (by rfl) T.n_str (by decide +kernel) rfl) pa_nil)))) (pss_one (ps_ret (pe_and (pe_callB call_isi (by rfl) T.n_isinstance (by decide +kernel) (pa_cons (pv 0) (pa_cons (pe_bltn (v := .ty "str") (by rfl) T.n_str (by decide +kernel) rfl) pa_nil))) (pe_one (pe_cmpR op_eq (pv 0) (pv 1) (nomark _)))))) pss_nil)
      (pss_cons (ps_if ((pw_or (pt_val (pe_callB call_isi (by rfl) T.n_isinstance (by decide +kernel) (pa_cons (pv 1) (pa_cons (pe_bltn (v := .ty "bool") (by rfl) T.n_bool (by decide +kernel) rfl) pa_nil)))) (pw_or1 (pt_val (pe_callB call_isi (by rfl) T.n_isinstance (by decide +kernel) (pa_cons (pv 0) (pa_cons (pe_bltn (v := .ty "bool") (by rfl) T.n_bool (by decide +kernel) rfl) pa_nil))))))).pt (pss_one (ps_ret (pe_and (pe_callB call_isi (by rfl) T.n_isinstance (by decide +kernel) (pa_cons (pv 1) (pa_cons (pe_bltn (v := .ty "bool") (by rfl) T.n_bool (by decide +kernel) rfl) pa_nil))) (pe_and (pe_callB call_isi (by rfl) T.n_isinstance (by decide +kernel) (pa_cons (pv 0) (pa_cons (pe_bltn (v := .ty "bool") (by rfl) T.n_bool (by decide +kernel) rfl) pa_nil))) (pe_one (pe_cmpR op_eq (pv 0) (pv 1) (nomark _))))))) pss_nil)
      (pss_one (ps_ret (pe_and (pe_callB call_isi (by rfl) T.n_isinstance (by decide +kernel) (pa_cons (pv 0) (pa_cons (pe_bltn (v := .ty "int") (by rfl) T.n_int (by decide +kernel) rfl) pa_nil))) (pe_one (pe_cmpR op_eq (pv 0) (pv 1) (nomark _)))))))))), ?_⟩
  obtain ⟨x, y, rfl, hA, kQ⟩ := h
  refine ⟨_, rfl, line16 (by show 2 ≤ 1000000; decide), fun tp ntp => ?_⟩
  have k1 : Kq [] H (upd H tp (.tup [.ty "tuple", .ty "list"])) := Kq.alloc ntp
  have htp : (upd H tp (.tup [.ty "tuple", .ty "list"])) tp = some (.tup [.ty "tuple", .ty "list"]) := upd_same
  have hA1 := hA.kq k1
  generalize (upd H tp (.tup [.ty "tuple", .ty "list"])) = H1 at k1 htp hA1 ⊢
  cases hA1 with
  | non n =>
    refine ⟨_, tp, _, _, _, _, rfl, htp, paired_tl, (.base .non), kit_tl (b1 := false) (b2 := false) (by decide +kernel) (by decide +kernel), _, rfl, iteF ⟨_, rfl, rfl, _, rfl, iteT ⟨_, rfl, rfl, kQ _ k1⟩⟩⟩
  | str n s =>
    refine ⟨_, tp, _, _, _, _, rfl, htp, paired_tl, (.base (.str _)), kit_tl (b1 := false) (b2 := false) (by decide +kernel) (by decide +kernel), _, rfl, iteF ⟨_, rfl, rfl, _, rfl, iteF ⟨_, rfl, _, _, _, _, true, rfl, .ty _, .base (.str _), kit_ty (by decide +kernel), _, rfl, iteT ?_⟩⟩⟩
    refine ⟨_, rfl, _, _, _, _, true, rfl, .ty _, .base (.str _), kit_ty (by decide +kernel), _, rfl, iteT ⟨_, rfl, _, rfl, rfl, ?_⟩⟩
    rw [decide_eq_true rfl]; exact kQ _ k1
  | int n i =>
    refine ⟨_, tp, _, _, _, _, rfl, htp, paired_tl, (.base (.int _)), kit_tl (b1 := false) (b2 := false) (by decide +kernel) (by decide +kernel), _, rfl, iteF ⟨_, rfl, rfl, _, rfl, iteF ⟨_, rfl, _, _, _, _, false, rfl, .ty _, .base (.int _), kit_ty (by decide +kernel), _, rfl, iteF ?_⟩⟩⟩
    refine ⟨_, rfl, _, _, _, _, false, rfl, .ty _, .base (.int _), kit_ty (by decide +kernel), _, rfl, iteF ⟨_, rfl, _, _, _, _, false, rfl, .ty _, .base (.int _), kit_ty (by decide +kernel), _, rfl, iteF ?_⟩⟩
    refine ⟨_, rfl, _, _, _, _, true, rfl, .ty _, .base (.int _), kit_ty (by decide +kernel), _, rfl, iteT ⟨_, rfl, _, rfl, rfl, ?_⟩⟩
    rw [decide_eq_true rfl]; exact kQ _ k1
  | bl n b =>
    refine ⟨_, tp, _, _, _, _, rfl, htp, paired_tl, (.base (.bl _)), kit_tl (b1 := false) (b2 := false) (by decide +kernel) (by decide +kernel), _, rfl, iteF ⟨_, rfl, rfl, _, rfl, iteF ⟨_, rfl, _, _, _, _, false, rfl, .ty _, .base (.bl _), kit_ty (by decide +kernel), _, rfl, iteF ?_⟩⟩⟩
    refine ⟨_, rfl, _, _, _, _, true, rfl, .ty _, .base (.bl _), kit_ty (by decide +kernel), _, rfl, iteT ?_⟩
    refine ⟨_, rfl, _, _, _, _, true, rfl, .ty _, .base (.bl _), kit_ty (by decide +kernel), _, rfl, iteT ?_⟩
    refine ⟨_, rfl, _, _, _, _, true, rfl, .ty _, .base (.bl _), kit_ty (by decide +kernel), _, rfl, iteT ⟨_, rfl, _, rfl, rfl, ?_⟩⟩
    rw [decide_eq_true rfl]; exact kQ _ k1
  | lst h1 h2 hl hb hh =>
    rename_i n a b xs ys
    refine ⟨_, tp, _, _, _, _, rfl, htp, paired_tl, .base (.lst h2), kit_tl (b1 := false) (b2 := true) (by decide +kernel) (by decide +kernel), _, rfl, iteT ?_⟩
    refine ⟨_, rfl, line16 (by show 2 ≤ 1000000; decide), fun tp2 ntp2 => ?_⟩
    have k2 : Kq [] H1 (upd H1 tp2 (.tup [.ty "tuple", .ty "list"])) := Kq.alloc ntp2
    refine ⟨_, tp2, _, _, _, _, rfl, upd_same, paired_tl, .base (.lst (k2.get h1)), kit_tl (b1 := false) (b2 := true) (by decide +kernel) (by decide +kernel), _, rfl, iteF ?_⟩
    generalize (upd H1 tp2 (.tup [.ty "tuple", .ty "list"])) = H2 at k2 ⊢
    refine ⟨_, rfl, _, _, _, _, true, rfl, .ty _, .base (.lst (k2.get h1)), kit_ty (by decide +kernel), _, rfl, _, _, _, _, true, rfl, .ty _, .base (.lst (k2.get h2)), kit_ty (by decide +kernel), rfl, _, rfl, iteN (fun z => absurd rfl z) (fun _ => ?_)⟩
    refine ⟨_, rfl, a, _, rfl, .inl (SqL.of (k2.get h1)), _, rfl, b, _, rfl, .inl (SqL.of (k2.get h2)), rfl, _, rfl, iteN (fun z => absurd (by rw [hl]) z) (fun _ => ?_)⟩
    refine ⟨_, rfl, b, _, rfl, .inl (SqL.of (k2.get h2)), _, rfl, by omega, by omega, fun D nD => ?_⟩
    refine lc_range (lo := 0) (n := (ys.length : Int).toNat) (fun i H' => Kq [] H2 H' ∧ H' D = some (.lst [])) ⟨Kq.alloc nD, upd_same⟩ ?_ ?_
    · rintro i H' hi ⟨k3, hD⟩
      have hi : i < ys.length := by simpa using hi
      have hix : i < xs.length := by omega
      have k23 := k2.trans k3
      refine ⟨rfl, _, rfl, _, rfl, .inl ⟨a, xs, _, xs[i], rfl, rfl, SqL.of (k23.get h1), at_of (j := i) (by omega) (List.getElem?_eq_getElem hix), _, rfl, _, rfl, .inl ⟨b, ys, _, ys[i], rfl, rfl, SqL.of (k23.get h2), at_of (j := i) (by omega) (List.getElem?_eq_getElem hi), _, _, rfl, (hh i _ _ (List.getElem?_eq_getElem hix) (List.getElem?_eq_getElem hi)).kq k23, fun H3 k4 => ⟨_, rfl, ?_⟩⟩⟩⟩
      exact iteF ⟨k3.trans k4, k4.get hD⟩
    · rintro H' ⟨k3, hD⟩
      refine ⟨line16 (by show 0 ≤ 1000000; decide), fun p np => ?_⟩
      have k4 : Kq [] H' (upd H' p (.lst [])) := Kq.alloc np
      refine ⟨.list [], .list [], .lst (SqL.of (k4.get hD)) .nil, .lst (SqL.of upd_same) .nil, rfl, rfl, ?_⟩
      exact kQ _ ((k1.trans k2).trans (k3.trans k4))
  | tup h1 h2 hl hb hh =>
    rename_i n a b xs ys
    refine ⟨_, tp, _, _, _, _, rfl, htp, paired_tl, tyx_tup h2, kit_tl (b1 := true) (b2 := false) (by decide +kernel) (by decide +kernel), _, rfl, iteT ?_⟩
    refine ⟨_, rfl, line16 (by show 2 ≤ 1000000; decide), fun tp2 ntp2 => ?_⟩
    have k2 : Kq [] H1 (upd H1 tp2 (.tup [.ty "tuple", .ty "list"])) := Kq.alloc ntp2
    refine ⟨_, tp2, _, _, _, _, rfl, upd_same, paired_tl, tyx_tup (k2.tup h1), kit_tl (b1 := true) (b2 := false) (by decide +kernel) (by decide +kernel), _, rfl, iteF ?_⟩
    generalize (upd H1 tp2 (.tup [.ty "tuple", .ty "list"])) = H2 at k2 ⊢
    refine ⟨_, rfl, _, _, _, _, false, rfl, .ty _, tyx_tup (k2.tup h1), kit_ty (by decide +kernel), _, rfl, _, _, _, _, false, rfl, .ty _, tyx_tup (k2.tup h2), kit_ty (by decide +kernel), rfl, _, rfl, iteN (fun z => absurd rfl z) (fun _ => ?_)⟩
    refine ⟨_, rfl, a, _, rfl, .inr (k2.tup h1), _, rfl, b, _, rfl, .inr (k2.tup h2), rfl, _, rfl, iteN (fun z => absurd (by rw [hl]) z) (fun _ => ?_)⟩
    refine ⟨_, rfl, b, _, rfl, .inr (k2.tup h2), _, rfl, by omega, by omega, fun D nD => ?_⟩
    refine lc_range (lo := 0) (n := (ys.length : Int).toNat) (fun i H' => Kq [] H2 H' ∧ H' D = some (.lst [])) ⟨Kq.alloc nD, upd_same⟩ ?_ ?_
    · rintro i H' hi ⟨k3, hD⟩
      have hi : i < ys.length := by simpa using hi
      have hix : i < xs.length := by omega
      have k23 := k2.trans k3
      refine ⟨rfl, _, rfl, _, rfl, .inr <| .inl ⟨a, xs, _, xs[i], rfl, rfl, k23.tup h1, at_of (j := i) (by omega) (List.getElem?_eq_getElem hix), _, rfl, _, rfl, .inr <| .inl ⟨b, ys, _, ys[i], rfl, rfl, k23.tup h2, at_of (j := i) (by omega) (List.getElem?_eq_getElem hi), _, _, rfl, (hh i _ _ (List.getElem?_eq_getElem hix) (List.getElem?_eq_getElem hi)).kq k23, fun H3 k4 => ⟨_, rfl, ?_⟩⟩⟩⟩
      exact iteF ⟨k3.trans k4, k4.get hD⟩
    · rintro H' ⟨k3, hD⟩
      refine ⟨line16 (by show 0 ≤ 1000000; decide), fun p np => ?_⟩
      have k4 : Kq [] H' (upd H' p (.lst [])) := Kq.alloc np
      refine ⟨.list [], .list [], .lst (SqL.of (k4.get hD)) .nil, .lst (SqL.of upd_same) .nil, rfl, rfl, ?_⟩
      exact kQ _ ((k1.trans k2).trans (k3.trans k4))
theorem cps_aab : (Str.ofString "aab, ").cps.toList = [97, 97, 98, 44, 32] := by decide +kernel
end
end KT
set_option Elab.async false
set_option linter.all false
set_option maxRecDepth 100000
set_option maxHeartbeats 4000000
namespace KT
open PySem PySem.Spec PyProof.Rows L2 GxR
variable [GT]
theorem Kf.ints {S : List Addr} {H H1 : Hp} (k : Kf S H H1) {b : Addr} {o : HO} (h : H b = some o) (m : b ∉ S) (n : noTbl o = true := by rfl) : H1 b = some o := k.q.gets h m n
def everyS : Str := Str.ofString " !\"#$&'()*+,-./0123456789:;<=>?@ABCDEFGHIJKLMNOPQRSTUVWXYZ[\\]^_`abcdefghijklmnopqrstuvwxyz{|}~"
theorem every_ok : everyS.cps.toList.length = 94 ∧ ∀ c ∈ everyS.cps.toList, okSign c := by decide +kernel
theorem every_len : everyS.length = 94 := by decide +kernel
def aabS : Str := Str.ofString "aab, "
theorem aab_ok : aabS.cps.toList = [97, 97, 98, 44, 32] := by decide +kernel
theorem cps_at {l : List Nat} {j : Nat} {c : Nat} {i : Int} (e : i = (j : Int)) (h : l[j]? = some c) : atI l i = some c := by subst e; exact atI_nat h
section
variable {P : Program} {w : World} {K : PySem.W.Frag} {mg : Str → Option Value} {base : Heap}
theorem ok_alike (T : Tx w K mg) : ∀ n, Fk P w K mg base (n + 1) (Ad K d__law_alike.at_) ["_law_found", "_law_due"] (sp_alike K n)
  | 0 => mkF T.f__law_alike sc__law_alike rfl (fun _ _ _ _ _ _ us hl => match us, hl with | [_, _], _ => rfl) (fun _ _ _ _ h => h.elim) (fun _ _ _ _ _ _ _ _ _ _ _ h => h.elim)
  | n + 1 => ok__law_alike T (ok_alike T n)
def sp_sign (K : PySem.W.Frag) : Sp := fun vs H Q _ => ∃ (h l : Addr), vs = [.ref h] ∧ DrAt H h l ∧ ∀ (c : Nat) H', okSign c → Kf [h, l] H H' → DrAt H' h l → Q (.str (S [c])) H'
theorem sc__law_sign : FnScope ["_law_h", "_law_every"] ["_law_h"] (defScope s__law_sign) := ⟨rfl, rfl, rfl, by decide +kernel, rfl, by decide +kernel, by decide +kernel⟩
theorem ok__law_sign (T : Tx w K mg) : Fk P w K mg base 2 (Ad K d__law_sign.at_) ["_law_h"] (sp_sign K) := by
  have F__law_next := ok__law_next (P := P) (base := base) T
  refine mkF T.f__law_sign sc__law_sign rfl (fun _ _ _ _ _ _ us hl => match us, hl with | [_], _ => rfl) (fun vs H Q E h => by obtain ⟨_, _, rfl, _⟩ := h; rfl) (fun cdv A outer s H vs Q E hcd hcode hr h => ?_)
  refine ⟨_, (pss_cons (ps_asg pe_str (pg_name (i := 1) sc__law_sign.nd rfl (.inl rfl)))
      (pss_one (ps_ret (pe_ix ix_list (pe_lst (pa_cons (pe_ix ix_str pe_str (pe_cF F__law_next (hr.mono (by decide)) T.g__law_next px (pa_cons (pv 0) (pa_cons pe_int pa_nil))) (fun _ _ => rfl)) (pa_cons (pe_ix ix_str (pv 1) (pe_cF F__law_next (hr.mono (by decide)) T.g__law_next px (pa_cons (pv 0) (pa_cons (pe_callB call_len_str (by rfl) T.n_len (by decide +kernel) (pa_cons (pv 1) pa_nil)) pa_nil))) (fun _ _ => rfl)) pa_nil))) (pe_op op_fdivN (pe_cF F__law_next (hr.mono (by decide)) T.g__law_next px (pa_cons (pv 0) (pa_cons pe_int pa_nil))) pe_int) (fun _ _ => rfl))))), ?_⟩
  obtain ⟨h, l, rfl, hD, kQ⟩ := h
  refine ⟨_, rfl, h, l, 5, rfl, hD, by decide, by decide, fun r1 H1 hr1 k1 hD1 => ?_⟩
  have h1 : r1 < aabS.cps.toList.length := by rw [aab_ok]; exact hr1
  refine ⟨aabS, _, _, rfl, rfl, line16 (by decide +kernel), cps_at rfl (List.getElem?_eq_getElem h1), ?_⟩
  refine ⟨_, rfl, _, rfl, _, rfl, everyS, rfl, line16 (by decide +kernel), h, l, 94, ?_, hD1, by decide, by decide, fun r2 H2 hr2 k2 hD2 => ?_⟩
  · rw [every_len]
  have h2 : r2 < everyS.cps.toList.length := by rw [every_ok.1]; exact hr2
  refine ⟨everyS, _, _, rfl, rfl, line16 (by decide +kernel), cps_at rfl (List.getElem?_eq_getElem h2), line16 (by show 2 ≤ 1000000; decide), fun p np => ?_⟩
  have c1 : okSign (aabS.cps.toList[r1]) := by
    have : ∀ c ∈ aabS.cps.toList, okSign c := by rw [aab_ok]; decide
    exact this _ (List.getElem_mem _)
  have c2 : okSign (everyS.cps.toList[r2]) := every_ok.2 _ (List.getElem_mem _)
  generalize aabS.cps.toList[r1] = a1 at c1 ⊢
  generalize everyS.cps.toList[r2] = a2 at c2 ⊢
  have k3 : Kq [] H2 (upd H2 p (.lst [.str ⟨#[a1]⟩, .str ⟨#[a2]⟩])) := Kq.alloc np
  refine ⟨_, rfl, h, l, 4, rfl, hD2.kq k3, by decide, by decide, fun r3 H3 hr3 k4 hD3 => ?_⟩
  have g : H3 p = some (.lst [.str ⟨#[a1]⟩, .str ⟨#[a2]⟩]) := by
    obtain ⟨_, _, _, d1, d2, _⟩ := hD2
    exact k4.q.gets upd_same (by simp; exact ⟨(ne_of_none d1 np).symm, (ne_of_none d2 np).symm⟩)
  have kk : Kf [h, l] H H3 := ((k1.trans k2).kq k3).trans k4
  have hr : (r3 : Int).fdiv 3 = 0 ∨ (r3 : Int).fdiv 3 = 1 := by
    have : ∀ n : Nat, n < 4 → (n : Int).fdiv 3 = 0 ∨ (n : Int).fdiv 3 = 1 := by decide
    exact this r3 hr3
  rcases hr with e | e
  · exact ⟨_, _, rfl, rfl, (by show (3 : Int) ≠ 0 ∧ (3 : Int).natAbs < 1073741824; decide), p, _, _, .str ⟨#[a1]⟩, rfl, rfl, SqL.of g, at_of (j := 0) e rfl, kQ a1 H3 c1 kk hD3⟩
  · exact ⟨_, _, rfl, rfl, (by show (3 : Int) ≠ 0 ∧ (3 : Int).natAbs < 1073741824; decide), p, _, _, .str ⟨#[a2]⟩, rfl, rfl, SqL.of g, at_of (j := 1) e rfl, kQ a2 H3 c2 kk hD3⟩
end
end KT
set_option Elab.async false
set_option linter.all false
set_option maxRecDepth 100000
set_option maxHeartbeats 4000000
namespace KT
open PySem PySem.Spec PyProof.Rows L2 GxR
variable [GT]
theorem empty_eq : Str.ofString "" = S [] := by decide +kernel
theorem joinL_one : ∀ cs : Ln, TL.joinL [] (cs.map fun c => [c]) = cs
  | [] => rfl
  | [c] => rfl
  | c :: d :: r => by
    have := joinL_one (d :: r)
    show [c] ++ ([] ++ TL.joinL [] ((d :: r).map fun c => [c])) = c :: d :: r
    rw [this]; rfl
theorem join_signs (cs : Ln) : Txt.join (Str.ofString "") (cs.map fun c => S [c]) = S cs := by
  rw [empty_eq]
  refine TL.ext_tl ?_
  rw [TL.join_eq, TL.tl_join]
  rw [show ((cs.map fun c => S [c]).map TL.tl) = cs.map fun c => [c] by rw [List.map_map]; rfl]
  exact joinL_one cs
theorem signs_len (cs : Ln) : ((cs.map fun c => S [c]).map (·.length)).sum = cs.length := by
  induction cs with
  | nil => rfl
  | cons c r ih =>
    simp only [List.map_cons, List.sum_cons, List.length_cons, ih]
    rw [S_len]; simp [Nat.add_comm]
theorem good_row {l : Ln} (h : l.length ≤ 60) (hs : ∀ c ∈ l, okSign c) : goodRow l = true := by
  unfold goodRow
  rw [decide_eq_true h]
  refine List.all_eq_true.mpr fun c hc => ?_
  rw [signB_eq]
  exact decide_eq_true (hs c hc)
theorem DrAt.upd {H : Hp} {h l D : Addr} {o : HO} (d : DrAt H h l) (n1 : D ≠ h) (n2 : D ≠ l) : DrAt (upd H D o) h l := by
  obtain ⟨a, c, xs, h1, h2, ne⟩ := d
  exact ⟨a, c, xs, (upd_ne n1.symm).trans h1, (upd_ne n2.symm).trans h2, ne⟩
section
variable {P : Program} {w : World} {K : PySem.W.Frag} {mg : Str → Option Value} {base : Heap}
def sp_text (K : PySem.W.Frag) : Sp := fun vs H Q _ => ∃ (h l : Addr), vs = [.ref h] ∧ DrAt H h l ∧ ∀ ls H', ls ≠ [] → goodB ls = true → Kf [h, l] H H' → DrAt H' h l → Q (.str (textS ls)) H'
end
end KT
set_option Elab.async false
set_option linter.all false
set_option maxRecDepth 100000
set_option maxHeartbeats 4000000
namespace KT
open PySem PySem.Spec PyProof.Rows L2 GxR
variable [GT]
theorem runK_single (ed : EdSt) {ky : Ky} (h : ky.single = true) : ∃ st, runK ed ky = .fin (ed.page.does ky).isSome st ∧ st.page = (ed.page.does ky).getD ed.page := by
  unfold runK
  rw [doK_eq]
  have ha : addT ⟨ed.page, [], 0⟩ = some ⟨ed.page, [], 1⟩ := rfl
  rw [ha]
  have hp : ∀ st, playR ed.tapes (under ed.tapes 20) ky st = singleR ky st := fun st => by cases ky <;> first | rfl | cases h
  show ∃ st, playR ed.tapes (under ed.tapes 20) ky ⟨ed.page, [], 1⟩ = _ ∧ _
  rw [hp]
  unfold singleR
  cases hd : ed.page.does ky with
  | none => exact ⟨_, rfl, rfl⟩
  | some g => exact ⟨_, rfl, rfl⟩
def sp_Editor (K : PySem.W.Frag) : Sp := fun vs H Q E => ∃ ls, vs = [.str (textS ls)] ∧ ls ≠ [] ∧ goodB ls = true ∧ TabG H (tS K) ∧ ∀ m H', (∀ b ∈ m.l, H b = none) → Kq [] H H' → EdAt K H' m (EdSt.new ls) → Q (.ref m.e) H'
theorem good_parts {ls : List Ln} (hg : goodB ls = true) : ls.length ≤ 12 ∧ (∀ l ∈ ls, l.length ≤ 60) ∧ ∀ l ∈ ls, 10 ∉ l := by
  unfold goodB at hg
  simp only [Bool.and_eq_true, decide_eq_true_eq, List.all_eq_true] at hg
  have hrow : ∀ l ∈ ls, l.length ≤ 60 ∧ l.all signB = true := fun l hl => by
    have := hg.2 l hl
    unfold goodRow at this
    simp only [Bool.and_eq_true, decide_eq_true_eq] at this
    exact this
  exact ⟨hg.1, fun l hl => (hrow l hl).1, fun l hl => good_no10 (hrow l hl).2⟩
section
variable {P : Program} {w : World} {K : PySem.W.Frag} {mg : Str → Option Value} {base : Heap}
theorem new_Editor {E : XK} : ∀ vs H Q, sp_Editor K vs H Q E → ∀ x dx, H x = none → H dx = none → dx ≠ x →
    sp_Editor___init__ K (.ref x :: vs) (upd (upd H dx (.own x)) x (.ins (He.ga K "Editor") dx [])) (fun v H2 => v = .non ∧ Q (.ref x) H2) E := by
  rintro vs H Q ⟨ls, rfl, hne, hg, hT, k⟩ x dx nx ndx ne
  obtain ⟨h12, h60, h10⟩ := good_parts hg
  have k0 : Kq [] H (upd (upd H dx (.own x)) x (.ins (He.ga K "Editor") dx [])) := Kq.made nx ndx ne
  refine ⟨x, dx, ls, rfl, upd_same, hne, h10, fun l hl => Nat.le_trans (h60 l hl) (by decide), Nat.le_trans h12 (by decide), k0.tab _ hT, fun _ t pr un ud H' n1 n2 n3 n4 kq hE => ⟨rfl, k ⟨x, t, pr, un, ud⟩ H' ?_ (k0.fresh kq fun c hc => by rw [List.mem_singleton.mp hc]; exact nx) hE⟩, fun e => by rw [hg] at e; cases e⟩
  intro b hb
  simp only [EdM.l, List.mem_cons, List.not_mem_nil, or_false] at hb
  rcases hb with rfl | rfl | rfl | rfl | rfl
  · exact nx
  · exact k0.fr _ n1
  · exact k0.fr _ n2
  · exact k0.fr _ n3
  · exact k0.fr _ n4
/-- no address in both -/
def Dj (A B : List Addr) : Prop := ∀ a ∈ A, a ∉ B
theorem Dj.fresh {A B : List Addr} {H : Hp} (h : ∀ a ∈ A, H a = none) (hb : ∀ b ∈ B, H b ≠ none) : Dj A B := fun a ha hb' => hb a hb' (h a ha)
theorem Dj.step {A A' B : List Addr} {H : Hp} (d : Dj A B) (h : ∀ a ∈ A', a ∈ A ∨ H a = none) (hb : ∀ b ∈ B, H b ≠ none) : Dj A' B := fun a ha hb' => by
  rcases h a ha with z | z
  · exact d a z hb'
  · exact hb a hb' z
theorem Dj.symm {A B : List Addr} (d : Dj A B) : Dj B A := fun a ha hb => d a hb ha
theorem DrAt.some {H : Hp} {h l : Addr} (d : DrAt H h l) : ∀ b ∈ [h, l], H b ≠ none := fun b hb => by
  obtain ⟨o, e, _⟩ := d.wr b hb
  rw [e]; simp
theorem EdAt.some {K : PySem.W.Frag} {H : Hp} {m : EdM} {ed : EdSt} (h : EdAt K H m ed) : ∀ b ∈ m.l, H b ≠ none := fun b hb => by
  obtain ⟨o, e, _⟩ := h.wr b hb
  rw [e]; simp
def sp_law (K : PySem.W.Frag) : Sp := fun vs H Q _ => ∃ (a : Addr) (ns : List Int), vs = [.ref a] ∧ SqL K H a (ns.map V.int) ∧ TabG H (tS K) ∧ ∀ H', Q (.bl true) H'
end
end KT
set_option Elab.async false
set_option linter.all false
set_option maxRecDepth 100000
set_option maxHeartbeats 4000000
namespace KT
open PySem PySem.Spec PyProof.Rows L2 GxR
variable [GT]
def wordsV : List V := [.str "put", .str "put", .str "rub", .str "left", .str "right", .str "right", .str "up", .str "down", .str "home", .str "end", .str "find", .str "take", .str "lay", .str "break"]
theorem words_at {r : Nat} (h : r < 14) : ∃ wd : Str, wordsV[r]? = some (.str wd) ∧ (wd = "put" ∨ wd = "find" ∨ (wd ≠ "put" ∧ wd ≠ "find" ∧ ∃ ky : Ky, ky.Ok ∧ ky.single = true ∧ keyV ky = [.str wd])) := match r, h with
  | 0, _ => ⟨_, rfl, .inl rfl⟩
  | 1, _ => ⟨_, rfl, .inl rfl⟩
  | 2, _ => ⟨_, rfl, .inr (.inr ⟨by decide +kernel, by decide +kernel, .rub, trivial, rfl, rfl⟩)⟩
  | 3, _ => ⟨_, rfl, .inr (.inr ⟨by decide +kernel, by decide +kernel, .left, trivial, rfl, rfl⟩)⟩
  | 4, _ => ⟨_, rfl, .inr (.inr ⟨by decide +kernel, by decide +kernel, .right, trivial, rfl, rfl⟩)⟩
  | 5, _ => ⟨_, rfl, .inr (.inr ⟨by decide +kernel, by decide +kernel, .right, trivial, rfl, rfl⟩)⟩
  | 6, _ => ⟨_, rfl, .inr (.inr ⟨by decide +kernel, by decide +kernel, .up, trivial, rfl, rfl⟩)⟩
  | 7, _ => ⟨_, rfl, .inr (.inr ⟨by decide +kernel, by decide +kernel, .down, trivial, rfl, rfl⟩)⟩
  | 8, _ => ⟨_, rfl, .inr (.inr ⟨by decide +kernel, by decide +kernel, .home, trivial, rfl, rfl⟩)⟩
  | 9, _ => ⟨_, rfl, .inr (.inr ⟨by decide +kernel, by decide +kernel, .end_, trivial, rfl, rfl⟩)⟩
  | 10, _ => ⟨_, rfl, .inr (.inl rfl)⟩
  | 11, _ => ⟨_, rfl, .inr (.inr ⟨by decide +kernel, by decide +kernel, .take, trivial, rfl, rfl⟩)⟩
  | 12, _ => ⟨_, rfl, .inr (.inr ⟨by decide +kernel, by decide +kernel, .lay, trivial, rfl, rfl⟩)⟩
  | 13, _ => ⟨_, rfl, .inr (.inr ⟨by decide +kernel, by decide +kernel, .brk, trivial, rfl, rfl⟩)⟩
section
variable {P : Program} {w : World} {K : PySem.W.Frag} {mg : Str → Option Value} {base : Heap}
def sp_single (K : PySem.W.Frag) : Sp := fun vs H Q _ => ∃ (h l : Addr), vs = [.ref h] ∧ DrAt H h l ∧ ∀ a ky H', ky.Ok → ky.single = true → Kf [h, l] H H' → DrAt H' h l → KeyAt K H' a ky → Q (.ref a) H'
end
end KT
set_option linter.all false
namespace KT
/-! ### every place of some rows -/
def posAll : Nat → List Ln → List (Nat × Nat)
  | _, [] => []
  | k, l :: ls => (List.range (l.length + 1)).map (fun n => (k, n)) ++ posAll (k + 1) ls
def off : List Ln → Nat → Nat
  | _, 0 => 0
  | [], _ + 1 => 0
  | l :: ls, r + 1 => l.length + 1 + off ls r
theorem off_succ : ∀ (ls : List Ln) (r : Nat), r < ls.length → off ls (r + 1) = off ls r + (ls.getD r []).length + 1
  | [], r, h => by simp at h
  | l :: ls, 0, _ => by show l.length + 1 + off ls 0 = 0 + l.length + 1; cases ls <;> simp [off]
  | l :: ls, r + 1, h => by
    have := off_succ ls r (by simpa using h)
    show l.length + 1 + off ls (r + 1) = l.length + 1 + off ls r + (ls.getD r []).length + 1
    omega
theorem pos_len : ∀ (k : Nat) (ls : List Ln), (posAll k ls).length = off ls ls.length
  | _, [] => rfl
  | k, l :: ls => by
    show ((List.range (l.length + 1)).map (fun n => (k, n)) ++ posAll (k + 1) ls).length = l.length + 1 + off ls ls.length
    rw [List.length_append, List.length_map, List.length_range, pos_len]
theorem pos_get : ∀ (ls : List Ln) (k r c : Nat), r < ls.length → c ≤ (ls.getD r []).length → (posAll k ls)[off ls r + c]? = some (k + r, c)
  | [], _, _, _, h, _ => by simp at h
  | l :: ls, k, 0, c, _, hc => by
    show ((List.range (l.length + 1)).map (fun n => (k, n)) ++ posAll (k + 1) ls)[0 + c]? = _
    have hc : c ≤ l.length := hc
    rw [List.getElem?_append_left (by rw [List.length_map, List.length_range]; omega), Nat.zero_add, List.getElem?_map, List.getElem?_range (by omega)]
    rfl
  | l :: ls, k, r + 1, c, h, hc => by
    show ((List.range (l.length + 1)).map (fun n => (k, n)) ++ posAll (k + 1) ls)[l.length + 1 + off ls r + c]? = _
    rw [List.getElem?_append_right (by rw [List.length_map, List.length_range]; omega), List.length_map, List.length_range, show l.length + 1 + off ls r + c - (l.length + 1) = off ls r + c by omega, pos_get ls (k + 1) r c (by simpa using h) hc]
    congr 2; omega
theorem pos_inv : ∀ (ls : List Ln) (k m r c : Nat), (posAll k ls)[m]? = some (r, c) → ∃ r', r = k + r' ∧ r' < ls.length ∧ c ≤ (ls.getD r' []).length ∧ m = off ls r' + c
  | [], _, _, _, _, h => by simp [posAll] at h
  | l :: ls, k, m, r, c, h => by
    have h : ((List.range (l.length + 1)).map (fun n => (k, n)) ++ posAll (k + 1) ls)[m]? = some (r, c) := h
    by_cases hm : m < l.length + 1
    · rw [List.getElem?_append_left (by rw [List.length_map, List.length_range]; omega), List.getElem?_map, List.getElem?_range (by omega)] at h
      have h : some (k, m) = some (r, c) := h
      cases h
      exact ⟨0, rfl, by simp, by show m ≤ l.length; omega, by simp [off]⟩
    · rw [List.getElem?_append_right (by rw [List.length_map, List.length_range]; omega), List.length_map, List.length_range] at h
      obtain ⟨r', h1, h2, h3, h4⟩ := pos_inv ls (k + 1) _ r c h
      refine ⟨r' + 1, by omega, by simp; omega, h3, ?_⟩
      show m = l.length + 1 + off ls r' + c
      omega
theorem posAll_snoc : ∀ (k : Nat) (ls : List Ln) (l : Ln), posAll k (ls ++ [l]) = posAll k ls ++ (List.range (l.length + 1)).map (fun n => (k + ls.length, n))
  | k, [], l => by simp [posAll]
  | k, a :: ls, l => by
    show (List.range (a.length + 1)).map (fun n => (k, n)) ++ posAll (k + 1) (ls ++ [l]) = _
    rw [posAll_snoc]
    show _ = (List.range (a.length + 1)).map (fun n => (k, n)) ++ posAll (k + 1) ls ++ _
    rw [List.append_assoc]
    congr 2
    simp only [List.length_cons]
    rw [show k + 1 + ls.length = k + (ls.length + 1) by omega]
/-! ### where a word stands -/
def standL (w l : Ln) (k : Nat) : List (Nat × Nat) := ((List.range l.length).filter (stands w l)).map fun n => (k, n)
def standAll (w : Ln) : Nat → List Ln → List (Nat × Nat)
  | _, [] => []
  | k, l :: ls => standL w l k ++ standAll w (k + 1) ls
theorem standAll_snoc (w : Ln) : ∀ (k : Nat) (ls : List Ln) (l : Ln), standAll w k (ls ++ [l]) = standAll w k ls ++ standL w l (k + ls.length)
  | k, [], l => by simp [standAll]
  | k, a :: ls, l => by
    show standL w a k ++ standAll w (k + 1) (ls ++ [l]) = standL w a k ++ standAll w (k + 1) ls ++ _
    rw [standAll_snoc, List.append_assoc]
    congr 3
    simp only [List.length_cons]; omega
def gtP (r c : Nat) (p : Nat × Nat) : Bool := decide (r < p.1) || (decide (r = p.1) && decide (c < p.2))
theorem firstAt_range (w l : Ln) : ∀ (n c : Nat), firstAt w l c n = ((List.range' c n).filter (stands w l)).head?
  | 0, c => rfl
  | n + 1, c => by
    unfold firstAt
    rw [List.range'_succ, List.filter_cons]
    by_cases h : stands w l c = true
    · rw [if_pos h, if_pos h]; rfl
    · rw [if_neg h, if_neg h, firstAt_range w l n (c + 1)]
theorem range_ge (n c : Nat) : (List.range n).filter (fun m => decide (c ≤ m)) = List.range' c (n - c) := by
  induction n with
  | zero => simp
  | succ n ih =>
    rw [List.range_succ, List.filter_append, ih]
    by_cases h : c ≤ n
    · rw [List.filter_cons_of_pos (by simp [h]), List.filter_nil, show n + 1 - c = (n - c) + 1 by omega, List.range'_concat, show c + 1 * (n - c) = n by omega]
    · rw [List.filter_cons_of_neg (by simp [h]), List.filter_nil, show n + 1 - c = 0 by omega, show n - c = 0 by omega]; rfl
theorem findL_eq {w l : Ln} {c : Nat} (hw : w ≠ []) : findL w l c = ((List.range l.length).filter (fun n => decide (c ≤ n) && stands w l n)).head? := by
  unfold findL
  rw [firstAt_range]
  have e : (List.range' c (l.length + 1 - c)).filter (stands w l) = (List.range' c (l.length - c)).filter (stands w l) := by
    by_cases h : c ≤ l.length
    · rw [show l.length + 1 - c = (l.length - c) + 1 by omega, List.range'_concat, List.filter_append, show c + 1 * (l.length - c) = l.length by omega]
      have : stands w l l.length = false := by
        unfold stands
        have : 0 < w.length := List.length_pos_iff.mpr hw
        rw [decide_eq_false (by omega)]; rfl
      rw [List.filter_cons_of_neg (by simp [this]), List.filter_nil, List.append_nil]
    · rw [show l.length + 1 - c = 0 by omega, show l.length - c = 0 by omega]
  rw [e, ← range_ge, List.filter_filter]
  congr 2
  funext n
  rw [Bool.and_comm]
theorem head_map {α β : Type} (f : α → β) (l : List α) : (l.map f).head? = l.head?.map f := by cases l <;> rfl
theorem head_app {α : Type} (a b : List α) : (a ++ b).head? = match a.head? with | some x => some x | none => b.head? := by cases a <;> rfl
theorem seek_row (w l : Ln) (ls : List Ln) (k c : Nat) : seek w (l :: ls) k c = match findL w l c with | some j => some (k, j) | none => seek w ls (k + 1) 0 := rfl
theorem seek_all {w : Ln} (hw : w ≠ []) (r c : Nat) : ∀ (ls : List Ln) (k : Nat), r < k → ((standAll w k ls).filter (gtP r c)).head? = seek w ls k 0
  | [], _, _ => rfl
  | l :: ls, k, hk => by
    show ((standL w l k ++ standAll w (k + 1) ls).filter (gtP r c)).head? = _
    rw [List.filter_append, head_app, seek_all hw r c ls (k + 1) (by omega)]
    have : ((standL w l k).filter (gtP r c)).head? = (findL w l 0).map fun n => (k, n) := by
      rw [findL_eq hw]
      unfold standL
      rw [List.filter_map, head_map, List.filter_filter]
      congr 2
      refine List.filter_congr fun n _ => ?_
      simp [gtP, hk]
    rw [this, seek_row]
    cases findL w l 0 <;> rfl
theorem seek_first {w : Ln} (hw : w ≠ []) (r c : Nat) : ∀ (ls : List Ln), ((standAll w r ls).filter (gtP r c)).head? = seek w ls r (c + 1)
  | [] => rfl
  | l :: ls => by
    show ((standL w l r ++ standAll w (r + 1) ls).filter (gtP r c)).head? = _
    rw [List.filter_append, head_app, seek_all hw r c ls (r + 1) (by omega)]
    have : ((standL w l r).filter (gtP r c)).head? = (findL w l (c + 1)).map fun n => (r, n) := by
      rw [findL_eq hw]
      unfold standL
      rw [List.filter_map, head_map, List.filter_filter]
      congr 2
      refine List.filter_congr fun n _ => ?_
      simp only [gtP, Function.comp]
      by_cases h : c < n
      · simp [h, Nat.succ_le_of_lt h]
      · simp [h]; omega
    rw [this, seek_row]
    cases findL w l (c + 1) <;> rfl
/-- in a row, a word that isn't empty stands where it is cut out -/
theorem stands_cut {w l : Ln} (hw : w ≠ []) (n : Nat) : stands w l n = decide ((l.drop n).take w.length = w) := by
  unfold stands
  by_cases h : (l.drop n).take w.length = w
  · have : 0 < w.length := List.length_pos_iff.mpr hw
    have hl : ((l.drop n).take w.length).length = w.length := by rw [h]
    rw [List.length_take, List.length_drop] at hl
    rw [decide_eq_true h, decide_eq_true (by omega)]; rfl
  · rw [decide_eq_false h, Bool.and_false]
/-! ### letters -/
theorem lets_all {l : Ln} {m : Nat} (h : (l.take m).all isLet = true) (hm : m ≤ l.length) : m ≤ lets l := by
  induction l generalizing m with
  | nil => simp at hm; omega
  | cons a r ih =>
    cases m with
    | zero => exact Nat.zero_le _
    | succ m =>
      simp only [List.take_succ_cons, List.all_cons, Bool.and_eq_true] at h
      have := ih h.2 (by simpa using hm)
      unfold lets at this ⊢
      rw [List.takeWhile_cons_of_pos h.1]
      simp only [List.length_cons]
      omega
theorem lets_not {l : Ln} {m : Nat} (h : ¬ (l.take m).all isLet = true) : lets l < m := by
  induction l generalizing m with
  | nil => simp at h
  | cons a r ih =>
    cases m with
    | zero => simp at h
    | succ m =>
      unfold lets
      by_cases ha : isLet a = true
      · rw [List.takeWhile_cons_of_pos ha]
        have := ih (m := m) (by intro z; apply h; simp only [List.take_succ_cons, List.all_cons, Bool.and_eq_true]; exact ⟨ha, z⟩)
        unfold lets at this
        simp only [List.length_cons]
        omega
      · rw [List.takeWhile_cons_of_neg ha]; simp
end KT
namespace KT
theorem pos_lt {ls : List Ln} {r c : Nat} (h : r < ls.length) (hc : c ≤ (ls.getD r []).length) : off ls r + c < (posAll 0 ls).length := by
  have := pos_get ls 0 r c h hc
  exact (List.getElem?_eq_some_iff.mp this).1
theorem pos_at {ls : List Ln} {r c : Nat} (h : r < ls.length) (hc : c ≤ (ls.getD r []).length) : (posAll 0 ls)[off ls r + c]? = some (r, c) := by
  rw [pos_get ls 0 r c h hc, Nat.zero_add]
theorem lr_math {g : Pg} (hg : g.Ok) (b : Bool) {a : Int} (ea : a = ((off g.rows g.row + g.col : Nat) : Int) + (bif b then -1 else 1)) :
    (∀ n : Nat, a = n → n < (posAll 0 g.rows).length → ∃ r c, (posAll 0 g.rows)[n]? = some (r, c) ∧ (bif b then g.left else g.right) = some (g.at_ r c)) ∧ ((a < 0 ∨ ((posAll 0 g.rows).length : Int) ≤ a) → (bif b then g.left else g.right) = none) := by
  have hr := hg.row
  have hc : g.col ≤ (g.rows.getD g.row []).length := hg.col
  have hlen := pos_len 0 g.rows
  cases b with
  | true =>
    have ea : a = ((off g.rows g.row + g.col : Nat) : Int) - 1 := by rw [ea]; show _ + (-1) = _; omega
    show (∀ n : Nat, a = n → n < (posAll 0 g.rows).length → ∃ r c, (posAll 0 g.rows)[n]? = some (r, c) ∧ g.left = some (g.at_ r c)) ∧ ((a < 0 ∨ ((posAll 0 g.rows).length : Int) ≤ a) → g.left = none)
    unfold Pg.left
    by_cases h0 : 0 < g.col
    · rw [if_pos h0]
      refine ⟨fun n en _ => ⟨g.row, g.col - 1, ?_, rfl⟩, fun h => ?_⟩
      · rw [show n = off g.rows g.row + (g.col - 1) by omega]
        exact pos_at hr (by omega)
      · have := pos_lt hr hc
        omega
    · rw [if_neg h0]
      by_cases h1 : g.row = 0
      · rw [if_pos h1]
        refine ⟨fun n en _ => ?_, fun _ => rfl⟩
        have : off g.rows g.row = 0 := by rw [h1]; cases g.rows <;> rfl
        omega
      · rw [if_neg h1]
        have hs := off_succ g.rows (g.row - 1) (by omega)
        rw [show g.row - 1 + 1 = g.row by omega] at hs
        refine ⟨fun n en _ => ⟨_, _, ?_, rfl⟩, fun h => ?_⟩
        · rw [show n = off g.rows (g.row - 1) + (g.rows.getD (g.row - 1) []).length by omega]
          exact pos_at (by omega) (Nat.le_refl _)
        · have := pos_lt hr hc
          omega
  | false =>
    have ea : a = ((off g.rows g.row + g.col : Nat) : Int) + 1 := ea
    show (∀ n : Nat, a = n → n < (posAll 0 g.rows).length → ∃ r c, (posAll 0 g.rows)[n]? = some (r, c) ∧ g.right = some (g.at_ r c)) ∧ ((a < 0 ∨ ((posAll 0 g.rows).length : Int) ≤ a) → g.right = none)
    unfold Pg.right Pg.line
    by_cases h0 : g.col < (g.rows.getD g.row []).length
    · rw [if_pos h0]
      have := pos_lt hr (Nat.succ_le_of_lt h0)
      refine ⟨fun n en _ => ⟨g.row, g.col + 1, ?_, rfl⟩, fun h => ?_⟩
      · rw [show n = off g.rows g.row + (g.col + 1) by omega]
        exact pos_at hr (by omega)
      · omega
    · rw [if_neg h0]
      have hs := off_succ g.rows g.row hr
      by_cases h1 : g.row + 1 = g.rows.length
      · rw [if_pos h1]
        refine ⟨fun n en hn => ?_, fun _ => rfl⟩
        rw [hlen, ← h1, hs] at hn
        omega
      · rw [if_neg h1]
        have := pos_lt (ls := g.rows) (r := g.row + 1) (c := 0) (by omega) (Nat.zero_le _)
        refine ⟨fun n en _ => ⟨_, _, ?_, rfl⟩, fun h => ?_⟩
        · rw [show n = off g.rows (g.row + 1) + 0 by omega]
          exact pos_at (by omega) (Nat.zero_le _)
        · omega
theorem posAll_len : ∀ (k : Nat) (ls : List Ln), (∀ l ∈ ls, l.length ≤ 60) → (posAll k ls).length ≤ ls.length * 61
  | _, [], _ => Nat.zero_le _
  | k, l :: ls, h => by
    have h1 := h l (by simp)
    have h2 := posAll_len (k + 1) ls fun x hx => h x (by simp [hx])
    show ((List.range (l.length + 1)).map (fun n => (k, n)) ++ posAll (k + 1) ls).length ≤ _
    rw [List.length_append, List.length_map, List.length_range]
    simp only [List.length_cons]
    omega
end KT
namespace KT
theorem standAll_len (w : Ln) : ∀ (k : Nat) (ls : List Ln), (∀ l ∈ ls, l.length ≤ 60) → (standAll w k ls).length ≤ ls.length * 60
  | _, [], _ => Nat.zero_le _
  | k, l :: ls, h => by
    have h1 := h l (by simp)
    have h2 := standAll_len w (k + 1) ls fun x hx => h x (by simp [hx])
    have h3 : (standL w l k).length ≤ l.length := by
      unfold standL
      rw [List.length_map]
      exact Nat.le_trans (List.length_filter_le _ _) (by rw [List.length_range]; omega)
    show (standL w l k ++ standAll w (k + 1) ls).length ≤ _
    rw [List.length_append]
    simp only [List.length_cons]
    omega
end KT
set_option Elab.async false
set_option linter.all false
set_option maxRecDepth 100000
set_option maxHeartbeats 4000000
namespace KT
open PySem PySem.Spec PyProof.Rows L2 GxR
variable [GT]
theorem small1000le {n : Nat} (h : n ≤ 1000) : n ≤ sizeLine := Nat.le_of_lt (small1000 h)
/-! ### the law's sheet -/
def sheet (lr pl : Addr) (cl : Str) (m : Int) (ka : Addr) : List (Key × V) := [(.inr "rows", .ref lr), (.inr "place", .ref pl), (.inr "clip", .str cl), (.inr "many", .int m), (.inr "keys", .ref ka)]
section
variable (lr pl lr' pl' : Addr) (cl cl' : Str) (m m' : Int) (ka ka' : Addr)
theorem sheet_merge : mergeK [] (sheet lr pl cl m ka) = sheet lr pl cl m ka := by kernel_rfl
theorem sheet_rows : valV (sheet lr pl cl m ka) (.inr "rows") = some (.ref lr) := by kernel_rfl
theorem sheet_place : valV (sheet lr pl cl m ka) (.inr "place") = some (.ref pl) := by kernel_rfl
theorem sheet_clip : valV (sheet lr pl cl m ka) (.inr "clip") = some (.str cl) := by kernel_rfl
theorem sheet_many : valV (sheet lr pl cl m ka) (.inr "many") = some (.int m) := by kernel_rfl
theorem sheet_keys : valV (sheet lr pl cl m ka) (.inr "keys") = some (.ref ka) := by kernel_rfl
theorem put_rows : putK (sheet lr pl cl m ka) (.inr "rows") (.ref lr') = sheet lr' pl cl m ka := by kernel_rfl
theorem put_place : putK (sheet lr pl cl m ka) (.inr "place") (.ref pl') = sheet lr pl' cl m ka := by kernel_rfl
theorem put_clip : putK (sheet lr pl cl m ka) (.inr "clip") (.str cl') = sheet lr pl cl' m ka := by kernel_rfl
theorem put_many : putK (sheet lr pl cl m ka) (.inr "many") (.int m') = sheet lr pl cl m' ka := by kernel_rfl
theorem put_keys : putK (sheet lr pl cl m ka) (.inr "keys") (.ref ka') = sheet lr pl cl m ka' := by kernel_rfl
end
theorem dget {H : Hp} {s : Addr} {kvs : List (Key × V)} {z : Str} {v : V} (h : H s = some (.dK kvs)) (e : valV kvs (.inr z) = some v) : DGet H s (.str z) (some v) := .inl ⟨kvs, .inr z, .inl h, rfl, e.symm⟩
theorem dput {H : Hp} {s : Addr} {kvs kvs' : List (Key × V)} {z : Str} {v : V} (h : H s = some (.dK kvs)) (hl : kvs.length ≤ 1000) (e : putK kvs (.inr z) v = kvs') : DPut H s (.str z) v (upd H s (.dK kvs')) := .inl ⟨kvs, .inr z, h, rfl, small1000 hl, by rw [e]⟩
structure ShM where
  s : Addr
  lr : Addr
  ka : Addr
def ShM.l (m : ShM) : List Addr := [m.s, m.lr, m.ka]
def ShAt (K : PySem.W.Frag) (H : Hp) (sm : ShM) (g : Pg) (m : Int) (kl : List Ky) : Prop := ∃ pl as, H sm.s = some (.dK (sheet sm.lr pl (S g.clip) m sm.ka)) ∧ H sm.lr = some (.lst (rowsV g.rows)) ∧ H pl = some (.tup [.int g.row, .int g.col]) ∧ H sm.ka = some (.lst (as.map V.ref)) ∧ KeysAt K H as kl
theorem ShAt.kf {K : PySem.W.Frag} {S : List Addr} {H H1 : Hp} {sm : ShM} {g : Pg} {m : Int} {kl : List Ky} (h : ShAt K H sm g m kl) (k : Kf S H H1) (d : ∀ b ∈ sm.l, b ∉ S) : ShAt K H1 sm g m kl := by
  obtain ⟨pl, as, h1, h2, h3, h4, h5⟩ := h
  exact ⟨pl, as, k.q.gets h1 (d _ (by simp [ShM.l])), k.q.gets h2 (d _ (by simp [ShM.l])), k.get h3 rfl, k.q.gets h4 (d _ (by simp [ShM.l])), k.keys h5⟩
theorem ShAt.kq {K : PySem.W.Frag} {H H1 : Hp} {sm : ShM} {g : Pg} {m : Int} {kl : List Ky} (h : ShAt K H sm g m kl) (k : Kq [] H H1) : ShAt K H1 sm g m kl := h.kf (Kf.of (S := []) k (fun b hb => absurd hb (by simp))) (fun b _ => by simp)
theorem ShAt.wr {K : PySem.W.Frag} {H : Hp} {sm : ShM} {g : Pg} {m : Int} {kl : List Ky} (h : ShAt K H sm g m kl) : ∀ b ∈ [sm.s], ∃ o, H b = some o ∧ mutO o = true := by
  obtain ⟨pl, as, h1, _⟩ := h
  intro b hb
  rw [List.mem_singleton.mp hb]
  exact ⟨_, h1, rfl⟩
/-! ### two pairs of numbers -/
theorem op_gtP {X : Cx} (hu : X.A.units < cLine) : OpR X (compareOp .Gt) (fun x y H Q => ∃ (a b : Addr) (p q : Nat × Nat), x = .ref a ∧ y = .ref b ∧ H a = some (.tup [.int p.1, .int p.2]) ∧ H b = some (.tup [.int q.1, .int q.2]) ∧ Q (.bl (gtP q.1 q.2 p)) H) := by
  intro pins s σ H x y v u Q I rx ry h
  obtain ⟨a, b, p, q, e1, e2, ha, hb, k⟩ := h
  subst e1 e2
  cases rx
  cases ry
  obtain ⟨is1, v1, t1, _⟩ := I.tuple (SqT.of (K := X.K) ha)
  obtain ⟨is2, v2, t2, _⟩ := I.tuple (SqT.of (K := X.K) hb)
  have i1 : IntsAre is1 [(p.1 : Int), (p.2 : Int)] := L2.intsAre_of v1
  have i2 : IntsAre is2 [(q.1 : Int), (q.2 : Int)] := L2.intsAre_of v2
  have l1 := i1.length
  have l2 := i2.length
  have hR := Ob.RcOp.tuples_gt (A := X.A) (s := s) (e := fun j => ([(p.1 : Int), (p.2 : Int)].getD j 0) == ([(q.1 : Int), (q.2 : Int)].getD j 0)) (r := fun j => decide (([(p.1 : Int), (p.2 : Int)].getD j 0) > ([(q.1 : Int), (q.2 : Int)].getD j 0))) t1 t2 hu
    (fun j h1 h2 => by
      obtain ⟨t, e⟩ := i1.int_at j _ (List.getElem?_eq_getElem (by simpa using h1))
      obtain ⟨t', e'⟩ := i2.int_at j _ (List.getElem?_eq_getElem (by simpa using h2))
      rw [List.getElem_toArray, List.getElem_toArray, e, e']
      exact SeqAt.EqAt.int_int _ _ _ _)
    (fun j h1 h2 _ => by
      obtain ⟨t, e⟩ := i1.int_at j _ (List.getElem?_eq_getElem (by simpa using h1))
      obtain ⟨t', e'⟩ := i2.int_at j _ (List.getElem?_eq_getElem (by simpa using h2))
      rw [List.getElem_toArray, List.getElem_toArray, e, e']
      exact Ob.RcOp.gt_int _ _ _ _)
  have e : Ob.lexAt (fun j => ([(p.1 : Int), (p.2 : Int)].getD j 0) == ([(q.1 : Int), (q.2 : Int)].getD j 0)) (fun j => decide (([(p.1 : Int), (p.2 : Int)].getD j 0) > ([(q.1 : Int), (q.2 : Int)].getD j 0))) (decide (is1.toArray.size > is2.toArray.size)) 0 (min is1.toArray.size is2.toArray.size) = gtP q.1 q.2 p := by
    have s1 : is1.toArray.size = 2 := by simpa using l1
    have s2 : is2.toArray.size = 2 := by simpa using l2
    rw [s1, s2]
    simp only [Ob.lexAt, gtP, Nat.min_self]
    by_cases h1 : q.1 < p.1 <;> by_cases h2 : q.1 = p.1 <;> by_cases h3 : q.2 < p.2 <;> simp_all <;> omega
  rw [e] at hR
  exact hR _ _ _ _ ⟨.bl (gtP q.1 q.2 p), H, I, rfl, k⟩
/-! ### a comprehension over the signs of a text -/
theorem lc_signs {x : Str} {g : TG} {tt : TT} {te : TE} {vs : List Nat} {σ : L2.St} {H1 : Hp} {D : Addr} {Qd : Hp → Prop} (Pv : Nat → Hp → Prop) (h0 : Pv 0 (upd H1 D (.lst [])))
    (hs : ∀ (i c : Nat) (H : Hp), x.cps[i]? = some c → Pv i H → g (.str ⟨#[c]⟩) (wipe σ vs) H fun σ2 H2 => wipe σ2 vs = wipe σ vs ∧ tt σ2 H2 fun b H3 => if b = true then te σ2 H3 fun y H4 => ∃ acc, H4 D = some (HO.lst acc) ∧ acc.length < sizeLine ∧ Pv (i + 1) (upd H4 D (HO.lst (acc ++ [y]))) else Pv (i + 1) H3)
    (hd : ∀ H, Pv x.cps.size H → Qd H) : ∃ W : Nat → Nat → Hp → Prop, (∃ m, W 0 m (upd H1 D (HO.lst []))) ∧ ∀ (i m : Nat) (H : Hp), W i m H → (Its x).stop i H ∧ Qd H ∨ (Its x).go i H ∧ ∃ Nx : Hp → Prop, (∀ (H' : Hp), Nx H' → ∃ m', m' < m ∧ W (i + 1) m' H') ∧ ∀ (v : V) (H' : Hp), (Its x).yld i H v H' → g v (wipe σ vs) H' fun σ2 H2 => wipe σ2 vs = wipe σ vs ∧ tt σ2 H2 fun b H3 => if b = true then te σ2 H3 fun y H4 => ∃ acc, H4 D = some (HO.lst acc) ∧ acc.length < sizeLine ∧ Nx (upd H4 D (HO.lst (acc ++ [y]))) else Nx H3 := by
  refine ⟨fun i m H => i ≤ x.cps.size ∧ m = x.cps.size - i ∧ Pv i H, ⟨_, Nat.zero_le _, rfl, h0⟩, ?_⟩
  rintro i m H ⟨hi, rfl, hp⟩
  by_cases h : i < x.cps.size
  · refine .inr ⟨h, Pv (i + 1), fun H' z => ⟨_, by omega, h, rfl, z⟩, ?_⟩
    rintro v H' ⟨rfl, c, hc, rfl⟩
    exact hs i c _ hc hp
  · refine .inl ⟨by show x.cps.size ≤ i; omega, hd H ?_⟩
    have : i = x.cps.size := by omega
    rw [← this]; exact hp
section
variable {P : Program} {w : World} {K : PySem.W.Frag} {mg : Str → Option Value} {base : Heap}
def sp_state (K : PySem.W.Frag) : Sp := fun vs H Q _ => ∃ ls, vs = [.str (textS ls)] ∧ ls ≠ [] ∧ goodB ls = true ∧ ∀ s lr ka H', H s = none → H lr = none → H ka = none → Kq [] H H' → ShAt K H' ⟨s, lr, ka⟩ ⟨ls, 0, 0, []⟩ 0 [] → Q (.ref s) H'
theorem edF_no_text (p t : Addr) (r : V) (pr un ud : Addr) : (edF p t r pr un ud).lookup ("text" : Str) = none := by kernel_rfl
theorem edF_no_place (p t : Addr) (r : V) (pr un ud : Addr) : (edF p t r pr un ud).lookup ("place" : Str) = none := by kernel_rfl
theorem edF_no_clip (p t : Addr) (r : V) (pr un ud : Addr) : (edF p t r pr un ud).lookup ("clip" : Str) = none := by kernel_rfl
theorem edF_no_press (p t : Addr) (r : V) (pr un ud : Addr) : (edF p t r pr un ud).lookup ("press" : Str) = none := by kernel_rfl
theorem zip2 {R : V → V → Prop} {a b a' b' : V} (h0 : R a a') (h1 : R b b') : ∀ (i : Nat) (x y : V), ([a, b] : List V)[i]? = some x → ([a', b'] : List V)[i]? = some y → R x y
  | 0, x, y, hx, hy => by cases hx; cases hy; exact h0
  | 1, x, y, hx, hy => by cases hx; cases hy; exact h1
  | n + 2, x, y, hx, hy => by simp at hx
theorem zip3 {R : V → V → Prop} {a b c a' b' c' : V} (h0 : R a a') (h1 : R b b') (h2 : R c c') : ∀ (i : Nat) (x y : V), ([a, b, c] : List V)[i]? = some x → ([a', b', c'] : List V)[i]? = some y → R x y
  | 0, x, y, hx, hy => by cases hx; cases hy; exact h0
  | 1, x, y, hx, hy => by cases hx; cases hy; exact h1
  | 2, x, y, hx, hy => by cases hx; cases hy; exact h2
  | n + 3, x, y, hx, hy => by simp at hx
def sp_is (K : PySem.W.Frag) : Sp := fun vs H Q _ => ∃ m ed sm mm kl, vs = [.ref m.e, .ref sm.s] ∧ EdAt K H m ed ∧ ShAt K H sm ed.page mm kl ∧ ∀ H', Kq [] H H' → Q (.bl true) H'
def sp_set (K : PySem.W.Frag) : Sp := fun vs H Q _ => ∃ (sm : ShM) (g : Pg) (m : Int) (kl : List Ky) (low high : Nat) (L : List Ln) (ra pa : Addr) (r c : Nat), vs = [.ref sm.s, .int low, .int high, .ref ra, .ref pa] ∧ ShAt K H sm g m kl ∧ H ra = some (.lst (rowsV L)) ∧ H pa = some (.tup [.int r, .int c]) ∧ g.rows.length ≤ 12 ∧ L.length ≤ 2 ∧
  ∀ lr H', H lr = none → Kf [sm.s] H H' → ShAt K H' ⟨sm.s, lr, sm.ka⟩ ⟨g.rows.take low ++ L ++ g.rows.drop high, r, c, g.clip⟩ m kl → Q (.bl true) H'
end
end KT
set_option Elab.async false
set_option linter.all false
set_option maxRecDepth 100000
set_option maxHeartbeats 4000000
namespace KT
open PySem PySem.Spec PyProof.Rows L2 GxR
variable [GT]
/-! ### objects that are changed side by side -/
theorem edF_no_tape (p t : Addr) (r : V) (pr un ud : Addr) : (edF p t r pr un ud).lookup ("tape" : Str) = none := by kernel_rfl
theorem edF_no_tape_of (p t : Addr) (r : V) (pr un ud : Addr) : (edF p t r pr un ud).lookup ("tape_of" : Str) = none := by kernel_rfl
theorem edF_no_hand (p t : Addr) (r : V) (pr un ud : Addr) : (edF p t r pr un ud).lookup ("hand" : Str) = none := by kernel_rfl
theorem edF_no_record (p t : Addr) (r : V) (pr un ud : Addr) : (edF p t r pr un ud).lookup ("record" : Str) = none := by kernel_rfl
theorem edF_no_stop (p t : Addr) (r : V) (pr un ud : Addr) : (edF p t r pr un ud).lookup ("stop" : Str) = none := by kernel_rfl
theorem edF_no_back (p t : Addr) (r : V) (pr un ud : Addr) : (edF p t r pr un ud).lookup ("back" : Str) = none := by kernel_rfl
theorem edF_no_forth (p t : Addr) (r : V) (pr un ud : Addr) : (edF p t r pr un ud).lookup ("forth" : Str) = none := by kernel_rfl
theorem Kq.over {S S' : List Addr} {H H1 H2 : Hp} (a : Kq S H H1) (b : Kq S' H1 H2) (h : ∀ c ∈ S', c ∈ S ∨ H c = none) : Kq S H H2 :=
  ⟨fun c o q n m => b.at_ c o (a.at_ c o q n m) n (fun z => (h c z).elim m (fun e => absurd (q.symm.trans e) (by simp))), fun p q => b.tab p (a.tab p q), fun c q => a.fr c (b.fr c q), fun p m q => b.tabS p m (a.tabS p m q)⟩
theorem Kf.over {S S' : List Addr} {H H1 H2 : Hp} (a : Kf S H H1) (b : Kf S' H1 H2) (h : ∀ c ∈ S', c ∈ S ∨ H c = none) : Kf S H H2 :=
  ⟨a.q.over b.q h, a.w, fun c hc => by
    obtain ⟨o, h1, h2⟩ := a.w' c hc
    by_cases e : c ∈ S'
    · exact b.w' c e
    · exact ⟨o, b.q.at_ c o h1 (mut_noTbl h2) e, h2⟩⟩
theorem press_fr {m m' : EdM} {H : Hp} (f1 : m'.e = m.e) (f2 : m'.t = m.t) (f3 : m'.pr = m.pr) (f4 : m'.un = m.un) (f5 : m'.ud = m.ud ∨ H m'.ud = none) : ∀ b ∈ m'.l, b ∈ m.l ∨ H b = none := by
  intro c hc
  simp only [EdM.l, List.mem_cons, List.not_mem_nil, or_false] at hc
  rcases hc with rfl | rfl | rfl | rfl | rfl
  · exact .inl (by rw [f1]; simp [EdM.l])
  · exact .inl (by rw [f2]; simp [EdM.l])
  · exact .inl (by rw [f3]; simp [EdM.l])
  · exact .inl (by rw [f4]; simp [EdM.l])
  · rcases f5 with e | e
    · exact .inl (by rw [e]; simp [EdM.l])
    · exact .inr e
theorem doneE_p (ed : EdSt) (ky : Ky) (g : Pg) : (doneE ed ky g).pressed.length ≤ ed.pressed.length + 1 := by
  show (if ed.taped.isSome = true then ed.pressed ++ [ky] else ed.pressed).length ≤ _
  split
  · rw [List.length_append]; simp
  · omega
theorem doneE_u (ed : EdSt) (ky : Ky) (g : Pg) : (doneE ed ky g).units.length ≤ ed.units.length + 1 := by
  show (if g.rows = ed.page.rows then ed.units else ed.units ++ [(ed.page, g)]).length ≤ _
  split
  · omega
  · rw [List.length_append]; simp
theorem doneE_d (ed : EdSt) (ky : Ky) (g : Pg) : (doneE ed ky g).undone.length ≤ ed.undone.length := by
  show (if g.rows = ed.page.rows then ed.undone else []).length ≤ _
  split
  · omega
  · simp
theorem fresh_ne {H : Hp} {S : List Addr} (w : ∀ b ∈ S, H b ≠ none) {p : Addr} (h : H p = none) : p ∉ S := fun z => w p z h
theorem sh_fr {H : Hp} {so lr ka : Addr} (a : H so = none) (b : H lr = none) (c : H ka = none) : ∀ x ∈ (⟨so, lr, ka⟩ : ShM).l, H x = none := by
  intro x hx
  simp only [ShM.l, List.mem_cons, List.not_mem_nil, or_false] at hx
  rcases hx with rfl | rfl | rfl <;> assumption
theorem joinL_mem {s : List Nat} : ∀ {ls : List (List Nat)} {c : Nat}, c ∈ TL.joinL s ls → c ∈ s ∨ ∃ l ∈ ls, c ∈ l
  | [], c, h => by cases h
  | [l], c, h => .inr ⟨l, by simp, h⟩
  | l :: m :: r, c, h => by
    rcases List.mem_append.mp (show c ∈ l ++ (s ++ TL.joinL s (m :: r)) from h) with z | z
    · exact .inr ⟨l, by simp, z⟩
    · rcases List.mem_append.mp z with z | z
      · exact .inl z
      · exact (joinL_mem z).imp id fun ⟨x, h1, h2⟩ => ⟨x, by simp [List.mem_cons.mp h1], h2⟩
theorem textS_mem {ls : List Ln} (h : ∀ l ∈ ls, ∀ c ∈ l, okSign c) : ∀ c ∈ TL.tl (textS ls), c ≤ 126 := by
  intro c hc
  unfold textS at hc
  rw [TL.join_eq, TL.tl_join, S_tls, nl_eq] at hc
  rcases joinL_mem hc with z | ⟨l, h1, h2⟩
  · rw [List.mem_singleton.mp z]; omega
  · exact (h l h1 c h2).2
theorem strOk_text {ls : List Ln} (h : ∀ l ∈ ls, ∀ c ∈ l, okSign c) : PyData.strOk (textS ls) = true := by
  unfold PyData.strOk
  rw [Array.all_eq_true_iff_forall_mem]
  intro c hc
  have hc : c ∈ (textS ls).cps.toList := by simpa using hc
  refine decide_eq_true ?_
  have := textS_mem h c hc
  omega
end KT
set_option Elab.async false
set_option linter.all false
set_option maxRecDepth 100000
set_option maxHeartbeats 4000000
namespace KT
open PySem PySem.Spec PyProof.Rows L2 GxR
variable [GT]
theorem al_small {K : PySem.W.Frag} {H : Hp} {n : Nat} : ∀ {x : V}, smallV x → Al K H n x x
  | .str z, _ => .str n z
  | .int i, _ => .int n i
  | .non, h => h.elim
  | .ref _, h => h.elim
  | .bl _, h => h.elim
theorem al_key {K : PySem.W.Frag} {H : Hp} {n : Nat} {a b : Addr} {k : Ky} (h : KeyAt K H a k) (h' : KeyAt K H b k) (ok : k.Ok) : Al K H (n + 1) (.ref a) (.ref b) :=
  .tup h h' rfl (by cases k <;> show _ ≤ 1000 <;> simp [keyV]) fun i x y hx hy => by
    rw [hx] at hy
    cases hy
    exact al_small (keyV_small ok x (List.mem_of_getElem? hx))
theorem al_keys {K : PySem.W.Frag} {H : Hp} {n : Nat} {a b : Addr} {as bs : List Addr} {ks : List Ky} (h1 : H a = some (.lst (as.map V.ref))) (h2 : H b = some (.lst (bs.map V.ref))) (k1 : KeysAt K H as ks) (k2 : KeysAt K H bs ks) (hl : ks.length ≤ 1000) (ok : ∀ k ∈ ks, k.Ok) : Al K H (n + 2) (.ref a) (.ref b) :=
  .lst h1 h2 (by rw [List.length_map, List.length_map, k1.len, k2.len]) (by rw [List.length_map, k1.len]; exact hl) fun i x y hx hy => by
    rw [List.getElem?_map] at hx hy
    obtain ⟨p, hp, rfl⟩ := Option.map_eq_some_iff.mp hx
    obtain ⟨q, hq, rfl⟩ := Option.map_eq_some_iff.mp hy
    obtain ⟨i1, rfl⟩ := List.getElem?_eq_some_iff.mp hp
    obtain ⟨i2, rfl⟩ := List.getElem?_eq_some_iff.mp hq
    have hi : i < ks.length := by rw [← k1.len]; exact i1
    exact al_key (k1.at_ i1 hi) (k2.at_ i2 hi) (ok _ (List.getElem_mem _))
theorem al_place {K : PySem.W.Frag} {H : Hp} {n : Nat} {a b : Addr} {r c : Int} (h1 : H a = some (.tup [.int r, .int c])) (h2 : H b = some (.tup [.int r, .int c])) : Al K H (n + 1) (.ref a) (.ref b) :=
  .tup (SqT.of h1) (SqT.of h2) rfl (by show 2 ≤ 1000; decide) fun i x y hx hy => by
    rw [hx] at hy
    cases hy
    rcases i with _ | _ | i
    · cases hx; exact .int n _
    · cases hx; exact .int n _
    · cases hx
theorem good_of_ok {g : Pg} (h : g.Ok) : g.rows ≠ [] ∧ goodB g.rows = true := by
  refine ⟨fun e => by have := h.row; rw [e] at this; simp at this, ?_⟩
  unfold goodB
  rw [Bool.and_eq_true]
  refine ⟨decide_eq_true h.many, List.all_eq_true.mpr fun l hl => ?_⟩
  unfold goodRow
  rw [Bool.and_eq_true]
  refine ⟨decide_eq_true (h.long l hl), List.all_eq_true.mpr fun c hc => ?_⟩
  rw [signB_eq]
  exact decide_eq_true (h.sig l hl c hc)
theorem ins_map {α β : Type} (f : α → β) (xs : List α) (i : Nat) (y : α) : (xs.map f).take i ++ [f y] ++ (xs.map f).drop i = (xs.take i ++ [y] ++ xs.drop i).map f := by simp
theorem KeysAt.ins {K : PySem.W.Frag} {H : Hp} {as : List Addr} {ks : List Ky} {a : Addr} {k : Ky} (h : KeysAt K H as ks) (hk : KeyAt K H a k) (i : Nat) : KeysAt K H (as.take i ++ [a] ++ as.drop i) (ks.take i ++ [k] ++ ks.drop i) := by
  induction h generalizing i with
  | nil => simpa using KeysAt.cons hk .nil
  | @cons b q bs qs hb r ih =>
    cases i with
    | zero => exact .cons hk (.cons hb r)
    | succ i => exact .cons hb (ih i)
theorem lc_singles {h l D : Addr} {H : Hp} {n : Nat} {vs : List Nat} {σ : L2.St} {g : TG} {te : TE} {Qd : Hp → Prop} {K : PySem.W.Frag} (hD : DrAt H h l) (nD : H D = none) (hn : n ≤ 1000)
    (hs : ∀ (i : Nat) (H' : Hp) (R : VK), DrAt H' h l → (∀ a ky H3, ky.Ok → ky.single = true → Kf [h, l] H' H3 → DrAt H3 h l → KeyAt K H3 a ky → R (.ref a) H3) → g (.int ((0 : Int) + (i : Int))) (wipe σ vs) H' fun σ2 H2 => wipe σ2 vs = wipe σ vs ∧ te σ2 H2 R)
    (hd : ∀ H' as ks, Kf [h, l] H H' → DrAt H' h l → KeysAt K H' as ks → (∀ k ∈ ks, k.single = true ∧ k.Ok) → ks.length = n → H' D = some (.lst (as.map V.ref)) → Qd H') :
    ∃ W : Nat → Nat → Hp → Prop, (∃ m, W 0 m (upd H D (HO.lst []))) ∧ ∀ (i m : Nat) (H : Hp), W i m H → (Itr 0 n).stop i H ∧ Qd H ∨ (Itr 0 n).go i H ∧ ∃ Nx : Hp → Prop, (∀ (H' : Hp), Nx H' → ∃ m', m' < m ∧ W (i + 1) m' H') ∧ ∀ (v : V) (H' : Hp), (Itr 0 n).yld i H v H' → g v (wipe σ vs) H' fun σ2 H2 => wipe σ2 vs = wipe σ vs ∧ tYes σ2 H2 fun b H3 => if b = true then te σ2 H3 fun y H4 => ∃ acc, H4 D = some (HO.lst acc) ∧ acc.length < sizeLine ∧ Nx (upd H4 D (HO.lst (acc ++ [y]))) else Nx H3 := by
  have nDd : D ∉ [h, l] := fresh_ne hD.some nD
  have nDh : D ≠ h := fun e => nDd (by rw [e]; simp)
  have nDl : D ≠ l := fun e => nDd (by rw [e]; simp)
  refine lc_range (lo := 0) (n := n) (vs := vs) (fun i H' => Kq [h, l] H H' ∧ DrAt H' h l ∧ ∃ as ks, KeysAt K H' as ks ∧ (∀ k ∈ ks, k.single = true ∧ k.Ok) ∧ ks.length = i ∧ H' D = some (.lst (as.map V.ref))) ⟨Kq.alloc nD, hD.kq (Kq.alloc nD), [], [], .nil, by simp, rfl, upd_same⟩ ?_ ?_
  · rintro i H' hi ⟨kq, hDi, as, ks, hks, hok, hl, gD⟩
    refine hs i H' _ hDi fun a ky H3 kok ksg k3 hD3 hk => ?_
    have g : H3 D = some (.lst (as.map V.ref)) := k3.q.gets gD nDd
    have kw : Kf [D] H3 (upd H3 D (.lst (as.map V.ref ++ [.ref a]))) := Kf.one g
    have hkl := hks.len
    refine ⟨_, g, smallM (by rw [List.length_map]; omega), (kq.trans k3.q).writeF nD g, hD3.upd nDh nDl, as ++ [a], ks ++ [ky], (kw.keys (k3.keys hks)).snoc (kw.key hk), fun k hk' => ?_, by rw [List.length_append, hl]; rfl, ?_⟩
    · rcases List.mem_append.mp hk' with z | z
      · exact hok k z
      · rw [List.mem_singleton.mp z]; exact ⟨ksg, kok⟩
    · rw [upd_same, List.map_append]; rfl
  · rintro H' ⟨kq, hDi, as, ks, hks, hok, hl, gD⟩
    exact hd H' as ks ⟨kq, hD.wr, hDi.wr⟩ hDi hks hok hl gD
/-- what stands all along -/
structure Bw (K : PySem.W.Frag) (H : Hp) (h l : Addr) : Prop where
  dr : DrAt H h l
  tg : TabG H (tS K)
  tb : ∀ p ∈ GT.l, LamX.TabS H p.1 p.2
theorem Bw.kq {K : PySem.W.Frag} {H H1 : Hp} {h l : Addr} (b : Bw K H h l) (k : Kq [] H H1) : Bw K H1 h l := ⟨b.dr.kq k, k.tab _ b.tg, fun p hp => k.tabS p hp (b.tb p hp)⟩
theorem Bw.draw {K : PySem.W.Frag} {H H1 : Hp} {h l : Addr} (b : Bw K H h l) (k : Kf [h, l] H H1) (dr : DrAt H1 h l) : Bw K H1 h l := ⟨dr, k.q.tab _ b.tg, fun p hp => k.q.tabS p hp (b.tb p hp)⟩
theorem Bw.kf {K : PySem.W.Frag} {H H1 : Hp} {h l : Addr} {S : List Addr} (b : Bw K H h l) (k : Kf S H H1) (n1 : h ∉ S) (n2 : l ∉ S) : Bw K H1 h l := ⟨b.dr.kf k n1 n2, k.q.tab _ b.tg, fun p hp => k.q.tabS p hp (b.tb p hp)⟩
end KT
set_option Elab.async false
set_option linter.all false
set_option maxRecDepth 100000
set_option maxHeartbeats 4000000
/-! enumerate over a tuple -/
namespace PySem
open AutoSeq1 (wpAny_loadPart')
abbrev tupItO (t : Addr) : Obj := { cls := .type "tuple_iterator", data := .fields #[.ref t, .int 0 0] }
abbrev enumO (i : Addr) : Obj := { cls := .type "enumerate", data := .fields #[.none, .bool false, .ref i, rawInt 0, .none, .none] }
theorem ktEnumNew (t : Addr) (xs : Array Value) (n : Nat) (dct : Option Addr) (sl : Array (Option Value)) :
    Meets (Builtin.«enumerate.__new__» ⟨[.type "enumerate", .ref t], []⟩) (fun _ R s => s.heap.get? t = some { cls := .type "tuple", dict := dct, data := .seq xs n, slots := sl } ∧
      R (.ok (.ret (.ref (s.heap.push (tupItO t)).objs.size))) { s with heap := (s.heap.push (tupItO t)).push (enumO s.heap.objs.size) }) :=
  .of_wp fun prog w A R s hh => by
    obtain ⟨hp, g, d, tk, os⟩ := s
    obtain ⟨ht, hh⟩ := hh
    have hsub := sub_enumerate
    have hT : Heap.IsTuple (Shared.heap ⟨hp, g, d, tk, os⟩) t xs := ⟨_, ht, rfl, n, rfl⟩
    wp_walk using wpAny_loadPart' ht
    refine wpAny_stack_any fun st => wpAny_pure ?_
    split
    · rename_i c _ _ _ _ _
      cases (c == Value.type "enumerate")
      · wp_walk using wpAny_loadPart' ht, wpAny_pyIter_tuple hT
        exact ⟨_, rfl, hh⟩
      · wp_walk using wpAny_loadPart' ht, wpAny_pyIter_tuple hT
        exact ⟨_, rfl, hh⟩
    · wp_walk using wpAny_loadPart' ht, wpAny_pyIter_tuple hT
      exact ⟨_, rfl, hh⟩
theorem ktEnumCall {prog : Program} {w : World} {A : Around} {E : Value → Shared → Prop} {s : Shared} {t : Addr} {xs : Array Value} {Q : Value → Shared → Prop} (hT : s.heap.IsTuple t xs)
    (k : ∀ u, IsEnum u (s.heap.objs.size + 1) s.heap.objs.size 0 .none → u.IsTupleIter s.heap.objs.size t 0 → (∀ b o, s.heap.get? b = some o → u.get? b = some o) → Q (.ref (s.heap.objs.size + 1)) { s with heap := u }) :
    wpAny (model prog w) A (call (.type "enumerate") [.ref t]) Q E s := by
  obtain ⟨⟨c, dct, dt, sl⟩, ht, hc, n, hd⟩ := hT
  replace hc : c = .type "tuple" := hc
  replace hd : dt = .seq xs n := hd
  subst hc hd
  refine callType_new F.called_enumerate (by decide) (F.typeCall_enumerate_1 _) (F.newCall_enumerate_1 _) (fun obj => F.args_object_init_2 obj _) F.entry_enumerate_new (ktEnumNew t xs n dct sl) ⟨ht, ?_⟩
  have hz : (s.heap.push (tupItO t)).objs.size = s.heap.objs.size + 1 := Heap.size_push ..
  show _ ∧ _
  rw [hz]
  have he : IsEnum ((s.heap.push (tupItO t)).push (enumO s.heap.objs.size)) (s.heap.objs.size + 1) s.heap.objs.size 0 .none := by
    have := Heap.get?_push_size (s.heap.push (tupItO t)) (o := enumO s.heap.objs.size) rfl
    rw [hz] at this
    exact this
  exact ⟨⟨_, he, rfl⟩, k _ he ⟨_, Heap.get?_push_of_some _ (Heap.get?_push_size _ rfl), rfl, rfl⟩ fun b o x => Heap.get?_push_of_some _ (Heap.get?_push_of_some _ x)⟩
end PySem
namespace KT
open PySem PySem.Spec PyProof.Rows L2 GxR
variable [GT]
/-- the tuple at a as it stands, each item in a new pair -/
def IteT (K : PySem.W.Frag) (a : Addr) : It where
  go := fun i H => ∃ (xs : List V) (x : V), SqT K H a xs ∧ xs[i]? = some x
  yld := fun i H v H' => ∃ T x, v = .ref T ∧ H T = none ∧ H' = upd H T (.tup [.int (i : Nat), x]) ∧ ∀ xs, SqT K H a xs → xs[i]? = some x
  stop := fun i H => ∃ xs : List V, SqT K H a xs ∧ xs.length ≤ i
theorem turn_enumT {P : Program} {w : World} {K : PySem.W.Frag} {elts : List Expr} {kk : Nat} {tpos : Pos} (a e it : Addr) :
    Turn P w K (.Tuple elts kk tpos) (IteT K a) [e, it] e (fun i h => (∃ old, IsEnum h e it ((i : Nat) : Int) old) ∧ h.IsTupleIter it a i ∧ e ≠ it ∧ a ≠ it ∧ a ≠ e) where
  mem := by simp
  obj := fun i h st b hb => by
    obtain ⟨⟨old, he⟩, ⟨o, ho, hc, hd⟩, _⟩ := st
    rcases (by simpa using hb : b = e ∨ b = it) with rfl | rfl
    · exact ⟨_, he, fun v q => nomatch q⟩
    · exact ⟨o, ho, fun v q => by rw [hd] at q; cases q⟩
  keep := fun i h h' st k => let ⟨⟨old, he⟩, hi, hne⟩ := st; ⟨⟨old, k e (by simp) _ he⟩, hi.at fun o q => k it (by simp) o q, hne⟩
  item := by
    intro X hP hw hK hc i pins s σ H E I hf st hg
    subst hP hw hK
    obtain ⟨⟨old, he⟩, hit, hne, hai, hae⟩ := st
    obtain ⟨xs, x, hq, hx⟩ := hg
    obtain ⟨its, rv, p, hz⟩ := I.tuple hq
    obtain ⟨u, hu, ru⟩ := rv.get hx
    have hel : e < s.heap.objs.size := Heap.lt_size he
    have hil : it < s.heap.objs.size := by obtain ⟨_, q, _⟩ := hit; exact Heap.lt_size q
    have hui : its.toArray[i]? = some u := by simpa using hu
    have hlt : i < its.toArray.size := (Array.getElem?_eq_some_iff.mp hui).1
    refine wpAny_pyNext_enum_itemD (Draws.tuple (A := X.A.in1) (show X.A.in1.handled = none from I.ok.hd hc) it a hai its.toArray) he ⟨hit, p⟩ hlt hne (by simp [hne, Ne.symm hae]) fun x' h' tk hx' ho hst' hT hsz hk => ?_
    have hxu : x' = u := by rw [hui] at hx'; exact (Option.some.inj hx').symm
    subst hxu
    refine ⟨_, rfl, wpAny_letOwnedTupleGo_enum (s := { s with heap := h', toks := tk + 1 }) ho fun h'' he' sb => ?_⟩
    have hT2 : h''.get? s.heap.objs.size = some { cls := .type "tuple", data := .seq #[.int i tk, x'] } := (sb.2 _ (Nat.ne_of_gt hel)).trans hT
    have new : ObjOk X.prog X.w (upd H s.heap.objs.size (.tup [.int (i : Nat), x])) h'' s.heap.objs.size (.tup [.int (i : Nat), x]) :=
      ⟨by show 2 ≤ sizeLine; decide, [.int i tk, x'], .cons ⟨_, rfl⟩ (.cons ru .nil), ⟨_, hT2, rfl, _, rfl⟩⟩
    have I1 : Inv X pins σ (upd H s.heap.objs.size (.tup [.int (i : Nat), x])) { s with heap := h'', toks := tk + 1 } :=
      I.turnedNew (ch := [e, it]) (fun b ob hb q => (sb.2 b (fun z => hb (by simp [z]))).trans (hk b ob (fun z => hb (by simp [z])) (fun z => hb (by simp [z])) q)) hf (Nat.le_refl _) new
    refine ⟨.ref s.heap.objs.size, _, I1, rfl, ⟨_, x, rfl, I.hok.fresh (Nat.le_refl _), rfl, fun ys hy => by rw [I.tuple_inj hy hq]; exact hx⟩, ⟨⟨x', ?_⟩, hst'.1.at fun o q => (sb.2 it (Ne.symm hne)).trans q, hne, hai, hae⟩, fun b hb => ?_⟩
    · rw [show ((i + 1 : Nat) : Int) = (i : Int) + 1 by omega]
      exact he'
    · have hb' : b < s.heap.objs.size := by
        rcases (by simpa using hb : b = e ∨ b = it) with rfl | rfl
        · exact hel
        · exact hil
      rw [upd_ne (Nat.ne_of_lt hb')]
      exact (hf b hb).1
  done := by
    intro X hP hw hK hc i pins s σ H E I hf st hg
    subst hP hw hK
    obtain ⟨⟨old, he⟩, hit, hne, hai, hae⟩ := st
    obtain ⟨xs, hq, hx⟩ := hg
    obtain ⟨its, rv, p, hz⟩ := I.tuple hq
    obtain ⟨f0, f1, f2, f3, f4, f5⟩ := hf it (by simp)
    have hl := rv.length
    have hn : its.toArray[i]? = none := by simp; omega
    have hT : s.TypeIs (.ref e) "enumerate" := ⟨_, he, rfl⟩
    unfold pyNext
    refine wpAny_bind (wpAny_attempt (wpAny_callSpecial?_slot (name := Str.ofString "__next__") hT F.slot_enumerate_next (wpAny_call_entry F.slot_enumerate_next hT F.entry_enumerate_next ?_ (F.args_enumerate_next_1 _))))
    show wpAny _ _ (field (.ref e) 2 >>= _) _ _ _
    refine wpAny_bind (wpAny_field he rfl (x := .ref it) rfl ?_)
    refine wpAny_bind (wpAny_nextOf_tuple_end (A := X.A.in1) (show X.A.in1.handled = none from I.ok.hd hc) hit p hn fun h' x eb hx' => ?_)
    obtain ⟨o, ho, hcl⟩ := hx'
    refine wpAny_bind (wpAny_isInstance (T := "StopIteration") (b := true) ⟨o, ho, hcl⟩ isSubtype_stop ?_)
    exact wpAny_pure ⟨rfl, I.turned (t' := s.toks) (fun b o hb q => eb b o hb q) f0 f1 f3 f4 f5⟩
  self := fun A i s Q E st h => let ⟨⟨_, he⟩, _⟩ := st; wpAny_pyIter_enum he h
def iEnumT (K : PySem.W.Frag) (ta : TA) : TI := fun σ H R => ta σ H fun vs H1 => ∃ a xs, vs = [.ref a] ∧ SqT K H1 a xs ∧ R (IteT K a) H1
theorem pi_enumT {X : Cx} {e : Expr} {ta : TA} {p pos tpos : Pos} {elts : List Expr} {kk : Nat} (hg : Gl X "enumerate") (hm : X.mg "enumerate" = none) (ha : PA X [e] ta) (hs : starEach [e] X.env = [(false, eval e X.env)] := by rfl) :
    PI X (.Tuple elts kk tpos) (.Call (.Name "enumerate" p) [e] [] pos) (iEnumT X.K ta) := by
  refine ⟨fun pins s σ H R I h => ?_⟩
  refine Call_ (ld_blt I hg hm boot_enumerate (PyProof.Rows.callWith_type1 (thn (ha.run pos pins s σ H _ I h) fun us s1 ⟨vs, H1, I1, r1, q1⟩ => ?_) hs rfl))
  obtain ⟨a, xs, ex, hq, q⟩ := q1
  subst ex
  cases r1 with
  | cons r rr =>
    cases rr
    cases r
    obtain ⟨its, rv, p', hz⟩ := I1.tuple hq
    have hal : a < s1.heap.objs.size := by obtain ⟨o, ho, _⟩ := p'; exact Heap.lt_size ho
    refine ktEnumCall (show s1.heap.IsTuple a its.toArray from p') fun u he hit hk => wpAny_pyIter_enum he ?_
    have I2 : Inv X pins σ H1 { s1 with heap := u } := I1.kept (t' := s1.toks) hk
    refine ⟨s1.heap.objs.size + 1, [s1.heap.objs.size + 1, s1.heap.objs.size], _, _, H1, rfl, I2, turn_enumT a (s1.heap.objs.size + 1) s1.heap.objs.size, ⟨⟨.none, he⟩, hit, Nat.succ_ne_self _, Nat.ne_of_lt hal, Nat.ne_of_lt (Nat.lt_succ_of_lt hal)⟩, fun b hb => ?_, q⟩
    have hle : s1.heap.objs.size ≤ b := by
      rcases (by simpa using hb : b = s1.heap.objs.size + 1 ∨ b = s1.heap.objs.size) with rfl | rfl <;> omega
    exact I1.fpOk hle (I1.hok.fresh hle)
/-- a loop over enumerate of a tuple -/
theorem for_enumT {K : PySem.W.Frag} {a : Addr} {xs : List V} {g : TG} {tb : TS} {D : Ends} {σ : L2.St} {H : Hp} (Pv : Nat → L2.St → Hp → Prop) (h0 : Pv 0 σ H) (hq : ∀ i σ H, Pv i σ H → SqT K H a xs)
    (hs : ∀ (i : Nat) (x : V) (T : Addr) (σ : L2.St) (H : Hp), xs[i]? = some x → Pv i σ H → H T = none → g (.ref T) σ (upd H T (.tup [.int (i : Nat), x])) fun σ2 H2 => tb { D with nx := Pv (i + 1), ct := Pv (i + 1), bk := D.nx } σ2 H2) (hd : ∀ σ H, Pv xs.length σ H → D.nx σ H) :
    ∃ W : Nat → Nat → L2.St → Hp → Prop, (∃ m, W 0 m σ H) ∧ ∀ i m σ H, W i m σ H →
      ((IteT K a).stop i H ∧ D.nx σ H) ∨ ((IteT K a).go i H ∧ ∃ N : L2.St → Hp → Prop, (∀ σ' H', N σ' H' → ∃ m', m' < m ∧ W (i + 1) m' σ' H') ∧ ∀ v H', (IteT K a).yld i H v H' → g v σ H' fun σ2 H2 => tb { D with nx := N, ct := N, bk := D.nx } σ2 H2) := by
  refine ⟨fun i m σ H => m = xs.length - i ∧ i ≤ xs.length ∧ Pv i σ H, ⟨_, rfl, Nat.zero_le _, h0⟩, ?_⟩
  rintro i m σ H ⟨rfl, hi, p⟩
  have q := hq i σ H p
  by_cases hlt : i < xs.length
  · refine .inr ⟨⟨xs, _, q, List.getElem?_eq_getElem hlt⟩, Pv (i + 1), fun σ' H' p' => ⟨_, by omega, rfl, hlt, p'⟩, ?_⟩
    rintro v H' ⟨T, x, rfl, hT, rfl, f⟩
    exact hs i x T σ H (f xs q) p hT
  · have e : i = xs.length := by omega
    subst e
    exact .inl ⟨⟨xs, q, Nat.le_refl _⟩, hd σ H p⟩
end KT
set_option Elab.async false
set_option linter.all false
set_option maxRecDepth 100000
set_option maxHeartbeats 4000000
namespace KT
open PySem PySem.Spec PyProof.Rows L2 GxR
variable [GT]
/-- a list == [] -/
theorem op_eqE {X : Cx} (hu : X.A.units < cLine) : OpR X (compareOp .Eq) (fun x y H Q => ∃ (a b : Addr) (xs : List V), x = .ref a ∧ y = .ref b ∧ SqL X.K H a xs ∧ SqL X.K H b [] ∧ Q (.bl xs.isEmpty) H) := by
  intro pins s σ H x y v u Q I rx ry h
  obtain ⟨a, b, xs, e1, e2, ha, hb, k⟩ := h
  subst e1 e2
  cases rx
  cases ry
  obtain ⟨is1, v1, t1, _⟩ := I.list ha
  obtain ⟨is2, v2, t2, _⟩ := I.list hb
  have l1 := v1.length
  have l2 := v2.length
  cases xs with
  | nil =>
    refine PySem.SeqAt.eq_listAt (e := fun _ => true) t1.isList t2.isList (by simp at l1 l2 ⊢; omega) hu (fun i h1 h2 => ?_) ⟨.bl true, H, I, ?_, k⟩
    · simp at l1; simp at h1; omega
    · have h0 : is1.toArray.size = 0 := by rw [List.size_toArray]; simpa using l1.symm
      rw [h0]; rfl
  | cons x xs =>
    exact PySem.SeqAt.eq_list_lengthsAt t1.isList t2.isList (by simp at l1 l2 ⊢; omega) hu ⟨.bl false, H, I, rfl, k⟩
end KT
set_option Elab.async false
set_option linter.all false
set_option maxRecDepth 100000
set_option maxHeartbeats 4000000
namespace KT
open PySem PySem.Spec PyProof.Rows L2 GxR
variable [GT]
section
variable {P : Program} {w : World} {K : PySem.W.Frag} {mg : Str → Option Value} {base : Heap}
theorem put_keys8 {kvs : List (Key × V)} {k : Key} {v : V} (h : k ∈ kvs.map (·.1)) : (putK kvs k v).map (·.1) = kvs.map (·.1) := by
  unfold putK
  have : (kvs.any fun kv => decide (kv.fst = k)) = true := by
    rw [List.any_eq_true]
    obtain ⟨p, hp, e⟩ := List.mem_map.mp h
    exact ⟨p, hp, decide_eq_true e⟩
  rw [if_pos this, List.map_map]
  refine List.map_congr_left fun p _ => ?_
  simp only [Function.comp]
  split <;> simp_all
theorem name_mem {n : Nat} (h : n < 8) : (.inr (nameS n) : Key) ∈ names8 := by
  rw [← names8_at h]
  exact List.getElem_mem _
theorem name_inj {i n : Nat} (h : nameS i = nameS n) : i = n := by
  have := S_inj h
  simp at this
  omega
def sp_check_name (K : PySem.W.Frag) : Sp := fun vs H Q E => ∃ v, vs = [v] ∧ flatV v = true ∧ (nameB v = true → Q .non H) ∧ (nameB v = false → E (.ref (He.ga K "BadName")) none H)
theorem sc_check_name : FnScope ["name"] ["name"] (defScope s_check_name) := ⟨rfl, rfl, rfl, by decide +kernel, rfl, by decide +kernel, by decide +kernel⟩
theorem ok_check_name (T : Tx w K mg) : Fk P w K mg base 1 (Ad K d_check_name.at_) ["name"] (sp_check_name K) := by
  refine mkF T.f_check_name sc_check_name rfl (fun _ _ _ _ _ _ us hl => match us, hl with | [_], _ => rfl) (fun vs H Q E h => by obtain ⟨_, rfl, _⟩ := h; rfl) (fun cdv A outer s H vs Q E hcd hcode hr h => ?_)
  have tk : Takes (CxD P w K mg base ["name"] d_check_name cdv A outer s H E) (fun cls d _ H => E cls d H) := takes_of rfl rfl rfl rfl
  refine ⟨_, (pss_one (ps_if (pt_cmpR op_notIn_seq (pv 0) (pe_glob (v := .ref (He.ga K "NAMES")) rfl T.g_NAMES rfl) (by rfl)) (pss_one (ps_raise rfl tk (pmk_BadName T rfl))) pss_nil)), ?_⟩
  obtain ⟨v, rfl, hf, kt, kf⟩ := h
  refine ⟨_, rfl, _, _, rfl, .inr (T.names H), hf, by decide +kernel, _, rfl, ?_⟩
  cases hn : inV v namesV with
  | true => exact iteF (kt hn)
  | false => exact iteT (kf hn)
def sp_check_each (K : PySem.W.Frag) : Sp := fun vs H Q _ => ∃ a as ks m, vs = [.ref a, .int m, .ref (Ad K d_is_key.at_)] ∧ SqT K H a (as.map V.ref) ∧ KeysAt K H as ks ∧ (∀ k ∈ ks, k.Ok) ∧ (ks.length : Int) ≤ m ∧ TabG H (tS K) ∧ ∀ H', Kq [] H H' → Q .non H'
theorem sc_check_each : FnScope ["keys", "most", "belongs", "at", "key"] ["keys", "most", "belongs"] (defScope s_check_each) := ⟨rfl, rfl, rfl, by decide +kernel, rfl, by decide +kernel, by decide +kernel⟩
theorem ok_check_each (T : Tx w K mg) (B : TabB base mg (cS K) (tS K)) : Fk P w K mg base 4 (Ad K d_check_each.at_) ["keys", "most", "belongs"] (sp_check_each K) := by
  have F_is_key := ok_is_key (P := P) (base := base) T B
  refine mkF T.f_check_each sc_check_each rfl (fun _ _ _ _ _ _ us hl => match us, hl with | [_, _, _], _ => rfl) (fun vs H Q E h => by obtain ⟨_, _, _, _, rfl, _⟩ := h; rfl) (fun cdv A outer s H vs Q E hcd hcode hr h => ?_)
  have po : PassesOwn (model P w) (CxD P w K mg base ["keys", "most", "belongs", "at", "key"] d_check_each cdv A outer s H E).A (CxD P w K mg base ["keys", "most", "belongs", "at", "key"] d_check_each cdv A outer s H E).env (CxD P w K mg base ["keys", "most", "belongs", "at", "key"] d_check_each cdv A outer s H E).xe := passes_of rfl
  refine ⟨_, (pss_one (ps_for po rfl (pi_enumT (by rfl) T.n_enumerate (pa_cons (pv 0) pa_nil)) (pg_tup rfl (pgs_cons (pg_name (i := 3) sc_check_each.nd rfl (.inl rfl)) (pgs_cons (pg_name (i := 4) sc_check_each.nd rfl (.inl rfl)) pgs_nil))) (pss_one (ps_if ((pw_or (pt_cmpR op_ge (pv 3) (pv 1) (nomark _)) (pw_or1 (pt_not (pt_val (pe_callV (i := 2) hr px (pa_cons (pv 4) pa_nil))))))).pt (pss_one ps_never) pss_nil)))), ?_⟩
  obtain ⟨a, as, ks, m, rfl, ha, hk, hok, hm, hT, kQ⟩ := h
  refine ⟨_, rfl, a, _, rfl, ha, ?_⟩
  refine for_enumT (K := K) (a := a) (xs := as.map V.ref) (fun i σ H' => Kq [] H H' ∧ ∃ v1 v2, σ = [some (.ref a), some (.int m), some (.ref (Ad K d_is_key.at_)), v1, v2]) ⟨Kq.refl, none, none, rfl⟩ (fun i σ H' z => z.1.tup ha) ?_ ?_
  · rintro i x Tq σ H' hx ⟨k1, v1, v2, rfl⟩ nT
    have hi : i < as.length := by
      have := (List.getElem?_eq_some_iff.mp hx).1
      rwa [List.length_map] at this
    have hl := hk.len
    have hik : i < ks.length := by omega
    rw [List.getElem?_map, List.getElem?_eq_getElem hi] at hx
    cases hx
    have kT : Kq [] H' (upd H' Tq (.tup [.int (i : Nat), .ref as[i]])) := Kq.alloc nT
    have k2 := k1.trans kT
    have hki := (k2.keys hk).at_ hi hik
    have kok := hok _ (List.getElem_mem hik)
    refine ⟨Tq, _, rfl, SqT.of upd_same, rfl, _, _, rfl, _, _, rfl, rfl, ?_⟩
    refine ⟨_, rfl, _, rfl, _, _, rfl, rfl, _, rfl, iteD (fun h => absurd h (by omega)) (fun _ => ?_)⟩
    refine ⟨_, _, _, rfl, F_is_key, _, rfl, as[i], keyV ks[i], fun _ => true, rfl, hki, keyV_small kok, k2.tab _ hT, fun x e => act_ok T x e, fun H3 k3 => ?_⟩
    rw [keyB_ok kok]
    exact ⟨_, rfl, iteF ⟨k2.trans k3, _, _, rfl⟩⟩
  · rintro σ H' ⟨k1, v1, v2, rfl⟩
    exact kQ H' k1
def sp_check_keys (K : PySem.W.Frag) : Sp := fun vs H Q _ => ∃ a as ks, vs = [.ref a] ∧ SqT K H a (as.map V.ref) ∧ KeysAt K H as ks ∧ (∀ k ∈ ks, k.Ok) ∧ ks.length ≤ 30 ∧ TabG H (tS K) ∧ ∀ H', Kq [] H H' → Q .non H'
theorem sc_check_keys : FnScope ["keys"] ["keys"] (defScope s_check_keys) := ⟨rfl, rfl, rfl, by decide +kernel, rfl, by decide +kernel, by decide +kernel⟩
theorem ok_check_keys (T : Tx w K mg) (B : TabB base mg (cS K) (tS K)) : Fk P w K mg base 5 (Ad K d_check_keys.at_) ["keys"] (sp_check_keys K) := by
  obtain ⟨t_MOST_KEYS, h_MOST_KEYS⟩ := T.i_MOST_KEYS
  have F_check_each := ok_check_each (P := P) (base := base) T B
  refine mkF T.f_check_keys sc_check_keys rfl (fun _ _ _ _ _ _ us hl => match us, hl with | [_], _ => rfl) (fun vs H Q E h => by obtain ⟨_, _, _, rfl, _⟩ := h; rfl) (fun cdv A outer s H vs Q E hcd hcode hr h => ?_)
  refine ⟨_, (pss_one (ps_expr (pe_cF F_check_each (hr.mono (by decide)) T.g_check_each px (pa_cons (pv 0) (pa_cons (pe_glob (v := .int 30) (by rfl) h_MOST_KEYS ⟨_, rfl⟩) (pa_cons (pe_glob (v := .ref (Ad K d_is_key.at_)) rfl T.g_is_key rfl) pa_nil)))))), ?_⟩
  obtain ⟨a, as, ks, rfl, ha, hk, hok, h30, hT, kQ⟩ := h
  exact ⟨_, rfl, a, as, ks, 30, rfl, ha, hk, hok, by omega, hT, kQ⟩
def sp_ed_tape (K : PySem.W.Frag) : Sp := fun vs H Q _ => ∃ m ed n a as ks, vs = [.ref m.e, .str (nameS n), .ref a] ∧ EdAt K H m ed ∧ n < 8 ∧ SqT K H a (as.map V.ref) ∧ KeysAt K H as ks ∧ (∀ k ∈ ks, k.Ok) ∧ ks.length ≤ 30 ∧
  ∀ H', Kf [m.t] H H' → EdAt K H' m { ed with tapes := fun i => if i = n then ks else ed.tapes i } → Q .non H'
theorem sc_Editor_tape : FnScope ["self", "name", "keys"] ["self", "name", "keys"] (defScope s_Editor_tape) := ⟨rfl, rfl, rfl, by decide +kernel, rfl, by decide +kernel, by decide +kernel⟩
theorem ok_Editor_tape (T : Tx w K mg) (B : TabB base mg (cS K) (tS K)) : Fk P w K mg base 6 (Ad K d_Editor_tape.at_) ["self", "name", "keys"] (sp_ed_tape K) := by
  have F_check_keys := ok_check_keys (P := P) (base := base) T B
  have F_check_name := ok_check_name (P := P) (base := base) T
  refine mkF T.f_Editor_tape sc_Editor_tape rfl (fun _ _ _ _ _ _ us hl => match us, hl with | [_, _, _], _ => rfl) (fun vs H Q E h => by obtain ⟨_, _, _, _, _, _, rfl, _⟩ := h; rfl) (fun cdv A outer s H vs Q E hcd hcode hr h => ?_)
  refine ⟨_, (pss_cons (ps_expr (pe_cF F_check_name (hr.mono (by decide)) T.g_check_name px (pa_cons (pv 1) pa_nil)))
      (pss_cons (ps_expr (pe_cF F_check_keys (hr.mono (by decide)) T.g_check_keys px (pa_cons (pv 2) pa_nil)))
      (pss_one (ps_dput (hu_of hr) (pe_fld (pv 0) rfl) (pv 1) (pe_callTy call_tuple_of (by rfl) T.n_tuple (by decide +kernel) (pa_cons (pv 2) pa_nil)) rfl)))), ?_⟩
  obtain ⟨m, ed, n, a, as, ks, rfl, hE, hn, ha, hk, hok, h30, kQ⟩ := h
  refine ⟨_, rfl, _, rfl, rfl, fun _ => ?_, fun e => absurd ((nameB_ok hn).symm.trans e) (by simp)⟩
  refine ⟨_, rfl, a, as, ks, rfl, ha, hk, hok, h30, hE.sign, fun H1 k1 => ?_⟩
  have hE1 := hE.kq k1
  refine ⟨_, rfl, a, _, rfl, .inr ⟨k1.tup ha, ?_⟩⟩
  obtain ⟨dx, p, ap, au, ad, h1, h2, h3, h4, h5, h6, h7, h8⟩ := hE1.ex
  obtain ⟨kvs, t1, t2, t3⟩ := hE1.tapes
  have hl8 : kvs.length = 8 := by
    have := congrArg List.length t2
    rw [List.length_map] at this
    exact this
  refine ⟨_, rfl, m.e, _, dx, _, _, rfl, h1, T.c_Editor, T.a_Editor_tapes, edF_tapes _ _ _ _ _ _, _, rfl, m.t, _, rfl, .inl ⟨kvs, .inr (nameS n), t1, rfl, small1000 (by omega), rfl⟩, ?_⟩
  have kw : Kf [m.t] H1 (upd H1 m.t (.dK (putK kvs (.inr (nameS n)) (.ref a)))) := Kf.write t1 (by simp) rfl fun c hc => by rw [List.mem_singleton.mp hc]; exact ⟨_, t1, rfl⟩
  refine kQ _ (Kf.cat k1 kw fun c hc => ?_) ?_
  · obtain ⟨kv0, z1, _⟩ := hE.tapes
    rw [List.mem_singleton.mp hc]; exact ⟨_, z1, rfl⟩
  have ne : ∀ {c o}, H1 c = some o → (∀ kv, o ≠ .dK kv) → c ≠ m.t := fun h n e => by rw [e, t1] at h; cases h; exact n _ rfl
  refine ⟨⟨dx, p, ap, au, ad, kw.q.gets h1 (by simp; exact ne h1 (by simp)), kw.page h2, kw.q.gets h3 (by simp; exact ne h3 (by simp)), kw.keys h4, kw.q.gets h5 (by simp; exact ne h5 (by simp)), h6.imp (fun _ _ z => kw.tup z) (fun _ _ z => kw.page z), kw.q.gets h7 (by simp; exact ne h7 (by simp)), h8.imp (fun _ _ z => kw.tup z) (fun _ _ z => kw.page z)⟩, ?_, ⟨?_, ?_⟩, kw.q.tab _ hE1.sign, hE.ok, hE.d1, hE.d2, hE.d3, hE.pok, hE.uok, hE.dok, hE.rok⟩
  · refine ⟨_, upd_same, by rw [put_keys8 (by rw [t2]; exact name_mem hn)]; exact t2, fun i hi => ?_⟩
    show ∃ b, valV (putK kvs (.inr (nameS n)) (.ref a)) (.inr (nameS i)) = some (.ref b) ∧ TapeAt K _ b (if i = n then ks else ed.tapes i)
    rw [valV_put]
    by_cases e : i = n
    · subst e
      rw [if_pos rfl, if_pos rfl]
      exact ⟨a, rfl, as, kw.tup (k1.tup ha), kw.keys (k1.keys hk)⟩
    · rw [if_neg (fun z => e (name_inj (Sum.inr.inj z))), if_neg e]
      obtain ⟨b, b1, b2⟩ := t3 i hi
      exact ⟨b, b1, kw.tape b2⟩
  · intro i hi
    show (if i = n then ks else ed.tapes i).length ≤ 30
    split
    · exact h30
    · exact hE.tok.len i hi
  · intro i hi
    show ∀ k ∈ (if i = n then ks else ed.tapes i), k.Ok
    split
    · exact hok
    · exact hE.tok.ok i hi
def sp_ed_go_to (K : PySem.W.Frag) : Sp := fun vs H Q _ => ∃ m ed q g, vs = [.ref m.e, .ref q] ∧ EdAt K H m ed ∧ PageAt K H q g ∧ g.Ok ∧ ∀ H', Kf [m.e] H H' → EdAt K H' m { ed with page := { g with clip := ed.page.clip } } → Q .non H'
theorem sc_Editor_go_to : FnScope ["self", "page"] ["self", "page"] (defScope s_Editor_go_to) := ⟨rfl, rfl, rfl, by decide +kernel, rfl, by decide +kernel, by decide +kernel⟩
theorem ok_Editor_go_to (T : Tx w K mg) : Fk P w K mg base 3 (Ad K d_Editor_go_to.at_) ["self", "page"] (sp_ed_go_to K) := by
  have F_Page___init__ := ok_Page___init__ (P := P) (base := base) T
  refine mkF T.f_Editor_go_to sc_Editor_go_to rfl (fun _ _ _ _ _ _ us hl => match us, hl with | [_, _], _ => rfl) (fun vs H Q E h => by obtain ⟨_, _, _, _, rfl, _⟩ := h; rfl) (fun cdv A outer s H vs Q E hcd hcode hr h => ?_)
  refine ⟨_, (pss_one (ps_fld (pv 0) (pe_kF (spN := sp_Page K) T.k_Page F_Page___init__ (hr.mono (by decide)) T.g_Page px new_Page (pa_cons (pe_fld (pv 1) rfl) (pa_cons (pe_fld (pv 1) rfl) (pa_cons (pe_fld (pv 1) rfl) (pa_cons (pe_fld (pe_fld (pv 0) rfl) rfl) pa_nil))))) rfl)), ?_⟩
  obtain ⟨m, ed, q, g, rfl, hE, hq, hg, kQ⟩ := h
  obtain ⟨dx, p, ap, au, ad, h1, h2, h3, h4, h5, h6, h7, h8⟩ := hE.ex
  refine ⟨_, rfl, rd_rows T hq fun t ht => ⟨_, rfl, rd_row T hq ⟨_, rfl, rd_col T hq ⟨_, rfl, m.e, _, dx, _, _, rfl, h1, T.c_Editor, T.a_Editor_page, edF_page _ _ _ _ _ _, rd_clip T h2 ⟨t, _, _, _, { g with clip := ed.page.clip }, rfl, rfl, rfl, rfl, ht, fun q2 H2 k2 a2 => ?_⟩⟩⟩⟩⟩
  have h12 := k2.get h1
  refine ⟨_, rfl, m.e, _, dx, _, rfl, h12, T.c_Editor, T.a_Editor_page, (by show 6 < 1000; decide), ?_⟩
  rw [edF_put_page]
  have we : ∀ c ∈ [m.e], ∃ o, H2 c = some o ∧ mutO o = true := fun c hc => by rw [List.mem_singleton.mp hc]; exact ⟨_, h12, mut_ed _ _ _ _ _ _ _ _⟩
  have kw : Kf [m.e] H2 (upd H2 m.e (.ins (He.ga K "Editor") dx (edF q2 m.t (recV ed.taped) m.pr m.un m.ud))) := Kf.write h12 (by simp) (mut_ed _ _ _ _ _ _ _ _) we
  have ne : ∀ {c o}, H2 c = some o → (∀ C d f, o ≠ .ins C d f) → c ≠ m.e := fun h n e => by rw [e, h12] at h; cases h; exact n _ _ _ rfl
  have hE2 := hE.kq k2
  refine kQ _ (Kf.cat k2 kw fun c hc => by rw [List.mem_singleton.mp hc]; exact ⟨_, h1, mut_ed _ _ _ _ _ _ _ _⟩) ⟨⟨dx, q2, ap, au, ad, upd_same, kw.page a2, kw.q.gets (k2.get h3) (by simp; exact ne (k2.get h3) (by simp)), kw.keys (k2.keys h4), kw.q.gets (k2.get h5) (by simp; exact ne (k2.get h5) (by simp)), h6.imp (fun _ _ z => kw.tup (k2.tup z)) (fun _ _ z => kw.page (k2.page z)), kw.q.gets (k2.get h7) (by simp; exact ne (k2.get h7) (by simp)), h8.imp (fun _ _ z => kw.tup (k2.tup z)) (fun _ _ z => kw.page (k2.page z))⟩, kw.tapes hE2.tapes ?_, hE.tok, kw.q.tab _ hE2.sign, ⟨hg.many, hg.long, hg.row, hg.col, hE.ok.clip, hg.sig, hE.ok.csig⟩, hE.d1, hE.d2, hE.d3, hE.pok, hE.uok, hE.dok, hE.rok⟩
  obtain ⟨kvs, z1, _⟩ := hE2.tapes
  simp
  exact ne z1 (by simp)
theorem UnitsAt.last {K : PySem.W.Frag} {H : Hp} {as : List Addr} {us : List (Pg × Pg)} (h : UnitsAt K H as us) (hne : us ≠ []) :
    ∃ a p q as' us' u, as = as' ++ [a] ∧ us = us' ++ [u] ∧ UnitsAt K H as' us' ∧ SqT K H a [.ref p, .ref q] ∧ PageAt K H p u.1 ∧ PageAt K H q u.2 := by
  induction h with
  | nil => exact absurd rfl hne
  | @cons a p q u as us h h1 h2 r ih =>
    cases us with
    | nil =>
      cases r
      exact ⟨a, p, q, [], [], u, rfl, rfl, .nil, h, h1, h2⟩
    | cons u2 ur =>
      obtain ⟨a', p', q', as', us', u', e1, e2, h3, h4, h5, h6⟩ := ih (by simp)
      exact ⟨a', p', q', a :: as', u :: us', u', by rw [e1]; rfl, by rw [e2]; rfl, .cons h h1 h2 h3, h4, h5, h6⟩
theorem edF_no_goto (p t : Addr) (r : V) (pr un ud : Addr) : (edF p t r pr un ud).lookup ("go_to" : Str) = none := by kernel_rfl
def backE (ed : EdSt) : EdSt := match ed.units.getLast? with
  | none => ed
  | some u => { ed with page := { u.1 with clip := ed.page.clip }, units := ed.units.dropLast, undone := ed.undone ++ [u] }
def sp_ed_back (K : PySem.W.Frag) : Sp := fun vs H Q _ => ∃ m ed, vs = [.ref m.e] ∧ EdAt K H m ed ∧ ed.Small ∧ ∀ H', Kf m.l H H' → EdAt K H' m (backE ed) → Q (.bl (!ed.units.isEmpty)) H'
theorem sc_Editor_back : FnScope ["self", "unit"] ["self"] (defScope s_Editor_back) := ⟨rfl, rfl, rfl, by decide +kernel, rfl, by decide +kernel, by decide +kernel⟩
theorem ok_Editor_back (T : Tx w K mg) : Fk P w K mg base 4 (Ad K d_Editor_back.at_) ["self"] (sp_ed_back K) := by
  have F_Editor_go_to := ok_Editor_go_to (P := P) (base := base) T
  refine mkF T.f_Editor_back sc_Editor_back rfl (fun _ _ _ _ _ _ us hl => match us, hl with | [_], _ => rfl) (fun vs H Q E h => by obtain ⟨_, _, rfl, _⟩ := h; rfl) (fun cdv A outer s H vs Q E hcd hcode hr h => ?_)
  refine ⟨_, (pss_cons (ps_if (pt_cmpR (op_eqE hr.units0) (pe_fld (pv 0) rfl) (pe_lst pa_nil) (nomark _)) (pss_one (ps_ret pe_bl)) pss_nil)
      (pss_cons (ps_asg (pe_bm0 PySem.F.plainAttrs_list PySem.F.slot_list_pop PySem.F.type_list_pop mt_pop (pe_fld (pv 0) rfl)) (pg_name (i := 1) sc_Editor_back.nd rfl (.inl rfl)))
      (pss_cons (ps_expr (pe_bm PySem.F.plainAttrs_list PySem.F.slot_list_append PySem.F.type_list_append mt_append (pe_fld (pv 0) rfl) (pa_cons (pv 1) pa_nil)))
      (pss_cons (ps_expr (pe_mF _ (pv 0) T.c_Editor T.m_Editor_go_to F_Editor_go_to (hr.mono (by decide)) px (pa_cons (pe_ix ix_tup (pv 1) pe_int (fun _ _ => rfl)) pa_nil)))
      (pss_one (ps_ret pe_bl)))))), ?_⟩
  obtain ⟨m, ed, rfl, hE, hsm, kQ⟩ := h
  obtain ⟨dx, p, ap, au, ad, h1, h2, h3, h4, h5, h6, h7, h8⟩ := hE.ex
  refine ⟨_, rfl, m.e, _, dx, _, _, rfl, h1, T.c_Editor, T.a_Editor_units, edF_units _ _ _ _ _ _, line16 (by show 0 ≤ 1000000; decide), fun z nz => ?_⟩
  have k1 : Kq [] H (upd H z (.lst [])) := Kq.alloc nz
  refine ⟨m.un, z, au.map V.ref, rfl, rfl, SqL.of (k1.get h5), SqL.of upd_same, _, rfl, ?_⟩
  have hul := h6.len
  have hE1 := hE.kq k1
  by_cases hu : ed.units = []
  · have ha : au = [] := List.length_eq_zero_iff.mp (by rw [hul, hu]; rfl)
    rw [ha]
    refine iteT ?_
    have := kQ _ (Kf.of k1 hE.wr) (by unfold backE; rw [hu]; exact hE1)
    rw [hu] at this
    exact this
  have hne : au ≠ [] := fun e => by rw [e] at hul; exact hu (List.length_eq_zero_iff.mp (by rw [← hul]; rfl))
  rw [show (au.map V.ref).isEmpty = false by cases au <;> first | rfl | exact absurd rfl hne]
  refine iteF ?_
  obtain ⟨a, p1, q1, as', us', u, ea, eu, hr, ha, hp1, hq1⟩ := (h6.imp (fun _ _ z => k1.tup z) (fun _ _ z => k1.page z)).last hu
  have k1' := k1
  have g1 := k1.get h1
  have g3 := k1.get h3
  have g5 := k1.get h5
  have g7 := k1.get h7
  have hw1 := hE1.wr
  have gp := k1.page h2
  generalize (upd H z (.lst [])) = H1 at k1 k1' hE1 hr ha hp1 hq1 g1 g3 g5 g7 hw1 gp ⊢
  rw [ea] at g5
  refine ⟨_, rfl, m.e, _, dx, _, _, rfl, g1, T.c_Editor, T.a_Editor_units, edF_units _ _ _ _ _ _, .inl ⟨rfl, _, SqL.of g5⟩, m.un, _, .ref a, rfl, rfl, g5, by simp, ?_⟩
  have k2 : Kf m.l H1 (upd H1 m.un (.lst (((as' ++ [a]).map V.ref).dropLast))) := Kf.write g5 (by simp [EdM.l]) rfl hw1
  rw [show ((as' ++ [a]).map V.ref).dropLast = as'.map V.ref by simp] at k2 ⊢
  have neu : m.e ≠ m.un := ne_of g1 g5 (by intro z; cases z)
  have f1 : (upd H1 m.un (.lst (as'.map V.ref))) m.e = _ := (upd_ne neu).trans g1
  have f3 : (upd H1 m.un (.lst (as'.map V.ref))) m.pr = _ := (upd_ne hE.d1).trans g3
  have f5 : (upd H1 m.un (.lst (as'.map V.ref))) m.un = _ := upd_same
  have f7 : (upd H1 m.un (.lst (as'.map V.ref))) m.ud = _ := (upd_ne hE.d3.symm).trans g7
  have hw2 := k2.w'
  have ha2 := k2.tup ha
  obtain ⟨kvs, z1, z2⟩ := hE1.tapes
  have neT1 : m.t ≠ m.un := ne_of z1 g5 (by intro z; cases z)
  have neT2 : m.t ≠ m.ud := ne_of z1 g7 (by intro z; cases z)
  have tp2 := (Kf.one (ys := as'.map V.ref) g5).tapes hE1.tapes (by simp [neT1])
  generalize (upd H1 m.un (.lst (as'.map V.ref))) = H2 at k2 f1 f3 f5 f7 hw2 ha2 tp2 ⊢
  have hdl := h8.len
  refine ⟨_, rfl, m.e, _, dx, _, _, rfl, f1, T.c_Editor, T.a_Editor_undone, edF_undone _ _ _ _ _ _, .inl ⟨rfl, _, SqL.of f7⟩, _, rfl, m.ud, _, _, rfl, rfl, f7, smallM (by rw [List.length_map, hdl]; have := hsm.d; omega), ?_⟩
  have k3 : Kf m.l H2 (upd H2 m.ud (.lst (ad.map V.ref ++ [.ref a]))) := Kf.write f7 (by simp [EdM.l]) rfl hw2
  have ned : m.e ≠ m.ud := ne_of f1 f7 (by intro z; cases z)
  have b1 : (upd H2 m.ud (.lst (ad.map V.ref ++ [.ref a]))) m.e = _ := (upd_ne ned).trans f1
  have b3 : (upd H2 m.ud (.lst (ad.map V.ref ++ [.ref a]))) m.pr = _ := (upd_ne hE.d2).trans f3
  have b5 : (upd H2 m.ud (.lst (ad.map V.ref ++ [.ref a]))) m.un = _ := (upd_ne hE.d3).trans f5
  have b7 : (upd H2 m.ud (.lst (ad.map V.ref ++ [.ref a]))) m.ud = _ := upd_same
  have k23 := k2.trans k3
  have hu1 : u.1.Ok ∧ u.2.Ok := hE.uok u (by rw [eu]; simp)
  have tp3 := (Kf.one (ys := ad.map V.ref ++ [.ref a]) f7).tapes tp2 (by simp [neT2])
  have hE3 : EdAt K (upd H2 m.ud (.lst (ad.map V.ref ++ [.ref a]))) m { ed with units := us', undone := ed.undone ++ [u] } := by
    refine ⟨⟨dx, p, ap, as', ad ++ [a], b1, k23.page gp, b3, k23.keys (k1'.keys h4), b5, hr.imp (fun _ _ z => k23.tup z) (fun _ _ z => k23.page z), by rw [b7, List.map_append]; rfl, ?_⟩, tp3, hE.tok, k23.q.tab _ hE1.sign, hE.ok, hE.d1, hE.d2, hE.d3, hE.pok, fun v hv => hE.uok v (by rw [eu]; exact List.mem_append_left _ hv), fun v hv => ?_, hE.rok⟩
    · exact ((h8.imp (fun _ _ z => k1'.tup z) (fun _ _ z => k1'.page z)).imp (fun _ _ z => k23.tup z) (fun _ _ z => k23.page z)).snoc (k23.tup ha) (k23.page hp1) (k23.page hq1)
    · rcases List.mem_append.mp hv with z | z
      · exact hE.dok v z
      · rw [List.mem_singleton.mp z]; exact hu1
  have ha3 := k23.tup ha
  have hp3 := k23.page hp1
  generalize (upd H2 m.ud (.lst (ad.map V.ref ++ [.ref a]))) = H3 at k3 b1 b3 b5 b7 k23 tp3 hE3 ha3 hp3 ⊢
  refine ⟨_, rfl, m.e, dx, _, rfl, b1, edF_no_goto _ _ _ _ _ _, _, rfl, a, _, _, _, rfl, rfl, ha3, at_of (j := 0) rfl rfl, m, _, p1, u.1, rfl, hE3, hp3, hu1.1, fun H4 k4 hE4 => ?_⟩
  have e1 : backE ed = { ed with page := { u.1 with clip := ed.page.clip }, units := us', undone := ed.undone ++ [u] } := by
    unfold backE
    rw [eu, List.getLast?_append, List.getLast?_singleton]
    show EdSt.mk _ _ _ _ ((us' ++ [u]).dropLast) _ = _
    rw [List.dropLast_concat]
  have e2 : (!ed.units.isEmpty) = true := by rw [eu]; simp
  rw [e2] at kQ
  refine kQ H4 (Kf.cat k1' (k23.trans (k4.mono (fun c hc => by rw [List.mem_singleton.mp hc]; simp [EdM.l]) k23.w' hE4.wr)) hE.wr) ?_
  rw [e1]
  exact hE4
end
end KT
set_option Elab.async false
set_option linter.all false
set_option maxRecDepth 100000
set_option maxHeartbeats 4000000
namespace KT
open PySem PySem.Spec PyProof.Rows L2 GxR
variable [GT]
theorem Kq.tabbedG {S : List Addr} {H H' : Hp} {p : Addr} (t : Tabbed p H H') (hp : TabG H p) (ne : ∀ q ∈ GT.l, q.1 ≠ p) : Kq S H H' := by
  obtain ⟨t1, t2⟩ := t
  refine ⟨fun b u h n _ => ?_, fun q h => ?_, fun b h => ?_, fun q m h => tabS_imp h (fun ps e => by rw [t2 _ (ne q m)]; exact e) (fun c e => ?_)⟩
  rotate_left 3
  · have : c ≠ p := fun z => by
      subst z
      obtain ⟨ps, h1, _⟩ := hp
      rw [h1] at e
      unfold LamX.CodeO at e
      cases e
    rw [t2 c this]; exact e
  · have : b ≠ p := fun e => by
      subst e
      obtain ⟨ps, h1, _⟩ := hp
      rw [h] at h1
      cases h1
      cases n
    rw [t2 b this]; exact h
  · by_cases e : q = p
    · subst e; exact t1
    · obtain ⟨ps, h1, h2⟩ := h
      exact ⟨ps, by rw [t2 q e]; exact h1, h2⟩
  · by_cases e : b = p
    · subst e
      obtain ⟨ps, h1, _⟩ := t1
      rw [h] at h1; cases h1
    · rw [t2 b e] at h; exact h
def genCB (sc scope : Scope) (x : Str) : Bool :=
  decide (scope.kind = .function) && (!scope.isCoroutine && (decide (scope.names.lookup (".0" : Str) = some NameKind.local) && (decide (scope.names.lookup x = some .local) && scope.names.all fun y =>
    decide (y.2 ≠ .cell) && (decide (y.2 ≠ .free) || (decide (sc.names.lookup y.1 = some .cell) || decide (sc.names.lookup y.1 = some .free))))))
theorem genC_by {sc scope : Scope} {x : Str} (h : genCB sc scope x = true) : GenC sc scope x := by
  unfold genCB at h
  simp only [Bool.and_eq_true, Bool.or_eq_true, Bool.not_eq_true', decide_eq_true_eq, List.all_eq_true] at h
  obtain ⟨a1, a2, a3, a4, a5⟩ := h
  refine ⟨a1, a2, fun y hy => (a5 y hy).1, a3, a4, fun y hy e => ?_⟩
  rcases (a5 y hy).2 with z | z
  · exact absurd e z
  · exact z
/-- the table of signs_not_put -/
abbrev cP (K : PySem.W.Frag) : Addr := He.codeOf K ("signs_not_put", none)
abbrev tP (K : PySem.W.Frag) : Addr := He.tabOf K (He.codeOf K ("signs_not_put", none))
def sgsS : Str := Str.ofString "abcdefghijklmnopqrstuvwxyzABCDEFGHIJKLMNOPQRSTUVWXYZ0123456789"
def sgs : Ln := sgsS.cps.toList
theorem sgs_ok : sgs.Nodup ∧ sgs.length = 62 ∧ ∀ c ∈ sgs, okSign c := by decide +kernel
def freeS (ks : List Ky) : Ln := sgs.filter fun c => !(puts ks).contains c
theorem pickB_puts (ps : List Nat) (c : Nat) : pickB (ps.map fun c => S [c]) c = !ps.contains c := by
  unfold pickB
  congr 1
  induction ps with
  | nil => rfl
  | cons p r ih =>
    show (eqV (.str (S [p])) (.str ⟨#[c]⟩) || inV (.str ⟨#[c]⟩) ((r.map fun c => S [c]).map V.str)) = _
    rw [ih, List.contains_cons]
    congr 1
    show (S [p] == (⟨#[c]⟩ : Str)) = (c == p)
    by_cases e : p = c
    · subst e; simp
    · have h1 : ¬ (S [p] = (⟨#[c]⟩ : Str)) := fun z => e (by have : S [p] = S [c] := z; have := S_inj this; simpa using this)
      rw [beq_eq_false_iff_ne.mpr h1, beq_eq_false_iff_ne.mpr (fun z => e z.symm)]
theorem picked_free (ks : List Ky) : picked sgsS ((puts ks).map fun c => S [c]) = (freeS ks).map fun c => S [c] := by
  unfold picked freeS
  have : (sgsS.cps.toList.filter (pickB ((puts ks).map fun c => S [c]))) = sgs.filter fun c => !(puts ks).contains c := List.filter_congr fun c _ => pickB_puts _ _
  rw [this]
theorem puts_len : ∀ {ks : List Ky}, (∀ k ∈ ks, k.plain = true) → (puts ks).length ≤ ks.length
  | [], _ => Nat.le_refl _
  | k :: ks, h => by
    have h1 := h k (by simp)
    have h2 := puts_len (ks := ks) fun x hx => h x (by simp [hx])
    rw [puts_cons, List.length_append]
    have : (puts [k]).length ≤ 1 := by
      cases k with
      | put s => obtain ⟨x, rfl, _⟩ := plain_put h1; exact Nat.le_refl _
      | _ => simp [puts]
    show _ ≤ ks.length + 1
    omega
theorem filter_out {α : Type} [DecidableEq α] : ∀ (ps l : List α), l.Nodup → l.length ≤ (l.filter fun c => !ps.contains c).length + ps.length
  | [], l, _ => by
    have : l.filter (fun c => !([] : List α).contains c) = l := List.filter_eq_self.mpr (by simp)
    rw [this]; exact Nat.le_add_right _ _
  | p :: ps, l, nd => by
    have ih := filter_out ps (l.erase p) (nd.erase p)
    have e : (l.erase p).filter (fun c => !ps.contains c) = l.filter fun c => !(p :: ps).contains c := by
      rw [nd.erase_eq_filter, List.filter_filter]
      refine List.filter_congr fun c _ => ?_
      rw [List.contains_cons]
      cases ps.contains c <;> cases h : (c == p) <;> simp [bne, h]
    rw [e] at ih
    have h2 : l.length ≤ (l.erase p).length + 1 := by
      by_cases z : p ∈ l
      · rw [List.length_erase_of_mem z]; omega
      · rw [List.erase_of_not_mem z]; omega
    show _ ≤ _ + (ps.length + 1)
    omega
theorem freeS_len {ks : List Ky} (h : ∀ k ∈ ks, k.plain = true) : 62 ≤ (freeS ks).length + ks.length := by
  have h1 := filter_out (puts ks) sgs sgs_ok.1
  have h2 := puts_len h
  rw [sgs_ok.2.1] at h1
  unfold freeS
  omega
theorem freeS_nd (ks : List Ky) : (freeS ks).Nodup := List.Pairwise.filter _ sgs_ok.1
theorem freeS_np {ks : List Ky} {c : Nat} (h : c ∈ freeS ks) : c ∉ puts ks := by
  have := (List.mem_filter.mp h).2
  simpa using this
theorem freeS_ok {ks : List Ky} {c : Nat} (h : c ∈ freeS ks) : okSign c := sgs_ok.2.2 c (List.mem_filter.mp h).1
section
variable {P : Program} {w : World} {K : PySem.W.Frag} {mg : Str → Option Value} {base : Heap}
theorem Tx.plains (T : Tx w K mg) (H : Hp) : SqT K H (He.ga K "PLAIN") [.str "put", .str "rub", .str "left", .str "right", .str "home", .str "end"] := by
  have := T.more2
  unfold ex2 at this
  first | exact He.tupB_ok this H | exact He.tupB_ok (He.ba this).1 H | exact He.tupB_ok (He.ba (He.ba this).1).1 H
theorem plain_head {k : Ky} (h : k.plain = true) : ∃ z : Str, (keyV k)[0]? = some (.str z) ∧ inV (.str z) [.str "put", .str "rub", .str "left", .str "right", .str "home", .str "end"] = true ∧ ((∃ x, k = .put [x]) ∨ decide (V.str z = .str "put") = false) := by
  cases k with
  | put s => obtain ⟨x, rfl, _⟩ := plain_put h; exact ⟨_, rfl, rfl, .inl ⟨x, rfl⟩⟩
  | _ => first | exact ⟨_, rfl, rfl, .inr (by decide +kernel)⟩ | cases h
def sp_plain (K : PySem.W.Frag) : Sp := fun vs H Q _ => ∃ a k, vs = [.ref a] ∧ KeyAt K H a k ∧ k.plain = true ∧ TabG H (tS K) ∧ ∀ H', Kq [] H H' → Q (.bl true) H'
theorem sc_is_plain_key : FnScope ["key"] ["key"] (defScope s_is_plain_key) := ⟨rfl, rfl, rfl, by decide +kernel, rfl, by decide +kernel, by decide +kernel⟩
theorem ok_is_plain_key (T : Tx w K mg) (B : TabB base mg (cS K) (tS K)) : Fk P w K mg base 4 (Ad K d_is_plain_key.at_) ["key"] (sp_plain K) := by
  have F_is_key := ok_is_key (P := P) (base := base) T B
  refine mkF T.f_is_plain_key sc_is_plain_key rfl (fun _ _ _ _ _ _ us hl => match us, hl with | [_], _ => rfl) (fun vs H Q E h => by obtain ⟨_, _, rfl, _⟩ := h; rfl) (fun cdv A outer s H vs Q E hcd hcode hr h => ?_)
  refine ⟨_, (pss_one (ps_ret (pe_and (pe_cF F_is_key (hr.mono (by decide)) T.g_is_key px (pa_cons (pv 0) pa_nil)) (pe_one (pe_cmpR op_in_seq (pe_ix ix_tup (pv 0) pe_int (fun _ _ => rfl)) (pe_glob (v := .ref (He.ga K "PLAIN")) rfl T.g_PLAIN rfl) (by rfl)))))), ?_⟩
  obtain ⟨a, k, rfl, hk, hp, hT, kQ⟩ := h
  have kok := (plain_ok hp).1
  obtain ⟨z, e1, e2, _⟩ := plain_head hp
  refine ⟨_, rfl, a, keyV k, fun _ => true, rfl, hk, keyV_small kok, hT, fun x e => act_ok T x e, fun H1 k1 => ?_⟩
  rw [keyB_ok kok]
  refine ⟨_, rfl, iteT ⟨_, rfl, a, _, _, .str z, rfl, rfl, k1.key hk, at_of (j := 0) rfl e1, _, _, rfl, .inr (T.plains H1), rfl, rfl, ?_⟩⟩
  rw [e2]
  exact kQ H1 k1
def sp_check_eachP (K : PySem.W.Frag) : Sp := fun vs H Q _ => ∃ a as ks m, vs = [.ref a, .int m, .ref (Ad K d_is_plain_key.at_)] ∧ SqT K H a (as.map V.ref) ∧ KeysAt K H as ks ∧ (∀ k ∈ ks, k.plain = true) ∧ (ks.length : Int) ≤ m ∧ TabG H (tS K) ∧ ∀ H', Kq [] H H' → Q .non H'
theorem ok_check_eachP (T : Tx w K mg) (B : TabB base mg (cS K) (tS K)) : Fk P w K mg base 5 (Ad K d_check_each.at_) ["keys", "most", "belongs"] (sp_check_eachP K) := by
  have F_is_plain_key := ok_is_plain_key (P := P) (base := base) T B
  refine mkF T.f_check_each sc_check_each rfl (fun _ _ _ _ _ _ us hl => match us, hl with | [_, _, _], _ => rfl) (fun vs H Q E h => by obtain ⟨_, _, _, _, rfl, _⟩ := h; rfl) (fun cdv A outer s H vs Q E hcd hcode hr h => ?_)
  have po : PassesOwn (model P w) (CxD P w K mg base ["keys", "most", "belongs", "at", "key"] d_check_each cdv A outer s H E).A (CxD P w K mg base ["keys", "most", "belongs", "at", "key"] d_check_each cdv A outer s H E).env (CxD P w K mg base ["keys", "most", "belongs", "at", "key"] d_check_each cdv A outer s H E).xe := passes_of rfl
  refine ⟨_, (pss_one (ps_for po rfl (pi_enumT (by rfl) T.n_enumerate (pa_cons (pv 0) pa_nil)) (pg_tup rfl (pgs_cons (pg_name (i := 3) sc_check_each.nd rfl (.inl rfl)) (pgs_cons (pg_name (i := 4) sc_check_each.nd rfl (.inl rfl)) pgs_nil))) (pss_one (ps_if ((pw_or (pt_cmpR op_ge (pv 3) (pv 1) (nomark _)) (pw_or1 (pt_not (pt_val (pe_callV (i := 2) hr px (pa_cons (pv 4) pa_nil))))))).pt (pss_one ps_never) pss_nil)))), ?_⟩
  obtain ⟨a, as, ks, m, rfl, ha, hk, hok, hm, hT, kQ⟩ := h
  refine ⟨_, rfl, a, _, rfl, ha, ?_⟩
  refine for_enumT (K := K) (a := a) (xs := as.map V.ref) (fun i σ H' => Kq [] H H' ∧ ∃ v1 v2, σ = [some (.ref a), some (.int m), some (.ref (Ad K d_is_plain_key.at_)), v1, v2]) ⟨Kq.refl, none, none, rfl⟩ (fun i σ H' z => z.1.tup ha) ?_ ?_
  · rintro i x Tq σ H' hx ⟨k1, v1, v2, rfl⟩ nT
    have hi : i < as.length := by
      have := (List.getElem?_eq_some_iff.mp hx).1
      rwa [List.length_map] at this
    have hl := hk.len
    have hik : i < ks.length := by omega
    rw [List.getElem?_map, List.getElem?_eq_getElem hi] at hx
    cases hx
    have kT : Kq [] H' (upd H' Tq (.tup [.int (i : Nat), .ref as[i]])) := Kq.alloc nT
    have k2 := k1.trans kT
    have hki := (k2.keys hk).at_ hi hik
    have kok := hok _ (List.getElem_mem hik)
    refine ⟨Tq, _, rfl, SqT.of upd_same, rfl, _, _, rfl, _, _, rfl, rfl, ?_⟩
    refine ⟨_, rfl, _, rfl, _, _, rfl, rfl, _, rfl, iteD (fun h => absurd h (by omega)) (fun _ => ?_)⟩
    refine ⟨_, _, _, rfl, F_is_plain_key, _, rfl, as[i], ks[i], rfl, hki, kok, k2.tab _ hT, fun H3 k3 => ?_⟩
    exact ⟨_, rfl, iteF ⟨k2.trans k3, _, _, rfl⟩⟩
  · rintro σ H' ⟨k1, v1, v2, rfl⟩
    exact kQ H' k1
def sp_check_plain (K : PySem.W.Frag) : Sp := fun vs H Q _ => ∃ a ks, vs = [.ref a] ∧ TapeAt K H a ks ∧ (∀ k ∈ ks, k.plain = true) ∧ ks.length ≤ 6 ∧ TabG H (tS K) ∧ ∀ H', Kq [] H H' → Q .non H'
theorem sc_check_plain_keys : FnScope ["keys"] ["keys"] (defScope s_check_plain_keys) := ⟨rfl, rfl, rfl, by decide +kernel, rfl, by decide +kernel, by decide +kernel⟩
theorem ok_check_plain_keys (T : Tx w K mg) (B : TabB base mg (cS K) (tS K)) : Fk P w K mg base 8 (Ad K d_check_plain_keys.at_) ["keys"] (sp_check_plain K) := by
  obtain ⟨t_MOST_PLAIN_KEYS, h_MOST_PLAIN_KEYS⟩ := T.i_MOST_PLAIN_KEYS
  have F_check_eachP := ok_check_eachP (P := P) (base := base) T B
  refine mkF T.f_check_plain_keys sc_check_plain_keys rfl (fun _ _ _ _ _ _ us hl => match us, hl with | [_], _ => rfl) (fun vs H Q E h => by obtain ⟨_, _, rfl, _⟩ := h; rfl) (fun cdv A outer s H vs Q E hcd hcode hr h => ?_)
  refine ⟨_, (pss_one (ps_expr (pe_cF F_check_eachP (hr.mono (by decide)) T.g_check_each px (pa_cons (pv 0) (pa_cons (pe_glob (v := .int 6) (by rfl) h_MOST_PLAIN_KEYS ⟨_, rfl⟩) (pa_cons (pe_glob (v := .ref (Ad K d_is_plain_key.at_)) rfl T.g_is_plain_key rfl) pa_nil)))))), ?_⟩
  obtain ⟨a, ks, rfl, ⟨as, h1, h2⟩, hok, hm, hT, kQ⟩ := h
  exact ⟨_, rfl, a, as, ks, 6, rfl, h1, h2, hok, by omega, hT, kQ⟩
def sp_check_number (K : PySem.W.Frag) : Sp := fun vs H Q E => ∃ i, vs = [.int i] ∧ (0 ≤ i → i ≤ 9 → Q .non H) ∧ (¬ (0 ≤ i ∧ i ≤ 9) → E (.ref (He.ga K "BadNumbers")) none H)
theorem sc_check_number : FnScope ["number"] ["number"] (defScope s_check_number) := ⟨rfl, rfl, rfl, by decide +kernel, rfl, by decide +kernel, by decide +kernel⟩
theorem ok_check_number (T : Tx w K mg) : Fk P w K mg base 2 (Ad K d_check_number.at_) ["number"] (sp_check_number K) := by
  obtain ⟨t_MOST_ASKED, h_MOST_ASKED⟩ := T.i_MOST_ASKED
  have F_is_number := ok_is_number (P := P) (base := base) T
  refine mkF T.f_check_number sc_check_number rfl (fun _ _ _ _ _ _ us hl => match us, hl with | [_], _ => rfl) (fun vs H Q E h => by obtain ⟨_, rfl, _⟩ := h; rfl) (fun cdv A outer s H vs Q E hcd hcode hr h => ?_)
  have tk : Takes (CxD P w K mg base ["number"] d_check_number cdv A outer s H E) (fun cls d _ H => E cls d H) := takes_of rfl rfl rfl rfl
  refine ⟨_, (pss_one (ps_if (pt_not (pt_val (pe_cF F_is_number (hr.mono (by decide)) T.g_is_number px (pa_cons (pv 0) (pa_cons pe_int (pa_cons (pe_glob (v := .int 9) (by rfl) h_MOST_ASKED ⟨_, rfl⟩) pa_nil)))))) (pss_one (ps_raise rfl tk (pmk_BadNumbers T rfl))) pss_nil)), ?_⟩
  obtain ⟨i, rfl, kt, kf⟩ := h
  refine ⟨_, rfl, .int i, 0, 9, rfl, rfl, (fun b e => by cases e), ⟨_, rfl, ?_⟩⟩
  by_cases hb : 0 ≤ i ∧ i ≤ 9
  · have : numB 0 9 (.int i) = true := by show (decide (0 ≤ i) && decide (i ≤ 9)) = true; rw [decide_eq_true hb.1, decide_eq_true hb.2]; rfl
    rw [this]; exact iteF (kt hb.1 hb.2)
  · have : numB 0 9 (.int i) = false := by
      show (decide (0 ≤ i) && decide (i ≤ 9)) = false
      rw [Bool.and_eq_false_iff]
      by_cases h0 : 0 ≤ i
      · exact .inr (decide_eq_false fun z => hb ⟨h0, z⟩)
      · exact .inl (decide_eq_false h0)
    rw [this]; exact iteT (kf hb)
def sp_snp (K : PySem.W.Frag) : Sp := fun vs H Q _ => ∃ T_ ks, vs = [.ref T_] ∧ TapeAt K H T_ ks ∧ (∀ k ∈ ks, k.plain = true) ∧ ks.length ≤ 100 ∧ TabG H (tP K) ∧ ∀ H', Kq [] H H' → Q (.str (S (freeS ks))) H'
theorem sc_signs_not_put : FnScope ["keys", "key", "put"] ["keys"] (defScope s_signs_not_put) := ⟨rfl, rfl, rfl, by decide +kernel, rfl, by decide +kernel, by decide +kernel⟩
theorem ok_signs_not_put (T : Tx w K mg) (B2 : TabB base mg (cP K) (tP K)) (neP : ∀ q ∈ GT.l, q.1 ≠ tP K) : Fk P w K mg base 1 (Ad K d_signs_not_put.at_) ["keys"] (sp_snp K) := by
  obtain ⟨t_SIGNS, h_SIGNS⟩ := T.s_SIGNS
  refine mkF T.f_signs_not_put sc_signs_not_put rfl (fun _ _ _ _ _ _ us hl => match us, hl with | [_], _ => rfl) (fun vs H Q E h => by obtain ⟨_, _, rfl, _⟩ := h; rfl) (fun cdv A outer s H vs Q E hcd hcode hr h => ?_)
  refine ⟨_, (pss_cons (ps_asg (pe_lc (own := [("key", 1)]) (by rfl) sc_signs_not_put.nd (pi_tup (pv 0)) (blkOk_by (own := [("key", 1)]) (N := ["keys", "key", "put"]) (sc := defScope s_signs_not_put) (by decide +kernel)) (fun _ _ _ _ _ => (pg_name (i := 1) sc_signs_not_put.nd rfl (.inl rfl))) (fun _ _ _ _ _ => (pts_one (pt_cmpR op_eq (pe_ix (ix_tupB (K := K) rfl) (pv 1) pe_int (fun _ _ => rfl)) pe_str (nomark _)))) (fun _ _ _ _ _ => (pe_ix (ix_tupB (K := K) rfl) (pv 1) pe_int (fun _ _ => rfl)))) (pg_name (i := 2) sc_signs_not_put.nd rfl (.inr rfl)))
      (pss_one (ps_ret (pe_joinP (c := cP K) (P := tP K) (ix := 2) hr B2 hcode (genC_by (sc := defScope s_signs_not_put) (by decide +kernel)) pe_str (pe_glob (v := .str "abcdefghijklmnopqrstuvwxyzABCDEFGHIJKLMNOPQRSTUVWXYZ0123456789") (by rfl) h_SIGNS ⟨_, rfl⟩) rfl (show (defScope s_signs_not_put).names.lookup ("put" : Str) = some NameKind.cell by decide +kernel) (by decide +kernel) (fun _ => rfl))))), ?_⟩
  obtain ⟨T_, ks, rfl, ⟨as, h1, h2⟩, hok, hm, hT, kQ⟩ := h
  have hl := h2.len
  refine ⟨_, rfl, T_, rfl, ⟨_, h1⟩, fun D nD => ?_⟩
  refine lc_tup (K := K) (a := T_) (xs := as.map V.ref) (fun i H' => Kq [] H H' ∧ H' D = some (.lst ((puts (ks.take i)).map fun c => .str (S [c])))) ⟨Kq.alloc nD, upd_same⟩ (fun i H' _ z => z.1.tup h1) ?_ ?_
  · rintro i x H' hx ⟨k1, gD⟩
    rw [List.getElem?_map] at hx
    obtain ⟨kp, hkp, rfl⟩ := Option.map_eq_some_iff.mp hx
    obtain ⟨hi, ei⟩ := List.getElem?_eq_some_iff.mp hkp
    have hi' : i < ks.length := by rw [← hl]; exact hi
    have hki : KeyAt K H' kp ks[i] := by
      have := k1.key (h2.at_ hi hi')
      rw [ei] at this
      exact this
    have hp := hok _ (List.getElem_mem hi')
    have htake : puts (ks.take (i + 1)) = puts (ks.take i) ++ puts [ks[i]] := by
      rw [List.take_succ_eq_append_getElem hi']
      generalize ks.take i = l
      induction l with
      | nil => rfl
      | cons a l ih => rw [List.cons_append, puts_cons, ih, puts_cons a l, List.append_assoc]
    have hpl := puts_len (ks := ks.take i) fun k hk => hok k (List.mem_of_mem_take hk)
    rw [List.length_take] at hpl
    generalize ks[i] = k at hki hp htake
    obtain ⟨z, e1, _, e3⟩ := plain_head hp
    refine ⟨rfl, _, rfl, kp, keyV k, _, .str z, rfl, rfl, hki, at_of (j := 0) rfl e1, rfl, _, rfl, ?_⟩
    rcases e3 with ⟨x, rfl⟩ | e3
    · have : z = "put" := by
        have : some (V.str "put") = some (V.str z) := e1
        injection this with this
        injection this with this
        exact this.symm
      subst this
      rw [decide_eq_true rfl]
      refine iteT ⟨_, rfl, kp, _, _, .str (S [x]), rfl, rfl, hki, at_of (j := 1) rfl rfl, _, gD, smallM (by rw [List.length_map]; omega), k1.writeF nD gD, ?_⟩
      rw [upd_same, htake, List.map_append]; rfl
    · rw [e3]
      refine iteF ⟨k1, ?_⟩
      have hne : puts [k] = [] := by
        cases k with
        | put s => obtain ⟨x, rfl, _⟩ := plain_put hp; cases e1; exact absurd e3 (by decide +kernel)
        | _ => rfl
      rw [htake, hne, List.append_nil]; exact gD
  · rintro H' ⟨k1, gD⟩
    rw [List.length_map, hl, List.take_length] at gD
    have hf := freeS_len hok
    have hfl : (freeS ks).length ≤ 62 := by
      have := List.length_filter_le (fun c => !(puts ks).contains c) sgs
      rw [sgs_ok.2.1] at this
      exact this
    refine ⟨Str.ofString "", rfl, sgsS, D, (puts ks).map fun c => S [c], rfl, rfl, SqL.of (by rw [gD, List.map_map]; rfl), k1.tab _ hT, ?_, ?_, fun H3 t3 => ?_⟩
    · rw [picked_free]
      refine PyProof.Rows.joinOk_of_weight ?_ (by decide +kernel)
      rw [signs_len, List.length_map]; omega
    · rw [picked_free, List.length_map]; exact Nat.le_trans hfl (by rw [sizeLine_eq]; decide)
    · rw [picked_free, join_signs]
      exact kQ H3 (k1.trans (Kq.tabbedG t3 (k1.tab _ hT) neP))
end
end KT
set_option Elab.async false
set_option linter.all false
set_option maxRecDepth 100000
set_option maxHeartbeats 4000000
namespace KT
open PySem PySem.Spec PyProof.Rows L2 GxR
variable [GT]
theorem pg1_ok {s : Ln × Nat} (hc : s.2 ≤ s.1.length) (hl : s.1.length ≤ 60) (hs : ∀ c ∈ s.1, okSign c) : (pg1 s).Ok :=
  ⟨by show 1 ≤ 12; decide, fun l hm => by rw [List.mem_singleton.mp hm]; exact hl, by show 0 < 1; decide, hc, by show 0 ≤ 60; decide, fun l hm => by rw [List.mem_singleton.mp hm]; exact hs, fun c hc => by cases hc⟩
/-- so far all keys fit -/
def lfit {α : Type} (e : Nat → α) : List Ky → List α × Nat → Option (List α × Nat)
  | [], s => some s
  | k :: ks, s => (lstep e k s).bind (lfit e ks)
theorem lfit_app {α : Type} {e : Nat → α} : ∀ (ks ls : List Ky) (s : List α × Nat), lfit e (ks ++ ls) s = (lfit e ks s).bind (lfit e ls)
  | [], _, _ => rfl
  | k :: ks, ls, s => by
    show (lstep e k s).bind (lfit e (ks ++ ls)) = ((lstep e k s).bind (lfit e ks)).bind (lfit e ls)
    cases lstep e k s with
    | none => rfl
    | some s' => exact lfit_app ks ls s'
theorem lgo_of_fit {α : Type} {e : Nat → α} : ∀ (ks ls : List Ky) {s s' : List α × Nat}, lfit e ks s = some s' → lgo e (ks ++ ls) s = lgo e ls s'
  | [], ls, s, s', h => by cases h; rfl
  | k :: ks, ls, s, s', h => by
    have h : (lstep e k s).bind (lfit e ks) = some s' := h
    rw [List.cons_append, lgo_cons]
    cases hs : lstep e k s with
    | none => rw [hs] at h; cases h
    | some t => rw [hs] at h; exact lgo_of_fit ks ls h
theorem fit_step {α : Type} {e : Nat → α} {ks : List Ky} {i : Nat} {s si : List α × Nat} (hi : i < ks.length) (h : lfit e (ks.take i) s = some si) :
    (∀ t, lstep e ks[i] si = some t → lfit e (ks.take (i + 1)) s = some t) ∧ (lstep e ks[i] si = none → lgo e ks s = si) := by
  refine ⟨fun t ht => ?_, fun hn => ?_⟩
  · rw [List.take_succ_eq_append_getElem hi, lfit_app, h]
    show (lstep e ks[i] si).bind (lfit e []) = _
    rw [ht]; rfl
  · have e2 : ks = ks.take i ++ (ks[i] :: ks.drop (i + 1)) := by rw [List.getElem_cons_drop, List.take_append_drop]
    rw [e2, lgo_of_fit _ _ h, lgo_cons, hn]
theorem lgo_fit {α : Type} {e : Nat → α} {ks : List Ky} {s s' : List α × Nat} (h : lfit e ks s = some s') : lgo e ks s = s' := by
  have := lgo_of_fit ks [] h
  rwa [List.append_nil] at this
theorem lfit_ok {α : Type} {e : Nat → α} : ∀ (ks : List Ky) {s s' : List α × Nat}, lfit e ks s = some s' → s.2 ≤ s.1.length → s'.2 ≤ s'.1.length ∧ s'.1.length ≤ s.1.length + ks.length
  | [], s, s', h, hc => by cases h; exact ⟨hc, Nat.le_refl _⟩
  | k :: ks, s, s', h, hc => by
    have h : (lstep e k s).bind (lfit e ks) = some s' := h
    cases hs : lstep e k s with
    | none => rw [hs] at h; cases h
    | some t =>
      rw [hs] at h
      obtain ⟨h1, h2⟩ := lstep_ok hs hc
      obtain ⟨h3, h4⟩ := lfit_ok ks h h1
      exact ⟨h3, by show _ ≤ s.1.length + (ks.length + 1); omega⟩
theorem lfit_mem {α : Type} {e : Nat → α} : ∀ (ks : List Ky) {s s' : List α × Nat}, lfit e ks s = some s' → ∀ x ∈ s'.1, x ∈ s.1 ∨ ∃ c ∈ puts ks, x = e c
  | [], s, s', h, x, hx => by cases h; exact .inl hx
  | k :: ks, s, s', h, x, hx => by
    have h : (lstep e k s).bind (lfit e ks) = some s' := h
    rw [puts_cons]
    cases hs : lstep e k s with
    | none => rw [hs] at h; cases h
    | some t =>
      rw [hs] at h
      rcases lfit_mem ks h x hx with z | ⟨c, hc, z⟩
      · rcases lstep_mem hs x z with y | ⟨c, hc, y⟩
        · exact .inl y
        · exact .inr ⟨c, by simp [hc], y⟩
      · exact .inr ⟨c, by simp [hc], z⟩
theorem puts_ok : ∀ {ks : List Ky}, (∀ k ∈ ks, k.plain = true) → ∀ c ∈ puts ks, okSign c
  | [], _, c, hc => by cases hc
  | k :: ks, h, c, hc => by
    rw [puts_cons] at hc
    rcases List.mem_append.mp hc with z | z
    · have h1 := h k (by simp)
      cases k with
      | put s => obtain ⟨x, rfl, hx⟩ := plain_put h1; simp [puts] at z; rw [z]; exact hx
      | _ => simp [puts] at z
    · exact puts_ok (fun x hx => h x (by simp [hx])) c z
/-- what played tells -/
def PlAt2 (K : PySem.W.Frag) (H : Hp) (a : Addr) (s : Ln × Nat) : Prop := ∃ t, SqT K H a [.ref t, .int (s.2 : Int)] ∧ SqT K H t [.str (S s.1)]
theorem PlAt2.kq {K : PySem.W.Frag} {H H1 : Hp} {a : Addr} {s : Ln × Nat} (h : PlAt2 K H a s) (k : Kq [] H H1) : PlAt2 K H1 a s := by
  obtain ⟨q, h1, h2⟩ := h
  exact ⟨q, k.tup h1, k.tup h2⟩
def plD (s : Ln × Nat) : PyData := .tuple [.tuple [.str (S s.1)], .int (s.2 : Int)]
theorem PlAt2.dp {K : PySem.W.Frag} {H : Hp} {a : Addr} {s : Ln × Nat} (h : PlAt2 K H a s) : Dp K H (.ref a) (plD s) := by
  obtain ⟨q, h1, h2⟩ := h
  exact .tup h1 (.cons (.tup h2 (.cons (.str _) .nil)) (.cons (.int _) .nil))
theorem shaped_pl {s : Ln × Nat} (h : ∀ c ∈ s.1, okSign c) : SeqAt.shaped (plD s) = true := by
  have h1 := strOk_sig h
  unfold SeqAt.shaped
  have e1 : PyData.canLay0 (plD s) = true := by
    unfold plD
    simp [PyData.canLay0, PyData.canLayAll0, h1]
  have e2 : PyData.depth (plD s) = 2 := by
    unfold plD
    simp [PyData.depth, PyData.depthAll]
  rw [e1, e2]; rfl
theorem eqv_pl (s t : Ln × Nat) : PyData.eqv (plD s) (plD t) = decide (s = t) := by
  obtain ⟨a, b⟩ := s
  obtain ⟨c, d⟩ := t
  unfold plD
  simp only [PyData.eqv, PyData.eqvAll, Bool.and_true]
  by_cases h1 : a = c
  · subst h1
    by_cases h2 : b = d
    · subst h2; simp
    · have : ¬ ((b : Int) = d) := by omega
      simp [h2, this]
  · have : ¬ (S a = S c) := fun z => h1 (S_inj z)
    simp [h1, this]
section
variable {P : Program} {w : World} {K : PySem.W.Frag} {mg : Str → Option Value} {base : Heap}
def sp_played2 (K : PySem.W.Frag) : Sp := fun vs H Q _ => ∃ T_ ks s, vs = [.ref T_, .str (S s.1), .int (s.2 : Nat)] ∧ TapeAt K H T_ ks ∧ (∀ k ∈ ks, k.plain = true) ∧ s.2 ≤ s.1.length ∧ s.1.length + ks.length ≤ 60 ∧ (∀ c ∈ s.1, okSign c) ∧ ∀ q H', Kq [] H H' → PlAt2 K H' q (lgo id ks s) → Q (.ref q) H'
theorem sc_played : FnScope ["keys", "row", "column", "page", "key", "behind"] ["keys", "row", "column"] (defScope s_played) := ⟨rfl, rfl, rfl, by decide +kernel, rfl, by decide +kernel, by decide +kernel⟩
theorem ok_played (T : Tx w K mg) : Fk P w K mg base 7 (Ad K d_played.at_) ["keys", "row", "column"] (sp_played2 K) := by
  have F_Page___init__ := ok_Page___init__ (P := P) (base := base) T
  have F_page_behind := ok_page_behind (P := P) (base := base) T
  refine mkF T.f_played sc_played rfl (fun _ _ _ _ _ _ us hl => match us, hl with | [_, _, _], _ => rfl) (fun vs H Q E h => by obtain ⟨_, _, _, rfl, _⟩ := h; rfl) (fun cdv A outer s H vs Q E hcd hcode hr h => ?_)
  have po : PassesOwn (model P w) (CxD P w K mg base ["keys", "row", "column", "page", "key", "behind"] d_played cdv A outer s H E).A (CxD P w K mg base ["keys", "row", "column", "page", "key", "behind"] d_played cdv A outer s H E).env (CxD P w K mg base ["keys", "row", "column", "page", "key", "behind"] d_played cdv A outer s H E).xe := passes_of rfl
  refine ⟨_, (pss_cons (ps_asg (pe_kF (spN := sp_Page K) T.k_Page F_Page___init__ (hr.mono (by decide)) T.g_Page px new_Page (pa_cons (pe_tup (pa_cons (pv 1) pa_nil)) (pa_cons pe_int (pa_cons (pv 2) (pa_cons pe_str pa_nil))))) (pg_name (i := 3) sc_played.nd rfl (.inl rfl)))
      (C8.pss_cut (ps_for po rfl (pi_tup (pv 0)) (pg_name (i := 4) sc_played.nd rfl (.inl rfl)) (pss_cons (ps_asg (pe_cF F_page_behind (hr.mono (by decide)) T.g_page_behind px (pa_cons (pv 3) (pa_cons (pv 4) pa_nil))) (pg_name (i := 5) sc_played.nd rfl (.inl rfl)))
      (pss_cons (ps_if (pt_cmpR op_isN (pv 5) pe_non (nomark _)) (pss_one ps_break) pss_nil)
      (pss_one (ps_asg (pv 5) (pg_name (i := 3) sc_played.nd rfl (.inl rfl)))))))
      (pss_one (ps_ret (pe_tup (pa_cons (pe_fld (pv 3) rfl) (pa_cons (pe_fld (pv 3) rfl) pa_nil))))))), ?_⟩
  obtain ⟨T_, ks, s, rfl, ⟨as, h1, h2⟩, hok, hc, hl60, hsg, kQ⟩ := h
  refine ⟨_, rfl, line16 (by show 1 ≤ 1000000; decide), fun l nl => ?_⟩
  have kl : Kq [] H (upd H l (.tup [.str (S s.1)])) := Kq.alloc nl
  refine ⟨_, rfl, l, _, _, _, pg1 s, rfl, rfl, rfl, rfl, SqT.of upd_same, fun q H1 k1 hq => ?_⟩
  have hlen := h2.len
  refine ⟨fun σ' H' => ∃ p v4 v5, Kq [] H H' ∧ PageAt K H' p (pg1 (lgo id ks s)) ∧ σ' = [some (.ref T_), some (.str (S s.1)), some (.int (s.2 : Nat)), some (.ref p), v4, v5], ?_, ?_⟩
  · refine ⟨_, rfl, T_, rfl, ⟨_, (kl.trans k1).tup h1⟩, ?_⟩
    refine for_tup (K := K) (a := T_) (xs := as.map V.ref) (fun i σ H' => ∃ p si v4 v5, Kq [] H H' ∧ lfit id (ks.take i) s = some si ∧ PageAt K H' p (pg1 si) ∧ σ = [some (.ref T_), some (.str (S s.1)), some (.int (s.2 : Nat)), some (.ref p), v4, v5]) ⟨q, s, _, _, kl.trans k1, rfl, hq, rfl⟩ (fun i σ H' _ z => by obtain ⟨_, _, _, _, k, _⟩ := z; exact k.tup h1) ?_ ?_
    · rintro i x σ H' hx ⟨p, si, v4, v5, k, hfit, hp, rfl⟩
      rw [List.getElem?_map] at hx
      obtain ⟨kp, hkp, rfl⟩ := Option.map_eq_some_iff.mp hx
      obtain ⟨hi, ei⟩ := List.getElem?_eq_some_iff.mp hkp
      have hi' : i < ks.length := by rw [← hlen]; exact hi
      have hki : KeyAt K H' kp ks[i] := by
        have := k.key (h2.at_ hi hi')
        rw [ei] at this
        exact this
      have hpl := hok _ (List.getElem_mem hi')
      obtain ⟨s1, s2⟩ := fit_step hi' hfit
      obtain ⟨o1, o2⟩ := lfit_ok _ hfit hc
      rw [List.length_take] at o2
      have osg : ∀ c ∈ si.1, okSign c := fun c hc => by
        rcases lfit_mem _ hfit c hc with z | ⟨d, hd, z⟩
        · exact hsg c z
        · rw [z]; exact puts_ok (fun k hk => hok k (List.mem_of_mem_take hk)) d hd
      have hdl := does_line hpl (s := si) (by omega)
      generalize ks[i] = ky at hki hpl s1 s2 hdl
      obtain ⟨kok, ksg⟩ := plain_ok hpl
      refine ⟨_, rfl, _, rfl, p, kp, pg1 si, ky, rfl, hp, pg1_ok o1 (by omega) osg, hki, kok, ksg, fun H2 k2 hn => ?_, fun q2 H2 g2 k2 hg h2' => ?_⟩
      · rw [hdl] at hn
        have hn : lstep id ky si = none := by cases z : lstep id ky si with
          | none => rfl
          | some t => rw [z] at hn; cases hn
        refine ⟨_, rfl, rfl, _, rfl, iteT ⟨p, _, _, k.trans k2, ?_, rfl⟩⟩
        rw [s2 hn]; exact k2.page hp
      · rw [hdl] at hg
        obtain ⟨t, ht, rfl⟩ := Option.map_eq_some_iff.mp hg
        exact ⟨_, rfl, rfl, _, rfl, iteF ⟨_, rfl, q2, t, _, _, k.trans k2, s1 t ht, h2', rfl⟩⟩
    · rintro σ H' ⟨p, si, v4, v5, k, hfit, hp, rfl⟩
      rw [List.length_map, hlen, List.take_length] at hfit
      exact ⟨p, v4, v5, k, by rw [lgo_fit hfit]; exact hp, rfl⟩
  rintro σ' H' ⟨p, v4, v5, k, hp, rfl⟩
  refine ⟨_, rfl, rd_rows T hp fun t ht => ⟨_, rfl, rd_col T hp ⟨line16 (by show 2 ≤ 1000000; decide), fun r nr => ?_⟩⟩⟩
  have kr : Kq [] H' (upd H' r (.tup [.ref t, .int (lgo id ks s).2])) := Kq.alloc nr
  exact kQ r _ (k.trans kr) ⟨t, SqT.of upd_same, kr.tup ht⟩
end
end KT
set_option Elab.async false
set_option linter.all false
set_option maxRecDepth 100000
set_option maxHeartbeats 4000000
namespace KT
open PySem PySem.Spec PyProof.Rows L2 GxR
variable [GT]
theorem sc_alike : FnScope ["one", "other", "left", "right", "signs", "ahead", "behind", "row"] ["one", "other", "left", "right"] (defScope s_alike) := ⟨rfl, rfl, rfl, by decide +kernel, rfl, by decide +kernel, by decide +kernel⟩
theorem KeysAt.app {K : PySem.W.Frag} {H : Hp} {as bs : List Addr} {ks ls : List Ky} (h : KeysAt K H as ks) (h' : KeysAt K H bs ls) : KeysAt K H (as ++ bs) (ks ++ ls) := by
  induction h with
  | nil => exact h'
  | cons h _ ih => exact .cons h ih
section
variable {P : Program} {w : World} {K : PySem.W.Frag} {mg : Str → Option Value} {base : Heap}
/-- both tapes do the same with so many of the program's signs -/
def sameP (ks ls : List Ky) (a b : Nat) : Prop := lgo id ks ((freeS (ks ++ ls)).take (a + b), a) = lgo id ls ((freeS (ks ++ ls)).take (a + b), a)
instance (ks ls : List Ky) (a b : Nat) : Decidable (sameP ks ls a b) := by unfold sameP; infer_instance
def sp_alikeP (K : PySem.W.Frag) : Sp := fun vs H Q _ => ∃ A B' ks ls l r, vs = [.ref A, .ref B', .int (l : Nat), .int (r : Nat)] ∧ TapeAt K H A ks ∧ TapeAt K H B' ls ∧ (∀ k ∈ ks, k.plain = true) ∧ (∀ k ∈ ls, k.plain = true) ∧ ks.length ≤ 6 ∧ ls.length ≤ 6 ∧ l ≤ 9 ∧ r ≤ 9 ∧ TabG H (tS K) ∧ TabG H (tP K) ∧
  ((∀ a b, l ≤ a → a ≤ 20 → r ≤ b → b ≤ 20 → sameP ks ls a b) → ∀ H', Kq [] H H' → Q .non H') ∧
  ∀ a b q H', l ≤ a → a ≤ 20 → r ≤ b → b ≤ 20 → ¬ sameP ks ls a b → Kq [] H H' → SqT K H' q [.str (S ((freeS (ks ++ ls)).take (a + b))), .int (a : Nat)] → Q (.ref q) H'
theorem ok_alike_def (T : Tx w K mg) (B : TabB base mg (cS K) (tS K)) (B2 : TabB base mg (cP K) (tP K)) (neP : ∀ q ∈ GT.l, q.1 ≠ tP K) : Fk P w K mg base 9 (Ad K d_alike.at_) ["one", "other", "left", "right"] (sp_alikeP K) := by
  obtain ⟨t_MOST_BESIDE, h_MOST_BESIDE⟩ := T.i_MOST_BESIDE
  have F_check_number := ok_check_number (P := P) (base := base) T
  have F_check_plain_keys := ok_check_plain_keys (P := P) (base := base) T B
  have F_played := ok_played (P := P) (base := base) T
  have F_signs_not_put := ok_signs_not_put (P := P) (base := base) T B2 neP
  refine mkF T.f_alike sc_alike rfl (fun _ _ _ _ _ _ us hl => match us, hl with | [_, _, _, _], _ => rfl) (fun vs H Q E h => by obtain ⟨_, _, _, _, _, _, rfl, _⟩ := h; rfl) (fun cdv A outer s H vs Q E hcd hcode hr h => ?_)
  have po : PassesOwn (model P w) (CxD P w K mg base ["one", "other", "left", "right", "signs", "ahead", "behind", "row"] d_alike cdv A outer s H E).A (CxD P w K mg base ["one", "other", "left", "right", "signs", "ahead", "behind", "row"] d_alike cdv A outer s H E).env (CxD P w K mg base ["one", "other", "left", "right", "signs", "ahead", "behind", "row"] d_alike cdv A outer s H E).xe := passes_of rfl
  refine ⟨_, (pss_cons (ps_expr (pe_cF F_check_plain_keys (hr.mono (by decide)) T.g_check_plain_keys px (pa_cons (pv 0) pa_nil)))
      (pss_cons (ps_expr (pe_cF F_check_plain_keys (hr.mono (by decide)) T.g_check_plain_keys px (pa_cons (pv 1) pa_nil)))
      (pss_cons (ps_expr (pe_cF F_check_number (hr.mono (by decide)) T.g_check_number px (pa_cons (pv 2) pa_nil)))
      (pss_cons (ps_expr (pe_cF F_check_number (hr.mono (by decide)) T.g_check_number px (pa_cons (pv 3) pa_nil)))
      (pss_cons (ps_asg (pe_cF F_signs_not_put (hr.mono (by decide)) T.g_signs_not_put px (pa_cons (pe_op op_catU (pv 0) (pv 1)) pa_nil)) (pg_name (i := 4) sc_alike.nd rfl (.inl rfl)))
      (pss_cons (ps_for po rfl (pi_range2 (by rfl) T.n_range (pa_cons (pv 2) (pa_cons (pe_op op_add (pe_glob (v := .int 20) (by rfl) h_MOST_BESIDE ⟨_, rfl⟩) pe_int) pa_nil))) (pg_name (i := 5) sc_alike.nd rfl (.inl rfl)) (pss_one (ps_for po rfl (pi_range2 (by rfl) T.n_range (pa_cons (pv 3) (pa_cons (pe_op op_add (pe_glob (v := .int 20) (by rfl) h_MOST_BESIDE ⟨_, rfl⟩) pe_int) pa_nil))) (pg_name (i := 6) sc_alike.nd rfl (.inl rfl)) (pss_cons (ps_asg (pe_slice sl_str (pv 4) po_none (po_some (pe_op op_add (pv 5) (pv 6)))) (pg_name (i := 7) sc_alike.nd rfl (.inl rfl)))
      (pss_one (ps_if (pt_cmpR (op_neD hr.units) (pe_cF F_played (hr.mono (by decide)) T.g_played px (pa_cons (pv 0) (pa_cons (pv 7) (pa_cons (pv 5) pa_nil)))) (pe_cF F_played (hr.mono (by decide)) T.g_played px (pa_cons (pv 1) (pa_cons (pv 7) (pa_cons (pv 5) pa_nil)))) (nomark _)) (pss_one (ps_ret (pe_tup (pa_cons (pv 7) (pa_cons (pv 5) pa_nil))))) pss_nil))))))
      (pss_one (ps_ret pe_non)))))))), ?_⟩
  obtain ⟨A, B', ks, ls, l, r, rfl, hA, hB, pk, pl, lk, ll, hl, hr, hT, hT2, kN, kS⟩ := h
  refine ⟨_, rfl, A, ks, rfl, hA, pk, lk, hT, fun H1 k1 => ?_⟩
  refine ⟨_, rfl, B', ls, rfl, k1.tape hB, pl, ll, k1.tab _ hT, fun H2 k2 => ?_⟩
  refine ⟨_, rfl, (l : Int), rfl, fun _ _ => ?_, fun z => absurd (show 0 ≤ (l : Int) ∧ (l : Int) ≤ 9 by omega) z⟩
  refine ⟨_, rfl, (r : Int), rfl, fun _ _ => ?_, fun z => absurd (show 0 ≤ (r : Int) ∧ (r : Int) ≤ 9 by omega) z⟩
  have k02 := k1.trans k2
  obtain ⟨as, sA, cA⟩ := k02.tape hA
  obtain ⟨bs, sB, cB⟩ := k02.tape hB
  have lA := cA.len
  have lB := cB.len
  refine ⟨_, rfl, _, rfl, A, B', _, _, rfl, rfl, sA, sB, line16 (by rw [List.length_map, List.length_map]; omega), fun q H3 k3 hq => ?_⟩
  rw [← List.map_append] at hq
  have k03 := k02.trans k3
  have pkl : ∀ k ∈ ks ++ ls, k.plain = true := fun k hk => (List.mem_append.mp hk).elim (pk k) (pl k)
  refine ⟨q, ks ++ ls, rfl, ⟨_, hq, (k3.keys cA).app (k3.keys cB)⟩, pkl, by rw [List.length_append]; omega, k03.tab _ hT2, fun H4 k4 => ?_⟩
  have k04 := k03.trans k4
  have hfl := freeS_len pkl
  rw [List.length_append] at hfl
  have hfu : (freeS (ks ++ ls)).length ≤ 62 := by
    have := List.length_filter_le (fun c => !(puts (ks ++ ls)).contains c) sgs
    rw [sgs_ok.2.1] at this
    exact this
  have hfo : ∀ c ∈ freeS (ks ++ ls), okSign c := fun c hc => freeS_ok hc
  generalize hF : freeS (ks ++ ls) = F at hfl hfo hfu kS
  have hS' : ∀ a b, sameP ks ls a b ↔ lgo id ks (F.take (a + b), a) = lgo id ls (F.take (a + b), a) := fun a b => by unfold sameP; rw [hF]
  clear sA sB cA cB hq k3 k03 k4 k2 k1 k02
  refine ⟨_, rfl, _, _, rfl, rfl, (l : Int), _, rfl, ⟨by omega, by omega, by omega, by omega⟩, ?_⟩
  refine for_range (lo := (l : Int)) (n := ((20 + 1 : Int) - (l : Int)).toNat) (fun i σ H' => Kq [] H H' ∧ (∀ a b, l ≤ a → a < l + i → r ≤ b → b ≤ 20 → sameP ks ls a b) ∧ ∃ v5 v6 v7, σ = [some (.ref A), some (.ref B'), some (.int (l : Nat)), some (.int (r : Nat)), some (.str (S F)), v5, v6, v7]) ⟨k04, (fun a b h1 h2 => by omega), none, none, none, rfl⟩ ?_ ?_
  rotate_left
  · rintro σ H' ⟨k, hs, v5, v6, v7, rfl⟩
    exact kN (fun a b h1 h2 h3 h4 => hs a b h1 (by omega) h3 h4) H' k
  rintro i σ H5 hi ⟨k05, hs, v5, v6, v7, rfl⟩
  have hi20 : l + i ≤ 20 := by omega
  refine ⟨_, rfl, _, _, rfl, rfl, (r : Int), _, rfl, ⟨by omega, by omega, by omega, by omega⟩, ?_⟩
  refine for_range (lo := (r : Int)) (n := ((20 + 1 : Int) - (r : Int)).toNat) (fun j σ H' => Kq [] H H' ∧ (∀ b, r ≤ b → b < r + j → sameP ks ls (l + i) b) ∧ ∃ v6 v7, σ = [some (.ref A), some (.ref B'), some (.int (l : Nat)), some (.int (r : Nat)), some (.str (S F)), some (.int ((l : Int) + (i : Int))), v6, v7]) ⟨k05, (fun b h1 h2 => by omega), _, _, rfl⟩ ?_ ?_
  rotate_left
  · rintro σ H' ⟨k, hs2, v6, v7, rfl⟩
    refine ⟨k, fun a b h1 h2 h3 h4 => ?_, _, _, _, rfl⟩
    by_cases e : a = l + i
    · rw [e]; exact hs2 b h3 (by omega)
    · exact hs a b h1 (by omega) h3 h4
  rintro j σ H6 hj ⟨k06, hs2, v6', v7', rfl⟩
  have hj20 : r + j ≤ 20 := by omega
  have hlen : (S F).length = F.length := S_len F
  have hrow : (F.take ((l + i) + (r + j))).length = (l + i) + (r + j) := by rw [List.length_take]; omega
  have esum : ((l : Int) + (i : Int)) + ((r : Int) + (j : Int)) = (((l + i) + (r + j) : Nat) : Int) := by omega
  have esl : ((l : Int) + (i : Int)) = ((l + i : Nat) : Int) := by omega
  refine ⟨_, rfl, _, rfl, _, rfl, _, _, rfl, rfl, _, rfl, _, rfl, S16 (by omega), ?_⟩
  rw [cut_to F (n := (l + i) + (r + j)) esum]
  have hsg : ∀ c ∈ F.take ((l + i) + (r + j)), okSign c := fun c hc => hfo c (List.mem_of_mem_take hc)
  have sg : ∀ {ts : List Ky}, (∀ k ∈ ts, k.plain = true) → ∀ c ∈ (lgo id ts (F.take ((l + i) + (r + j)), l + i)).1, okSign c := fun {ts} hp c hc => by
    rcases lgo_mem ts _ c hc with z | ⟨d, hd, z⟩
    · exact hsg c z
    · rw [z]; exact puts_ok hp d hd
  refine ⟨_, rfl, _, rfl, _, rfl, A, ks, (F.take ((l + i) + (r + j)), l + i), by rw [esl], k06.tape hA, pk, by show l + i ≤ (F.take ((l + i) + (r + j))).length; omega, by show (F.take ((l + i) + (r + j))).length + ks.length ≤ 60; omega, hsg, fun q1 H7 k7 hq1 => ?_⟩
  refine ⟨_, rfl, _, rfl, _, rfl, B', ls, (F.take ((l + i) + (r + j)), l + i), by rw [esl], (k06.trans k7).tape hB, pl, by show l + i ≤ (F.take ((l + i) + (r + j))).length; omega, by show (F.take ((l + i) + (r + j))).length + ls.length ≤ 60; omega, hsg, fun q2 H8 k8 hq2 => ?_⟩
  refine ⟨plD _, plD _, (hq1.kq k8).dp, hq2.dp, shaped_pl (sg pk), shaped_pl (sg pl), _, rfl, ?_⟩
  rw [eqv_pl]
  have k08 := k06.trans (k7.trans k8)
  refine iteN (fun hne => ?_) (fun heq => ?_)
  · refine ⟨_, rfl, _, rfl, line16 (by show 2 ≤ 1000000; decide), fun q nq => ?_⟩
    refine kS (l + i) (r + j) q _ (by omega) hi20 (by omega) hj20 (fun z => hne ((hS' _ _).mp z)) (k08.trans (Kq.alloc nq)) ?_
    rw [← esl]; exact SqT.of upd_same
  · refine ⟨k08, fun b h1 h2 => ?_, _, _, rfl⟩
    by_cases e : b = r + j
    · rw [e]; exact (hS' _ _).mpr heq
    · exact hs2 b h1 (by omega)
end
end KT
set_option Elab.async false
set_option linter.all false
set_option maxRecDepth 100000
set_option maxHeartbeats 4000000
namespace KT
open PySem PySem.Spec PyProof.Rows L2 GxR
/-! ### t[::-1] of a tuple -/
section
variable {prog : Program} {w : World} {A : Around} {E : Value → Shared → Prop} {s : Shared}
theorem sliceApplied_rev {sl : Addr} {vs : Value} {n : Nat} {Q : Int × Int × Nat → Shared → Prop} (hs : s.heap.IsSliceOf sl .none .none vs) (ps : IsPart vs (some (-1)))
    (h : Q (((n : Int) - 1), -1, n) s) : wpAny (model prog w) A (Builtin.Slice.sliceApplied (.ref sl) (pure (n : Int))) Q E s := by
  obtain ⟨os, hos, hcs, hds⟩ := id hs
  unfold Builtin.Slice.sliceApplied Builtin.Slice.sliceFields
  refine wpAny_bind (wpAny_bind (wpAny_field hos hds (x := .none) rfl (wpAny_bind (wpAny_field hos hds (x := .none) rfl (wpAny_bind (wpAny_field hos hds (x := vs) rfl (wpAny_pure ?_)))))))
  refine wpAny_bind (HT.slicePart_ ps ?_)
  show wpAny _ _ (if ((-1 : Int) == 0) = true then _ else _) _ _ s
  rw [if_neg (by decide)]
  refine wpAny_bind (HT.slicePart_ .none (wpAny_bind (HT.slicePart_ .none (wpAny_bind (wpAny_pure ?_)))))
  show wpAny _ _ (match Builtin.Slice.sliceAdjust none none (-1) (n : Int) with | (lo, hi) => pure (lo, (-1 : Int), Builtin.Slice.slicePlaces lo hi (-1))) _ _ s
  have e1 : Builtin.Slice.sliceAdjust none none (-1) (n : Int) = ((n : Int) - 1, -1) := rfl
  rw [e1]
  show wpAny _ _ (pure ((n : Int) - 1, (-1 : Int), Builtin.Slice.slicePlaces ((n : Int) - 1) (-1) (-1))) _ _ s
  have e2 : Builtin.Slice.slicePlaces ((n : Int) - 1) (-1) (-1) = n := by
    unfold Builtin.Slice.slicePlaces
    rw [if_neg (by decide)]
    by_cases hn : (n : Int) - 1 > -1
    · rw [if_pos hn, show (- (-1 : Int)) = 1 by decide, Int.ediv_one]; omega
    · rw [if_neg hn]; omega
  rw [e2]
  exact wpAny_pure h
theorem rev_pick (items : Array Value) : ((List.range items.size).filterMap fun (k : Nat) => items[(((items.size : Int) - 1) + (k : Int) * (-1)).toNat]?) = items.toList.reverse := by
  refine List.ext_getElem? fun i => ?_
  have h : ∀ k ∈ List.range items.size, items[(((items.size : Int) - 1) + (k : Int) * (-1)).toNat]? = some (items.toList.reverse.getD k .none) := fun k hk => by
    have hk := List.mem_range.mp hk
    have e : (((items.size : Int) - 1) + (k : Int) * (-1)).toNat = items.size - 1 - k := by omega
    rw [e, List.getD_eq_getElem?_getD, List.getElem?_reverse (by simpa using hk)]
    have hl : items.size - 1 - k < items.size := by omega
    rw [show items.toList.length - 1 - k = items.size - 1 - k by simp, Array.getElem?_toList, Array.getElem?_eq_getElem hl]; rfl
  have h2 : ((List.range items.size).filterMap fun (k : Nat) => items[(((items.size : Int) - 1) + (k : Int) * (-1)).toNat]?) = (List.range items.size).map fun k => items.toList.reverse.getD k .none := by
    have gen : ∀ (l : List Nat) (f : Nat → Option Value) (g : Nat → Value), (∀ k ∈ l, f k = some (g k)) → l.filterMap f = l.map g := by
      intro l f g hfg
      induction l with
      | nil => rfl
      | cons x r ih => rw [List.filterMap_cons, hfg x (by simp), List.map_cons, ih fun k hk => hfg k (by simp [hk])]
    exact gen _ _ _ h
  rw [h2]
  have h3 : (List.range items.size).map (fun k => items.toList.reverse.getD k .none) = items.toList.reverse := by
    refine List.ext_getElem (by simp) fun j h1 h2 => ?_
    rw [List.getElem_map, List.getElem_range, List.getD_eq_getElem?_getD, List.getElem?_eq_getElem h2]; rfl
  rw [h3]
theorem getItem_tuple_rev {t sl : Addr} {items : Array Value} {vs : Value} {Q : Value → Shared → Prop} (ht : IsTup s.heap t items) (hs : s.heap.IsSliceOf sl .none .none vs) (ps : IsPart vs (some (-1)))
    (hw : ¬ (items.size = 0)) (h : Q (.ref s.heap.objs.size) { s with heap := s.heap.push { cls := .type "tuple", data := .seq items.toList.reverse.toArray } })
    (hsz : items.size ≤ sizeLine) : wpAny (model prog w) A (getItem (.ref t) (.ref sl)) Q E s := by
  have htake : sizeOk (.seq items.toList.reverse.toArray) := by
    show items.toList.reverse.toArray.size ≤ sizeLine
    rw [List.size_toArray, List.length_reverse, Array.length_toList]
    exact hsz
  obtain ⟨os, hos, hcs, hds⟩ := id hs
  have hTs : s.TypeIs (.ref sl) "slice" := ⟨os, hos, hcs⟩
  unfold getItem
  try with_reducible refine wpAny_holding ?_
  first | refine wpAny_bind (wpAny_pure ?_) | skip
  refine wpAny_bind (wpAny_sequenceKey ht.typeIs (by decide) ?_)
  refine wpAny_bind (wpAny_callSpecial?_slot (name := Str.ofString "__getitem__") ht.typeIs PyProof.Rows.slot_tuple_getitem
    (wpAny_call_entry PyProof.Rows.slot_tuple_getitem ht.typeIs F.entry_tuple_getitem ?_ (F.args_tuple_getitem_2 _ _)))
  show wpAny _ _ (Builtin.Tuple.tupleItemsOf (.ref t) >>= _) _ _ s
  refine wpAny_bind (PyProof.Rows.tupleItemsOf_ ht ?_)
  refine wpAny_bind (wpAny_typeOf hTs ?_)
  rw [if_pos (by decide)]
  refine wpAny_bind (sliceApplied_rev hs ps ?_)
  have hno : ¬ ((((items.size : Int) - 1) == 0 && (-1 : Int) == 1 && items.size == items.size) = true) := by
    intro q
    rw [Bool.and_eq_true, Bool.and_eq_true] at q
    exact absurd q.1.2 (by decide)
  show wpAny _ _ (if ((((items.size : Int) - 1) == 0 && (-1 : Int) == 1 && items.size == items.size) = true) then _ else _) _ _ s
  rw [if_neg hno, rev_pick]
  first
    | exact wpAny_bind (m := Builtin.Tuple.tupleExact _) (wpAny_newObj_type (wpAny_pure ⟨_, rfl, wpAny_pure h⟩) htake)
    | exact wpAny_bind (m := Builtin.Tuple.tupleExact _) (wpAny_newObj_type (wpAny_bind (wpAny_pure (wpAny_pure ⟨_, rfl, wpAny_pure h⟩))) htake)
    | exact wpAny_bind (wpAny_bind (m := Builtin.Tuple.tupleExact _) (wpAny_newObj_type (wpAny_pure (wpAny_pure ⟨_, rfl, wpAny_pure h⟩)) htake))
end
def tRevT (K : PySem.W.Frag) (te : TE) : TE := fun σ H Q => te σ H fun x H1 => ∃ a xs, x = .ref a ∧ SqT K H1 a xs ∧ xs ≠ [] ∧ ∀ p, H1 p = none → Q (.ref p) (upd H1 p (.tup xs.reverse))
theorem pe_revT {X : Cx} {e : Expr} {te : TE} {k : Nat} {p1 p2 p3 pos : Pos} (he : PE X e te) : PE X (.Subscript e (.Slice none none (some (.UnaryOp .USub (.Constant (.int 1) k p1) p2)) p3) pos) (tRevT X.K te) := by
  refine ⟨fun pins s σ H Q I h => ?_⟩
  refine Subscript_ (thn (he.run pins s σ H _ I h) fun v s1 ⟨x, H1, I1, r1, q1⟩ => ?_)
  obtain ⟨a, xs, ex, hx, hne, q⟩ := q1
  subst ex
  cases r1
  have hst : PO X (some (.UnaryOp .USub (.Constant (.int 1) k p1) p2)) (tPart (tUn (rU fun i => .int (-i)) (tC (.int 1)))) := po_some (pe_un un_neg pe_int)
  refine wpAny_Slice (thn (po_none.run pins s1 σ H1 (fun o H2 => o = none ∧ H2 = H1) I1 ⟨rfl, rfl⟩) fun vl s2 ⟨l, H2, I2, pl, el, e2⟩ => ?_)
  subst el e2
  refine thn (po_none.run pins s2 σ H2 (fun o H3 => o = none ∧ H3 = H2) I2 ⟨rfl, rfl⟩) fun vu s3 ⟨u, H3, I3, pu, eu, e3⟩ => ?_
  subst eu e3
  refine thn (hst.run pins s3 σ H3 (fun o H4 => o = some (-1) ∧ H4 = H3) I3 ⟨1, rfl, -1, rfl, rfl, rfl⟩) fun vs s4 ⟨o, H4, I4, ps, eo, e4⟩ => ?_
  subst eo e4
  cases pl
  cases pu
  have I5 : Inv X pins σ H4 { s4 with heap := s4.heap.push { cls := .type "slice", data := .fields #[.none, .none, vs] } } := I4.kept (t' := s4.toks) fun b ob q => Heap.get?_push_of_some _ q
  obtain ⟨its, r, ht, hz⟩ := I5.tuple hx
  have hlen := r.length
  show wpAny (model X.prog X.w) X.A (subscriptTail e (.Slice none none (some (.UnaryOp .USub (.Constant (.int 1) k p1) p2)) p3) (.ref a) (.ref s4.heap.objs.size)) (EP X pins σ Q) X.xe { s4 with heap := s4.heap.push { cls := .type "slice", data := .fields #[.none, .none, vs] } }
  refine tail_any (ops := [.ref a, .ref s4.heap.objs.size]) ht.typeIs (PyProof.Rows.slot_tuple_getitem.lookup) ?_ (by with_unfolding_all rfl)
  have h0 : xs.length ≠ 0 := fun e => hne (List.length_eq_zero_iff.mp e)
  refine getItem_tuple_rev ht (Heap.IsSliceOf.new _ .none .none vs) ps (by rw [List.size_toArray]; omega) ?_ (by rw [List.size_toArray]; omega)
  refine ⟨.ref _, _, I5.laid (t' := s4.toks) (o := .tup xs.reverse) (fun b ob q => Heap.get?_push_of_some _ q) (Nat.le_refl _) ?_, rfl, q _ (I5.hok.fresh (Nat.le_refl _))⟩
  exact ⟨by rw [List.length_reverse]; omega, _, by simpa using r.reverse, IsTup.new _ _⟩
end KT
set_option Elab.async false
set_option linter.all false
set_option maxRecDepth 100000
set_option maxHeartbeats 4000000
namespace KT
open PySem PySem.Spec PyProof.Rows L2 GxR
variable [GT]
/-! ### tapes held against tapes -/
def vD : V → PyData
  | .str z => .str z
  | .int i => .int i
  | _ => .none
def keyD (k : Ky) : PyData := .tuple ((keyV k).map vD)
def tapeD (ks : List Ky) : PyData := .tuple (ks.map keyD)
theorem dp_small {K : PySem.W.Frag} {H : Hp} : ∀ xs : List V, (∀ x ∈ xs, smallV x) → DpAll K H xs (xs.map vD)
  | [], _ => .nil
  | x :: r, h => by
    have h1 := h x (by simp)
    have h2 := dp_small (K := K) (H := H) r fun y hy => h y (by simp [hy])
    cases x with
    | str z => exact .cons (.str z) h2
    | int i => exact .cons (.int i) h2
    | _ => exact h1.elim
theorem dp_keys {K : PySem.W.Frag} {H : Hp} {as : List Addr} {ks : List Ky} (h : KeysAt K H as ks) (hok : ∀ k ∈ ks, k.Ok) : DpAll K H (as.map V.ref) (ks.map keyD) := by
  induction h with
  | nil => exact .nil
  | @cons a k as ks h _ ih => exact .cons (.tup h (dp_small _ (keyV_small (hok k (by simp))))) (ih fun x hx => hok x (by simp [hx]))
theorem strOk_name {n : Nat} (h : n < 8) : PyData.strOk (nameS n) = true := strOk_sig (l := [97 + n]) fun c hc => by rw [List.mem_singleton.mp hc]; exact ⟨by omega, by omega⟩
theorem lay_key {k : Ky} (h : k.Ok) : PyData.canLay0 (keyD k) = true := by
  have e : PyData.canLay0 (keyD k) = PyData.canLayAll0 ((keyV k).map vD) := by unfold keyD; simp [PyData.canLay0]
  rw [e]
  cases k with
  | put s =>
    have := strOk_sig h.2
    have w0 : PyData.strOk "put" = true := by decide +kernel
    simp [keyV, vD, PyData.canLayAll0, PyData.canLay0, this, w0]
  | find s =>
    have := strOk_sig h.2.2
    have w0 : PyData.strOk "find" = true := by decide +kernel
    simp [keyV, vD, PyData.canLayAll0, PyData.canLay0, this, w0]
  | play n m =>
    have := strOk_name h.1
    have w0 : PyData.strOk "play" = true := by decide +kernel
    simp [keyV, vD, PyData.canLayAll0, PyData.canLay0, this, w0]
  | till n =>
    have := strOk_name h
    have w0 : PyData.strOk "till" = true := by decide +kernel
    simp [keyV, vD, PyData.canLayAll0, PyData.canLay0, this, w0]
  | _ => decide +kernel
theorem lay_keys : ∀ ks : List Ky, (∀ k ∈ ks, k.Ok) → PyData.canLayAll0 (ks.map keyD) = true
  | [], _ => rfl
  | k :: r, h => by
    show (PyData.canLay0 (keyD k) && PyData.canLayAll0 (r.map keyD)) = true
    rw [lay_key (h k (by simp)), lay_keys r fun x hx => h x (by simp [hx])]; rfl
theorem depth_small : ∀ xs : List V, PyData.depthAll (xs.map vD) = 0
  | [] => rfl
  | x :: r => by
    show max (PyData.depth (vD x)) (PyData.depthAll (r.map vD)) = 0
    rw [depth_small r]
    cases x <;> rfl
theorem depth_keys : ∀ ks : List Ky, PyData.depthAll (ks.map keyD) ≤ 1
  | [] => by decide
  | k :: r => by
    have h1 : PyData.depth (keyD k) = PyData.depthAll ((keyV k).map vD) + 1 := by unfold keyD; simp [PyData.depth]
    have h2 := depth_keys r
    show max (PyData.depth (keyD k)) (PyData.depthAll (r.map keyD)) ≤ 1
    rw [h1, depth_small]
    omega
/-! ### lists of keys held against lists of keys -/
def keysD (ks : List Ky) : PyData := .list (ks.map keyD)
theorem dp_list {K : PySem.W.Frag} {H : Hp} {a : Addr} {as : List Addr} {ks : List Ky} (h : H a = some (.lst (as.map V.ref))) (hk : KeysAt K H as ks) (hok : ∀ k ∈ ks, k.Ok) : Dp K H (.ref a) (keysD ks) := .lst (SqL.of h) (dp_keys hk hok)
theorem shaped_keys {ks : List Ky} (h : ∀ k ∈ ks, k.Ok) : SeqAt.shaped (keysD ks) = true := by
  unfold SeqAt.shaped
  have h1 : PyData.canLay0 (keysD ks) = PyData.canLayAll0 (ks.map keyD) := by unfold keysD; simp [PyData.canLay0]
  have h2 : PyData.depth (keysD ks) = PyData.depthAll (ks.map keyD) + 1 := by unfold keysD; simp [PyData.depth]
  have h3 := depth_keys ks
  rw [h1, h2, lay_keys ks h, Bool.true_and]
  exact decide_eq_true (by omega)
theorem eqv_keys {ks : List Ky} (h : ∀ k ∈ ks, k.Ok) : PyData.eqv (keysD ks) (keysD ks) = true := SeqAt.eqv_refl _ (SeqAt.canLay_of_shaped (shaped_keys h))
end KT
set_option Elab.async false
set_option linter.all false
set_option maxRecDepth 100000
set_option maxHeartbeats 4000000
namespace KT
open PySem PySem.Spec PyProof.Rows L2 GxR
variable [GT]
/-! ### plain tapes drawn -/
def PlKey (K : PySem.W.Frag) (H : Hp) (x : Addr) : Prop := ∃ k, KeyAt K H x k ∧ k.plain = true
def PlTup (K : PySem.W.Frag) (H : Hp) (T : Addr) (n : Nat) : Prop := ∃ as : List Addr, SqT K H T (as.map V.ref) ∧ (∀ x ∈ as, PlKey K H x) ∧ as.length ≤ n
section
variable {K : PySem.W.Frag} {H H1 : Hp} {S : List Addr}
theorem PlKey.kq {x : Addr} (h : PlKey K H x) (k : Kq [] H H1) : PlKey K H1 x := by obtain ⟨y, h1, h2⟩ := h; exact ⟨y, k.key h1, h2⟩
theorem PlKey.kf {x : Addr} (h : PlKey K H x) (k : Kf S H H1) : PlKey K H1 x := by obtain ⟨y, h1, h2⟩ := h; exact ⟨y, k.key h1, h2⟩
theorem PlTup.kq {T : Addr} {n : Nat} (h : PlTup K H T n) (k : Kq [] H H1) : PlTup K H1 T n := by
  obtain ⟨as, h1, h2, h3⟩ := h
  exact ⟨as, k.tup h1, fun x hx => (h2 x hx).kq k, h3⟩
theorem PlTup.kf {T : Addr} {n : Nat} (h : PlTup K H T n) (k : Kf S H H1) : PlTup K H1 T n := by
  obtain ⟨as, h1, h2, h3⟩ := h
  exact ⟨as, k.tup h1, fun x hx => (h2 x hx).kf k, h3⟩
theorem pl_keys : ∀ {as : List Addr}, (∀ x ∈ as, PlKey K H x) → ∃ ks, KeysAt K H as ks ∧ ∀ k ∈ ks, k.plain = true
  | [], _ => ⟨[], .nil, by simp⟩
  | a :: as, h => by
    obtain ⟨k, h1, h2⟩ := h a (by simp)
    obtain ⟨ks, h3, h4⟩ := pl_keys (as := as) fun x hx => h x (by simp [hx])
    exact ⟨k :: ks, .cons h1 h3, fun x hx => by rcases List.mem_cons.mp hx with rfl | z <;> first | exact h2 | exact h4 x z⟩
theorem PlTup.tape {T : Addr} {n : Nat} (h : PlTup K H T n) : ∃ ks, TapeAt K H T ks ∧ (∀ k ∈ ks, k.plain = true) ∧ ks.length ≤ n := by
  obtain ⟨as, h1, h2, h3⟩ := h
  obtain ⟨ks, h4, h5⟩ := pl_keys h2
  exact ⟨ks, ⟨as, h1, h4⟩, h5, by rw [← h4.len]; exact h3⟩
end
theorem cut_take (xs : List V) {i : Int} {n : Nat} (e : i = (n : Int)) : cutV xs none (some i) = xs.take n := by
  subst e
  unfold cutV
  rw [show HT.sIx xs.length 0 none = 0 from rfl, HT.sIx_nat]
  rw [List.drop_zero, Nat.sub_zero]
  by_cases h : n ≤ xs.length
  · rw [Nat.min_eq_left h]
  · rw [Nat.min_eq_right (by omega), List.take_length, List.take_of_length_le (by omega)]
theorem cut_drop (xs : List V) {i : Int} {n : Nat} (e : i = (n : Int)) : cutV xs (some i) none = xs.drop n := by
  subst e
  unfold cutV
  rw [show HT.sIx xs.length xs.length none = xs.length from rfl, HT.sIx_nat]
  by_cases h : n ≤ xs.length
  · rw [Nat.min_eq_left h, List.take_of_length_le (by rw [List.length_drop]; exact Nat.le_refl _)]
  · rw [Nat.min_eq_right (by omega), List.drop_length, List.drop_of_length_le (by omega), List.take_nil]
def xyabS : Str := Str.ofString "xyab"
theorem xyab_ok : xyabS.cps.toList.length = 4 ∧ (∀ c ∈ xyabS.cps.toList, okSign c) ∧ xyabS.length = 4 := by decide +kernel
theorem ones_at {r : Nat} (h : r < 8) : ∃ z : Str, ([.str "put", .str "put", .str "rub", .str "rub", .str "left", .str "right", .str "home", .str "end"] : List V)[r]? = some (.str z) ∧ (z = "put" ∨ (z ≠ "put" ∧ ∃ k : Ky, k.plain = true ∧ keyV k = [.str z])) := match r, h with
  | 0, _ => ⟨_, rfl, .inl rfl⟩
  | 1, _ => ⟨_, rfl, .inl rfl⟩
  | 2, _ => ⟨_, rfl, .inr ⟨by decide +kernel, .rub, rfl, rfl⟩⟩
  | 3, _ => ⟨_, rfl, .inr ⟨by decide +kernel, .rub, rfl, rfl⟩⟩
  | 4, _ => ⟨_, rfl, .inr ⟨by decide +kernel, .left, rfl, rfl⟩⟩
  | 5, _ => ⟨_, rfl, .inr ⟨by decide +kernel, .right, rfl, rfl⟩⟩
  | 6, _ => ⟨_, rfl, .inr ⟨by decide +kernel, .home, rfl, rfl⟩⟩
  | 7, _ => ⟨_, rfl, .inr ⟨by decide +kernel, .end_, rfl, rfl⟩⟩
section
variable {P : Program} {w : World} {K : PySem.W.Frag} {mg : Str → Option Value} {base : Heap}
def sp_lplain (K : PySem.W.Frag) : Sp := fun vs H Q _ => ∃ (h l : Addr), vs = [.ref h] ∧ DrAt H h l ∧ ∀ T_ H', Kf [h, l] H H' → DrAt H' h l → PlTup K H' T_ 6 → Q (.ref T_) H'
theorem sc__law_plain : FnScope ["_law_h", "_law_found", "_law_often", "_law_word", "_law_k", "_law_at", "_law_one"] ["_law_h"] (defScope s__law_plain) := ⟨rfl, rfl, rfl, by decide +kernel, rfl, by decide +kernel, by decide +kernel⟩
theorem ok__law_plain (T : Tx w K mg) : Fk P w K mg base 2 (Ad K d__law_plain.at_) ["_law_h"] (sp_lplain K) := by
  have F__law_next := ok__law_next (P := P) (base := base) T
  refine mkF T.f__law_plain sc__law_plain rfl (fun _ _ _ _ _ _ us hl => match us, hl with | [_], _ => rfl) (fun vs H Q E h => by obtain ⟨_, _, rfl, _⟩ := h; rfl) (fun cdv A outer s H vs Q E hcd hcode hr h => ?_)
  have po : PassesOwn (model P w) (CxD P w K mg base ["_law_h", "_law_found", "_law_often", "_law_word", "_law_k", "_law_at", "_law_one"] d__law_plain cdv A outer s H E).A (CxD P w K mg base ["_law_h", "_law_found", "_law_often", "_law_word", "_law_k", "_law_at", "_law_one"] d__law_plain cdv A outer s H E).env (CxD P w K mg base ["_law_h", "_law_found", "_law_often", "_law_word", "_law_k", "_law_at", "_law_one"] d__law_plain cdv A outer s H E).xe := passes_of rfl
  refine ⟨_, (pss_cons (ps_asg (pe_lst pa_nil) (pg_name (i := 1) sc__law_plain.nd rfl (.inl rfl)))
      (pss_cons (ps_asg (pe_op op_mul (pe_cF F__law_next (hr.mono (by decide)) T.g__law_next px (pa_cons (pv 0) (pa_cons pe_int pa_nil))) (pe_cF F__law_next (hr.mono (by decide)) T.g__law_next px (pa_cons (pv 0) (pa_cons pe_int pa_nil)))) (pg_name (i := 2) sc__law_plain.nd rfl (.inl rfl)))
      (pss_cons (ps_asg (pe_ix ix_list (pe_lst (pa_cons (pe_tup (pa_cons pe_str pa_nil)) (pa_cons (pe_tup (pa_cons pe_str pa_nil)) (pa_cons (pe_tup (pa_cons pe_str pa_nil)) pa_nil)))) (pe_cF F__law_next (hr.mono (by decide)) T.g__law_next px (pa_cons (pv 0) (pa_cons pe_int pa_nil))) (fun _ _ => rfl)) (pg_name (i := 3) sc__law_plain.nd rfl (.inl rfl)))
      (pss_cons (ps_for po rfl (pi_range1 (by rfl) T.n_range (pa_cons (pe_cF F__law_next (hr.mono (by decide)) T.g__law_next px (pa_cons (pv 0) (pa_cons (pe_op op_sub pe_int (pv 2)) pa_nil))) pa_nil)) (pg_name (i := 4) sc__law_plain.nd rfl (.inl rfl)) (pss_cons (ps_asg (pe_ix ix_list (pe_lst (pa_cons pe_str (pa_cons pe_str (pa_cons pe_str (pa_cons pe_str (pa_cons pe_str (pa_cons pe_str (pa_cons pe_str (pa_cons pe_str pa_nil))))))))) (pe_cF F__law_next (hr.mono (by decide)) T.g__law_next px (pa_cons (pv 0) (pa_cons pe_int pa_nil))) (fun _ _ => rfl)) (pg_name (i := 6) sc__law_plain.nd rfl (.inl rfl)))
      (pss_one (ps_expr (pe_bm PySem.F.plainAttrs_list PySem.F.slot_list_append PySem.F.type_list_append mt_append (pv 1) (pa_cons (pe_ifExp (pt_cmpR op_eq (pv 6) pe_str (nomark _)) (pe_tup (pa_cons (pv 6) (pa_cons (pe_ix ix_str pe_str (pe_cF F__law_next (hr.mono (by decide)) T.g__law_next px (pa_cons (pv 0) (pa_cons pe_int pa_nil))) (fun _ _ => rfl)) pa_nil))) (pe_tup (pa_cons (pv 6) pa_nil))) pa_nil))))))
      (pss_cons (ps_asg (pe_cF F__law_next (hr.mono (by decide)) T.g__law_next px (pa_cons (pv 0) (pa_cons (pe_op op_add (pe_callB call_len_seq (by rfl) T.n_len (by decide +kernel) (pa_cons (pv 1) pa_nil)) pe_int) pa_nil))) (pg_name (i := 5) sc__law_plain.nd rfl (.inl rfl)))
      (pss_one (ps_ret (pe_callTy call_tuple_of (by rfl) T.n_tuple (by decide +kernel) (pa_cons (pe_op op_cat (pe_op op_cat (pe_slice sl_list (pv 1) po_none (po_some (pv 5))) (pe_op op_rep (pe_lst (pa_cons (pv 3) pa_nil)) (pv 2))) (pe_slice sl_list (pv 1) (po_some (pv 5)) po_none)) pa_nil))))))))), ?_⟩
  obtain ⟨h, l, rfl, hD, kQ⟩ := h
  refine ⟨line16 (by show 0 ≤ 1000000; decide), fun F nF => ?_⟩
  have kF : Kq [] H (upd H F (.lst [])) := Kq.alloc nF
  have gF : (upd H F (.lst [])) F = some (.lst []) := upd_same
  have nFd : F ∉ [h, l] := fresh_ne hD.some nF
  have hD1 := hD.kq kF
  generalize (upd H F (.lst [])) = H1 at kF gF hD1 ⊢
  refine ⟨_, rfl, h, l, 2, rfl, hD1, by decide, by decide, fun r1 H2 hr1 k2 hD2 => ?_⟩
  refine ⟨_, rfl, h, l, 7, rfl, hD2, by decide, by decide, fun r2 H3 hr2 k3 hD3 => ⟨_, _, rfl, rfl, .inr ⟨by omega, by omega⟩, ?_⟩⟩
  have ho : ∃ o : Nat, (r1 : Int) * (r2 : Int) = (o : Int) ∧ o ≤ 6 := by
    refine ⟨r1 * r2, by rw [Int.natCast_mul], ?_⟩
    have h1 : r1 * r2 ≤ 1 * r2 := Nat.mul_le_mul_right _ (by omega)
    omega
  obtain ⟨o, eo, ho6⟩ := ho
  generalize hv : (fun (i j : Int) => V.int (i * j)) (r1 : Int) (r2 : Int) = v
  have hv : v = V.int (o : Int) := hv.symm.trans (congrArg V.int eo)
  subst hv
  clear eo
  have k13 := k2.trans k3
  have gF3 := k13.q.gets gF nFd
  -- the word
  refine ⟨line16 (by show 1 ≤ 1000000; decide), fun w1 nw1 => ?_⟩
  have kw1 : Kq [] H3 (upd H3 w1 (.tup [.str "left"])) := Kq.alloc nw1
  have gw1 : KeyAt K (upd H3 w1 (.tup [.str "left"])) w1 .left := SqT.of upd_same
  generalize (upd H3 w1 (.tup [.str "left"])) = H4 at kw1 gw1 ⊢
  refine ⟨line16 (by show 1 ≤ 1000000; decide), fun w2 nw2 => ?_⟩
  have kw2 : Kq [] H4 (upd H4 w2 (.tup [.str "right"])) := Kq.alloc nw2
  have gw2 : KeyAt K (upd H4 w2 (.tup [.str "right"])) w2 .right := SqT.of upd_same
  generalize (upd H4 w2 (.tup [.str "right"])) = H5 at kw2 gw2 ⊢
  refine ⟨line16 (by show 1 ≤ 1000000; decide), fun w3 nw3 => ?_⟩
  have kw3 : Kq [] H5 (upd H5 w3 (.tup [.str "rub"])) := Kq.alloc nw3
  have gw3 : KeyAt K (upd H5 w3 (.tup [.str "rub"])) w3 .rub := SqT.of upd_same
  generalize (upd H5 w3 (.tup [.str "rub"])) = H6 at kw3 gw3 ⊢
  refine ⟨line16 (by show 3 ≤ 1000000; decide), fun L nL => ?_⟩
  have kL : Kq [] H6 (upd H6 L (.lst [.ref w1, .ref w2, .ref w3])) := Kq.alloc nL
  have gL : (upd H6 L (.lst [.ref w1, .ref w2, .ref w3])) L = some (.lst [.ref w1, .ref w2, .ref w3]) := upd_same
  have k36 := (kw1.trans kw2).trans kw3
  have nLd : L ∉ [h, l] := fresh_ne (hD3.kq k36).some nL
  generalize (upd H6 L (.lst [.ref w1, .ref w2, .ref w3])) = H7 at kL gL ⊢
  have k37 := k36.trans kL
  refine ⟨_, rfl, h, l, 3, rfl, hD3.kq k37, by decide, by decide, fun r H8 hr k8 hD8 => ?_⟩
  have gL8 := k8.q.gets gL nLd
  have hX : ∃ x, ([.ref w1, .ref w2, .ref w3] : List V)[r]? = some (.ref x) ∧ PlKey K H8 x := match r, hr with
    | 0, _ => ⟨w1, rfl, .left, k8.key (kL.key (kw3.key (kw2.key gw1))), rfl⟩
    | 1, _ => ⟨w2, rfl, .right, k8.key (kL.key (kw3.key gw2)), rfl⟩
    | 2, _ => ⟨w3, rfl, .rub, k8.key (kL.key gw3), rfl⟩
  obtain ⟨wx, ewx, hwx⟩ := hX
  refine ⟨L, _, _, .ref wx, rfl, rfl, SqL.of gL8, at_of rfl ewx, ?_⟩
  have gF8 := k8.q.gets (k37.get gF3) nFd
  have k08 : Kf [h, l] H H8 := (Kf.of kF hD.wr).trans (k13.trans ((Kf.of k37 hD3.wr).trans k8))
  clear k13 gF3 k37 k36 kL gL gw1 gw2 gw3 kw1 kw2 kw3 nw1 nw2 nw3 nL k2 k3 hD2 gL8 hD3 kF gF hD1
  refine ⟨_, rfl, _, rfl, _, _, rfl, rfl, h, l, 7 - o, by show [V.ref h, V.int ((7 : Int) - (o : Int))] = _; rw [show ((7 : Int) - (o : Int)) = ((7 - o : Nat) : Int) by omega], hD8, by omega, by omega, fun m H9 hm k9 hD9 => ⟨_, rfl, by omega, by omega, ?_⟩⟩
  have gF9 := k9.q.gets gF8 nFd
  refine for_range (lo := 0) (n := (m : Int).toNat) (fun i σ H' => Kf [h, l] H H' ∧ DrAt H' h l ∧ PlKey K H' wx ∧ ∃ xs v4 v5, xs.length = i ∧ H' F = some (.lst (xs.map V.ref)) ∧ (∀ x ∈ xs, PlKey K H' x) ∧ σ = [some (.ref h), some (.ref F), some (.int (o : Int)), some (.ref wx), v4, none, v5]) ⟨k08.trans k9, hD9, hwx.kf k9, [], none, none, rfl, gF9, by simp, rfl⟩ ?_ ?_
  · rintro i σ Ha hi ⟨ka, hDa, hwa, xs, v4, v5, hxl, gFa, hxs, rfl⟩
    refine ⟨line16 (by show 8 ≤ 1000000; decide), fun L2 nL2 => ?_⟩
    have kL2 : Kq [] Ha (upd Ha L2 (.lst [.str "put", .str "put", .str "rub", .str "rub", .str "left", .str "right", .str "home", .str "end"])) := Kq.alloc nL2
    have gL2 : (upd Ha L2 (.lst [.str "put", .str "put", .str "rub", .str "rub", .str "left", .str "right", .str "home", .str "end"])) L2 = some (.lst [.str "put", .str "put", .str "rub", .str "rub", .str "left", .str "right", .str "home", .str "end"]) := upd_same
    have nL2d : L2 ∉ [h, l] := fresh_ne hDa.some nL2
    have hDb := hDa.kq kL2
    have gFb := kL2.get gFa
    generalize (upd Ha L2 (.lst [.str "put", .str "put", .str "rub", .str "rub", .str "left", .str "right", .str "home", .str "end"])) = Hb at kL2 gL2 hDb gFb ⊢
    refine ⟨_, rfl, h, l, 8, rfl, hDb, by decide, by decide, fun r3 Hc hr3 kc hDc => ?_⟩
    have gL2c := kc.q.gets gL2 nL2d
    have gFc := kc.q.gets gFb nFd
    obtain ⟨z, ez, hz⟩ := ones_at hr3
    refine ⟨L2, _, _, .str z, rfl, rfl, SqL.of gL2c, at_of rfl ez, ?_⟩
    have kac := (Kf.of kL2 hDa.wr).trans kc
    have fin : ∀ (x : Addr) (Hd : Hp), Kf [h, l] Hc Hd → DrAt Hd h l → PlKey K Hd x → ∃ acc, Hd F = some (.lst acc) ∧ acc.length < sizeLine ∧ (Kf [h, l] H (upd Hd F (.lst (acc ++ [.ref x]))) ∧ DrAt (upd Hd F (.lst (acc ++ [.ref x]))) h l ∧ PlKey K (upd Hd F (.lst (acc ++ [.ref x]))) wx ∧ ∃ xs : List Addr, xs.length = i + 1 ∧ (upd Hd F (.lst (acc ++ [.ref x]))) F = some (.lst (xs.map V.ref)) ∧ ∀ y ∈ xs, PlKey K (upd Hd F (.lst (acc ++ [.ref x]))) y) := fun x Hd kd hDd hx => by
      have gFd := kd.q.gets gFc nFd
      have nFh : F ≠ h := fun e => nFd (by rw [e]; simp)
      have nFl : F ≠ l := fun e => nFd (by rw [e]; simp)
      have kw : Kf [F] Hd (upd Hd F (.lst (xs.map V.ref ++ [.ref x]))) := Kf.one gFd
      have kall := (ka.trans kac).trans kd
      refine ⟨_, gFd, smallM (by rw [List.length_map]; omega), ⟨kall.q.writeF nF gFd, hD.wr, (hDd.upd nFh nFl).wr⟩, hDd.upd nFh nFl, ((hwa.kf kac).kf kd).kf kw, xs ++ [x], by rw [List.length_append, hxl]; rfl, by rw [upd_same, List.map_append]; rfl, fun y hy => ?_⟩
      rcases List.mem_append.mp hy with e | e
      · exact ((hxs y e).kf (kac.trans kd)).kf kw
      · rw [List.mem_singleton.mp e]; exact hx.kf kw
    refine ⟨_, rfl, .inl ⟨rfl, _, SqL.of gFc⟩, _, rfl, rfl, _, rfl, iteD (fun e => ?_) (fun ne => ?_)⟩
    · have e : z = "put" := V.str.inj e
      subst e
      refine ⟨_, rfl, _, rfl, h, l, 4, rfl, hDc, by decide, by decide, fun r4 Hd hr4 kd hDd => ?_⟩
      have h1 : r4 < xyabS.cps.toList.length := by rw [xyab_ok.1]; exact hr4
      refine ⟨xyabS, _, _, rfl, rfl, line16 (by rw [xyab_ok.2.2]; decide), cps_at rfl (List.getElem?_eq_getElem h1), ?_⟩
      have hc := xyab_ok.2.1 _ (List.getElem_mem h1)
      generalize xyabS.cps.toList[r4] = c at hc ⊢
      refine ⟨line16 (by show 2 ≤ 1000000; decide), fun x nx => ?_⟩
      have kx : Kq [] Hd (upd Hd x (.tup [.str "put", .str ⟨#[c]⟩])) := Kq.alloc nx
      obtain ⟨acc, g1, g2, g3, g4, g5, xs', g6, g7, g8⟩ := fin x _ (kd.kq kx) (hDd.kq kx) ⟨.put [c], SqT.of upd_same, decide_eq_true hc⟩
      exact ⟨F, _, _, rfl, rfl, g1, g2, g3, g4, g5, xs', _, _, g6, g7, g8, rfl⟩
    · obtain ⟨_, ky, kpl, ekv⟩ := hz.resolve_left fun e => ne (by rw [e])
      refine ⟨_, rfl, line16 (by show 1 ≤ 1000000; decide), fun x nx => ?_⟩
      have kx : Kq [] Hc (upd Hc x (.tup [.str z])) := Kq.alloc nx
      obtain ⟨acc, g1, g2, g3, g4, g5, xs', g6, g7, g8⟩ := fin x _ (Kf.of kx hDc.wr) (hDc.kq kx) ⟨ky, by unfold KeyAt; rw [ekv]; exact SqT.of upd_same, kpl⟩
      exact ⟨F, _, _, rfl, rfl, g1, g2, g3, g4, g5, xs', _, _, g6, g7, g8, rfl⟩
  rintro σ Ha ⟨ka, hDa, hwa, xs, v4, v5, hxl, gFa, hxs, rfl⟩
  have hm6 : (m : Int).toNat + o ≤ 6 := by omega
  refine ⟨_, rfl, _, rfl, F, _, rfl, .inl (SqL.of gFa), _, _, rfl, rfl, h, l, (xs.map V.ref).length + 1, rfl, hDa, by omega, by rw [List.length_map]; omega, fun r4 Hb hr4 kb hDb => ?_⟩
  rw [List.length_map] at hr4
  have gFb := kb.q.gets gFa nFd
  have hxb : ∀ x ∈ xs, PlKey K Hb x := fun x hx => (hxs x hx).kf kb
  have hwb := hwa.kf kb
  have kab := ka.trans kb
  clear gFa hxs hwa hDa ka
  refine ⟨_, rfl, _, rfl, _, rfl, F, _, rfl, SqL.of gFb, fun s1 ns1 => ?_⟩
  rw [cut_take (xs.map V.ref) (n := r4) rfl, ← List.map_take]
  have ks1 : Kq [] Hb (upd Hb s1 (.lst ((xs.take r4).map V.ref))) := Kq.alloc ns1
  have gs1 : (upd Hb s1 (.lst ((xs.take r4).map V.ref))) s1 = _ := upd_same
  generalize (upd Hb s1 (.lst ((xs.take r4).map V.ref))) = Hc at ks1 gs1 ⊢
  refine ⟨_, rfl, line16 (by show 1 ≤ 1000000; decide), fun q nq => ?_⟩
  have kq : Kq [] Hc (upd Hc q (.lst [.ref wx])) := Kq.alloc nq
  have gq : (upd Hc q (.lst [.ref wx])) q = some (.lst [.ref wx]) := upd_same
  generalize (upd Hc q (.lst [.ref wx])) = Hd at kq gq ⊢
  refine ⟨_, rfl, q, _, _, rfl, rfl, gq, by omega, by omega, line16 (by show 1 * _ ≤ 1000000; omega), fun s2 ns2 => ?_⟩
  have er : (List.replicate (o : Int).toNat [V.ref wx]).flatten = (List.replicate o wx).map V.ref := by
    rw [List.map_replicate, show (o : Int).toNat = o from rfl]
    generalize o = n
    induction n with
    | zero => rfl
    | succ n ih => rw [List.replicate_succ, List.flatten_cons, ih]; rfl
  rw [er]
  have ks2 : Kq [] Hd (upd Hd s2 (.lst ((List.replicate o wx).map V.ref))) := Kq.alloc ns2
  have gs2 : (upd Hd s2 (.lst ((List.replicate o wx).map V.ref))) s2 = _ := upd_same
  generalize (upd Hd s2 (.lst ((List.replicate o wx).map V.ref))) = He at ks2 gs2 ⊢
  refine ⟨s1, s2, _, _, rfl, rfl, (kq.trans ks2).get gs1, gs2, line16 (by rw [List.length_map, List.length_map, List.length_take, List.length_replicate]; omega), fun s3 ns3 => ?_⟩
  rw [← List.map_append]
  have ks3 : Kq [] He (upd He s3 (.lst ((xs.take r4 ++ List.replicate o wx).map V.ref))) := Kq.alloc ns3
  have gs3 : (upd He s3 (.lst ((xs.take r4 ++ List.replicate o wx).map V.ref))) s3 = _ := upd_same
  generalize (upd He s3 (.lst ((xs.take r4 ++ List.replicate o wx).map V.ref))) = Hf at ks3 gs3 ⊢
  have kbf := ((ks1.trans kq).trans ks2).trans ks3
  refine ⟨_, rfl, _, rfl, _, rfl, F, _, rfl, SqL.of (kbf.get gFb), fun s4 ns4 => ?_⟩
  rw [cut_drop (xs.map V.ref) (n := r4) rfl, ← List.map_drop]
  have ks4 : Kq [] Hf (upd Hf s4 (.lst ((xs.drop r4).map V.ref))) := Kq.alloc ns4
  have gs4 : (upd Hf s4 (.lst ((xs.drop r4).map V.ref))) s4 = _ := upd_same
  generalize (upd Hf s4 (.lst ((xs.drop r4).map V.ref))) = Hg at ks4 gs4 ⊢
  refine ⟨s3, s4, _, _, rfl, rfl, ks4.get gs3, gs4, line16 (by rw [List.length_map, List.length_map, List.length_append, List.length_take, List.length_replicate, List.length_drop]; omega), fun s5 ns5 => ?_⟩
  rw [← List.map_append]
  have ks5 : Kq [] Hg (upd Hg s5 (.lst ((xs.take r4 ++ List.replicate o wx ++ xs.drop r4).map V.ref))) := Kq.alloc ns5
  have gs5 : (upd Hg s5 (.lst ((xs.take r4 ++ List.replicate o wx ++ xs.drop r4).map V.ref))) s5 = _ := upd_same
  generalize (upd Hg s5 (.lst ((xs.take r4 ++ List.replicate o wx ++ xs.drop r4).map V.ref))) = Hh at ks5 gs5 ⊢
  refine ⟨s5, _, rfl, .inl ⟨SqL.of gs5, fun T_ nT => ?_⟩⟩
  have kT : Kq [] Hh (upd Hh T_ (.tup ((xs.take r4 ++ List.replicate o wx ++ xs.drop r4).map V.ref))) := Kq.alloc nT
  have kbT := ((kbf.trans ks4).trans ks5).trans kT
  refine kQ T_ _ (kab.kq kbT) (hDb.kq kbT) ⟨_, SqT.of upd_same, fun x hx => ?_, ?_⟩
  · rcases List.mem_append.mp hx with z | z
    · rcases List.mem_append.mp z with y | y
      · exact (hxb x (List.mem_of_mem_take y)).kq kbT
      · rw [List.eq_of_mem_replicate y]; exact hwb.kq kbT
    · exact (hxb x (List.mem_of_mem_drop z)).kq kbT
  · rw [List.length_append, List.length_append, List.length_take, List.length_replicate, List.length_drop]; omega
end
end KT
set_option Elab.async false
set_option linter.all false
set_option maxRecDepth 100000
set_option maxHeartbeats 4000000
namespace KT
open PySem PySem.Spec PyProof.Rows L2 GxR
variable [GT]
def namesS : Str := Str.ofString "abcdefgh"
theorem namesS_at : ∀ n : Fin 8, namesS.cps.toList[n.1]? = some (97 + n.1) := by decide +kernel
theorem namesS_len : namesS.length = 8 ∧ namesS.cps.toList.length = 8 := by decide +kernel
section
variable {P : Program} {w : World} {K : PySem.W.Frag} {mg : Str → Option Value} {base : Heap}
def sp_key (K : PySem.W.Frag) : Sp := fun vs H Q _ => ∃ (h l : Addr), vs = [.ref h] ∧ DrAt H h l ∧ ∀ a ky H', ky.Ok → Kf [h, l] H H' → DrAt H' h l → KeyAt K H' a ky → Q (.ref a) H'
end
end KT
set_option Elab.async false
set_option linter.all false
set_option maxRecDepth 100000
set_option maxHeartbeats 4000000
namespace KT
open PySem PySem.Spec PyProof.Rows L2 GxR
variable [GT]
theorem KeysAt.snoc1 {K : PySem.W.Frag} {H : Hp} {as : List Addr} {a : Addr} {ks : List Ky} {k : Ky} (h : KeysAt K H as ks) (g : KeyAt K H a k) : KeysAt K H (as ++ [a]) (ks ++ [k]) := by
  induction h with
  | nil => exact .cons g .nil
  | cons h _ ih => exact .cons h ih
section
variable {P : Program} {w : World} {K : PySem.W.Frag} {mg : Str → Option Value} {base : Heap}
def sp_tape (K : PySem.W.Frag) : Sp := fun vs H Q _ => ∃ (h l : Addr) (m : Nat), vs = [.ref h, .int m] ∧ DrAt H h l ∧ m ≤ 30 ∧ ∀ T ks H', ks.length ≤ m → (∀ k ∈ ks, k.Ok) → Kf [h, l] H H' → DrAt H' h l → TapeAt K H' T ks → Q (.ref T) H'
end
end KT
set_option Elab.async false
set_option linter.all false
set_option maxRecDepth 100000
set_option maxHeartbeats 4000000
namespace KT
open PySem PySem.Spec PyProof.Rows L2 GxR
/-! ### d.update(e), both dicts of texts and numbers -/
def rDUpd : V → List V → Hp → VK → Prop := fun x xs H Q => ∃ (a b : Addr) (kvs more : List (Key × V)), x = .ref a ∧ xs = [.ref b] ∧ H a = some (.dK kvs) ∧ H b = some (.dK more) ∧ a ≠ b ∧ kvs.length + more.length ≤ sizeLine ∧ Q .non (upd H a (.dK (mergeK kvs more)))
theorem mt_dupdate {X : Cx} : MtR X "dict.update" rDUpd := by
  intro pins s σ H x xs v us Q I rx rxs h
  obtain ⟨a, b, kvs, more, rfl, rfl, ea, eb, ne, hl, q⟩ := h
  cases rx
  obtain ⟨u, rfl, ru⟩ := rxs.one
  cases ru
  obtain ⟨za, la, vs, ra, da⟩ := dk_of I.hok ea
  obtain ⟨zb, lb, ws, rb, db⟩ := dk_of I.hok eb
  refine call_meetsIn PySem.F.slot_dict_update da.typeIs PySem.F.entry_dict_update (PySem.F.args_dict_update_2 _ _) (meets_dict_update (mixKind X.prog X.w) a b ne lb) ⟨vs, ws, da, db, by rw [← ra.length, ← rb.length]; exact hl, fun h' da' _ hs => ?_⟩
  have there : ∃ q, h'.get? a = some q := let ⟨q, _, _, hq, _⟩ := da'; ⟨q, hq⟩
  have hm := length_mergeK more kvs
  exact ⟨.non, _, L2.d_write (t' := s.toks) I (by rw [ea]; exact True.intro) hs there (dk_new (by omega) la (KV.merge rb ra) da'), rfl, q⟩
end KT
set_option Elab.async false
set_option linter.all false
set_option maxRecDepth 100000
set_option maxHeartbeats 4000000
namespace KT
open PySem PySem.Spec PyProof.Rows L2 GxR
/-! ### a token is out behind a written text -/
def PEU (X : Cx) (e : Expr) (t : TE) : Prop :=
  ∀ (pins : List (Addr × Obj)) (s : Shared) (σ : L2.St) (H : Hp) (Q : VK), Inv X pins σ H s → t σ H Q → wpAny (model X.prog X.w) X.A (eval e X.env) (fun v s1 => 1 ≤ s1.toks ∧ EP X pins σ Q v s1) X.xe s
def PAU (X : Cx) (es : List Expr) (t : TA) : Prop :=
  ∀ (pos : Pos) (pins : List (Addr × Obj)) (s : Shared) (σ : L2.St) (H : Hp) (Q : List V → Hp → Prop), Inv X pins σ H s → t σ H Q → wpAny (model X.prog X.w) X.A (spliced (backTo pos (starEach es X.env))) (fun us s1 => 1 ≤ s1.toks ∧ AP X pins σ Q us s1) X.xe s
section
variable {X : Cx} {e : Expr} {es : List Expr} {te : TE} {ta : TA}
theorem peu_str {x j pos} : PEU X (.Constant (.str x) j pos) (tC (.str x)) := fun _ s _ H _ I h => Calls.Constant_str ⟨by show 1 ≤ s.toks + 1; omega, .str x, H, I.tok _, ⟨_, rfl⟩, h⟩
theorem pau_cons (ha : PEU X e te) (hr : PA X es ta) (hs : starEach (e :: es) X.env = (false, eval e X.env) :: starEach es X.env := by rfl) : PAU X (e :: es) (tCons te ta) := by
  intro pos pins s σ H Q I h
  rw [hs]
  show wpAny _ _ (spliced ((false, eval e X.env) :: backTo pos (starEach es X.env))) _ _ s
  refine Calls.spliced_cons (wpAny_mono (ha pins s σ H _ I h) (fun v s1 q => ?_) fun _ _ z => z)
  obtain ⟨hk, x, H1, I1, r1, q1⟩ := q
  refine wpAny_mono (PySem.wpAny_toks_of hk (hr.run pos pins s1 σ H1 _ I1 q1)) (fun us s2 q2 => ?_) fun _ _ z => z.2
  obtain ⟨hk2, xs, H2, I2, r2, q2⟩ := q2
  exact ⟨hk2, x :: xs, H2, I2, .cons r1 r2, q2⟩
theorem peu_tup {x1} {pos : Pos} (h : PAU X es ta) : PEU X (.Tuple es x1 pos) (tTup ta) := by
  intro pins s σ H Q I hq
  refine wpAny_Tuple_spliced (wpAny_mono (h pos pins s σ H _ I hq) (fun us s1 q => ?_) fun _ _ z => z)
  obtain ⟨hk, xs, H1, I1, r, z, q⟩ := q
  refine ⟨by rw [← r.length]; exact z, hk, ?_⟩
  have hf : H1 s1.heap.objs.size = none := I1.hok.fresh (Nat.le_refl _)
  refine ⟨.ref s1.heap.objs.size, upd H1 s1.heap.objs.size (.tup xs), I1.laid (t' := s1.toks) (fun b u e => Heap.get?_push_of_some _ e) (Nat.le_refl _) ?_, rfl, q _ hf⟩
  exact ⟨z, us, r, ⟨_, Heap.get?_push_size _ rfl, rfl, _, rfl⟩⟩
/-- behind what gives a token out -/
theorem pa_consU (ha : PEU X e te) (hr : PAT X es ta) (hs : starEach (e :: es) X.env = (false, eval e X.env) :: starEach es X.env := by rfl) : PA X (e :: es) (tCons te ta) := by
  refine ⟨fun pos pins s σ H Q I h => ?_⟩
  rw [hs]
  show wpAny _ _ (spliced ((false, eval e X.env) :: backTo pos (starEach es X.env))) _ _ s
  refine Calls.spliced_cons (wpAny_mono (ha pins s σ H _ I h) (fun v s1 q => ?_) fun _ _ z => z)
  obtain ⟨hk, x, H1, I1, r1, q1⟩ := q
  exact thn (hr pos pins s1 σ H1 _ hk I1 q1) fun us s2 ⟨xs, H2, I2, r2, q2⟩ => ⟨x :: xs, H2, I2, .cons r1 r2, q2⟩
end
/-- join within a block -/
theorem pe_joinB {X : Cx} {K : PySem.W.Frag} {o e : Expr} {to te : TE} {apos pos : Pos} (ek : X.K = K) (ho : PE X o to) (he : PE X e te) (hs : starEach [e] X.env = [(false, eval e X.env)] := by rfl) (hbase : attributeBase o "join" X.env (eval o X.env) = eval o X.env := by rfl) (hline : (apos.endLine == pos.line) = true := by rfl) :
    PE X (.Call (.Attribute o "join" apos) [e] [] pos) (tM1 (fun x xs H Q => ∃ a p, ∃ ys : List Str, x = .str a ∧ xs = [.ref p] ∧ (SqL K H p (ys.map V.str) ∨ SqT K H p (ys.map V.str)) ∧
      (ys.map (·.length)).sum + ys.length * a.length ≤ 16777216 ∧ Q (.str (Txt.join a ys)) H) to te) := by
  subst ek
  exact pe_join ho he hs hbase hline
/-- a walk over a written text -/
theorem for_strS {z : Str} {g : TG} {tb : TS} {D : Ends} {σ : L2.St} {H : Hp} (Pv : Nat → L2.St → Hp → Prop) (h0 : Pv 0 σ H)
    (hs : ∀ i c σ H, z.cps[i]? = some c → Pv i σ H → g (.str ⟨#[c]⟩) σ H fun σ2 H2 => tb { D with nx := Pv (i + 1), ct := Pv (i + 1), bk := D.nx } σ2 H2) (hd : ∀ σ H, Pv z.cps.size σ H → D.nx σ H) :
    ∃ W : Nat → Nat → L2.St → Hp → Prop, (∃ m, W 0 m σ H) ∧ ∀ i m σ H, W i m σ H →
      ((Its z).stop i H ∧ D.nx σ H) ∨ ((Its z).go i H ∧ ∃ N : L2.St → Hp → Prop, (∀ σ' H', N σ' H' → ∃ m', m' < m ∧ W (i + 1) m' σ' H') ∧ ∀ x H', (Its z).yld i H x H' → g x σ H' fun σ2 H2 => tb { D with nx := N, ct := N, bk := D.nx } σ2 H2) := by
  refine ⟨fun i m σ H => m = z.cps.size - i ∧ i ≤ z.cps.size ∧ Pv i σ H, ⟨_, rfl, Nat.zero_le _, h0⟩, ?_⟩
  rintro i m σ H ⟨rfl, hi, p⟩
  by_cases hlt : i < z.cps.size
  · refine .inr ⟨hlt, Pv (i + 1), fun σ' H' p' => ⟨z.cps.size - (i + 1), by omega, rfl, hlt, p'⟩, ?_⟩
    rintro x H' ⟨rfl, c, hc, rfl⟩
    exact hs i c σ _ hc p
  · have e : i = z.cps.size := by omega
    subst e
    exact .inl ⟨Nat.le_refl _, hd σ H p⟩
end KT
set_option Elab.async false
set_option linter.all false
set_option maxRecDepth 100000
set_option maxHeartbeats 4000000
namespace KT
open PySem PySem.Spec PyProof.Rows L2 GxR
variable [GT]
/-! ### a dict of tapes -/
abbrev Dc := List (Nat × List Ky)
def putD (d : Dc) (n : Nat) (ks : List Ky) : Dc := if (d.any fun p => decide (p.1 = n)) = true then d.map (fun p => if p.1 = n then (p.1, ks) else p) else d ++ [(n, ks)]
def mergeD (d more : Dc) : Dc := more.foldl (fun acc p => putD acc p.1 p.2) d
def lookD (d : Dc) (n : Nat) : Option (List Ky) := (d.find? fun p => decide (p.1 = n)).map (·.2)
structure DOk (d : Dc) : Prop where
  ok : ∀ p ∈ d, p.1 < 8 ∧ p.2.length ≤ 30 ∧ ∀ k ∈ p.2, k.Ok
theorem putD_mem {d : Dc} {n : Nat} {ks : List Ky} {p : Nat × List Ky} (h : p ∈ putD d n ks) : p ∈ d ∨ p = (n, ks) := by
  unfold putD at h
  split at h
  · obtain ⟨q, hq, e⟩ := List.mem_map.mp h
    split at e
    · rename_i z; exact .inr (by rw [← e, z])
    · exact .inl (e ▸ hq)
  · rcases List.mem_append.mp h with z | z
    · exact .inl z
    · exact .inr (List.mem_singleton.mp z)
theorem DOk.put {d : Dc} {n : Nat} {ks : List Ky} (h : DOk d) (hn : n < 8) (hl : ks.length ≤ 30) (hk : ∀ k ∈ ks, k.Ok) : DOk (putD d n ks) := ⟨fun p hp => by
  rcases putD_mem hp with z | z
  · exact h.ok p z
  · rw [z]; exact ⟨hn, hl, hk⟩⟩
theorem DOk.merge : ∀ {more d : Dc}, DOk d → DOk more → DOk (mergeD d more)
  | [], d, h, _ => h
  | p :: r, d, h, h2 => by
    have hp := h2.ok p (by simp)
    show DOk (mergeD (putD d p.1 p.2) r)
    exact DOk.merge (h.put hp.1 hp.2.1 hp.2.2) ⟨fun q hq => h2.ok q (by simp [hq])⟩
theorem lookD_put (d : Dc) (n m : Nat) (ks : List Ky) : lookD (putD d n ks) m = if m = n then some ks else lookD d m := by
  unfold lookD putD
  split
  · rename_i h
    by_cases e : m = n
    · subst e
      rw [if_pos rfl]
      induction d with
      | nil => simp at h
      | cons p r ih =>
        by_cases z : p.1 = m
        · simp [z]
        · simp only [List.any_cons, decide_eq_true_eq, Bool.or_eq_true] at h
          have h2 : (r.any fun p => decide (p.1 = m)) = true := h.resolve_left z
          have := ih h2
          simp only [List.map_cons, if_neg z, List.find?_cons, decide_eq_false z]
          exact this
    · rw [if_neg e]
      clear h
      induction d with
      | nil => rfl
      | cons p r ih =>
        by_cases z : p.1 = n
        · have zm : ¬ n = m := fun y => e y.symm
          have zm2 : ¬ p.1 = m := fun y => e (y.symm.trans z)
          simp only [List.map_cons, if_pos z, List.find?_cons, decide_eq_false zm2]
          exact ih
        · simp only [List.map_cons, if_neg z, List.find?_cons]
          by_cases y : p.1 = m
          · simp [y]
          · simp only [decide_eq_false y]; exact ih
  · rename_i h
    rw [List.find?_append]
    by_cases e : m = n
    · subst e
      rw [if_pos rfl]
      have : d.find? (fun p => decide (p.1 = m)) = none := by
        rw [List.find?_eq_none]
        intro p hp z
        exact h (List.any_eq_true.mpr ⟨p, hp, z⟩)
      rw [this]; simp
    · rw [if_neg e]
      have : ([(n, ks)] : Dc).find? (fun p => decide (p.1 = m)) = none := by
        simp only [List.find?_cons, decide_eq_false (fun z : n = m => e z.symm), List.find?_nil]
      rw [this, Option.or_none]
theorem lookD_merge : ∀ (more d : Dc) (m : Nat), (more.map (·.1)).Nodup → lookD (mergeD d more) m = (match lookD more m with | some ks => some ks | none => lookD d m)
  | [], d, m, _ => rfl
  | p :: r, d, m, hn => by
    rw [List.map_cons, List.nodup_cons] at hn
    show lookD (mergeD (putD d p.1 p.2) r) m = _
    rw [lookD_merge r _ m hn.2, lookD_put]
    by_cases e : m = p.1
    · have e2 : lookD r m = none := by
        unfold lookD
        rw [Option.map_eq_none_iff, List.find?_eq_none]
        intro q hq z
        exact hn.1 (by rw [← e, ← (of_decide_eq_true z)]; exact List.mem_map_of_mem hq)
      have e3 : lookD (p :: r) m = some p.2 := by unfold lookD; simp [e]
      rw [e2, e3, if_pos e]
    · have e3 : lookD (p :: r) m = lookD r m := by
        unfold lookD
        simp only [List.find?_cons, decide_eq_false (fun z : p.1 = m => e z.symm)]
      rw [e3, if_neg e]
def ent (n : Nat) (a : Addr) : Key × V := (.inr (nameS n), .ref a)
inductive DAt (K : PySem.W.Frag) (H : Hp) : List (Key × V) → Dc → Prop where
  | nil : DAt K H [] []
  | cons {n : Nat} {a : Addr} {ks : List Ky} {kvs : List (Key × V)} {d : Dc} (h : TapeAt K H a ks) (r : DAt K H kvs d) : DAt K H (ent n a :: kvs) ((n, ks) :: d)
section
variable {K : PySem.W.Frag} {H H1 : Hp} {kvs more : List (Key × V)} {d e : Dc}
theorem DAt.imp (f : ∀ a ks, TapeAt K H a ks → TapeAt K H1 a ks) (h : DAt K H kvs d) : DAt K H1 kvs d := by
  induction h with
  | nil => exact .nil
  | cons h _ ih => exact .cons (f _ _ h) ih
theorem DAt.kf {S : List Addr} (k : Kf S H H1) (h : DAt K H kvs d) : DAt K H1 kvs d := h.imp fun _ _ z => k.tape z
theorem DAt.kq (k : Kq [] H H1) (h : DAt K H kvs d) : DAt K H1 kvs d := h.imp fun _ _ z => k.tape z
theorem DAt.len (h : DAt K H kvs d) : kvs.length = d.length := by
  induction h with
  | nil => rfl
  | cons _ _ ih => simp [ih]
theorem DAt.keys (h : DAt K H kvs d) : kvs.map (·.1) = (d.map fun p => nameS p.1).map Sum.inr := by
  induction h with
  | nil => rfl
  | cons _ _ ih => simp only [List.map_cons, ih]; rfl
theorem key_name {n m : Nat} : ((.inr (nameS n) : Key) = .inr (nameS m)) ↔ n = m := ⟨fun h => name_inj (Sum.inr.inj h), fun h => by rw [h]⟩
theorem DAt.val (h : DAt K H kvs d) (m : Nat) : (valV kvs (.inr (nameS m)) = none ∧ lookD d m = none) ∨ ∃ a ks, valV kvs (.inr (nameS m)) = some (.ref a) ∧ lookD d m = some ks ∧ TapeAt K H a ks := by
  induction h with
  | nil => exact .inl ⟨rfl, rfl⟩
  | @cons n a ks kvs d h _ ih =>
    by_cases e : n = m
    · subst e
      exact .inr ⟨a, ks, valV_pos rfl, by unfold lookD; simp, h⟩
    · have e1 : valV (ent n a :: kvs) (.inr (nameS m)) = valV kvs (.inr (nameS m)) := valV_neg (fun z => e (key_name.mp z))
      have e2 : lookD ((n, ks) :: d) m = lookD d m := by unfold lookD; simp only [List.find?_cons, decide_eq_false e]
      rw [e1, e2]
      exact ih
theorem DAt.any (h : DAt K H kvs d) (n : Nat) : (kvs.any fun kv => decide (kv.1 = (.inr (nameS n) : Key))) = d.any fun p => decide (p.1 = n) := by
  induction h with
  | nil => rfl
  | @cons m a ks kvs d h _ ih =>
    rw [List.any_cons, List.any_cons, ih]
    congr 1
    rw [Bool.eq_iff_iff, decide_eq_true_eq, decide_eq_true_eq]
    exact key_name
theorem DAt.put (h : DAt K H kvs d) {n : Nat} {a : Addr} {ks : List Ky} (ht : TapeAt K H a ks) : DAt K H (putK kvs (.inr (nameS n)) (.ref a)) (putD d n ks) := by
  unfold putK putD
  rw [h.any n]
  split
  · rename_i hh
    clear hh
    induction h with
    | nil => exact .nil
    | @cons m b ls kvs d h _ ih =>
      by_cases e : m = n
      · subst e
        simp only [List.map_cons, ent, if_pos]
        exact .cons ht ih
      · have e2 : ¬ ((.inr (nameS m) : Key) = .inr (nameS n)) := fun z => e (key_name.mp z)
        simp only [List.map_cons, ent, if_neg e, if_neg e2]
        exact .cons h ih
  · rename_i hh
    clear hh
    induction h with
    | nil => exact .cons ht .nil
    | cons h _ ih => exact .cons h ih
theorem DAt.merge (hm : DAt K H more e) : ∀ {kvs : List (Key × V)} {d : Dc}, DAt K H kvs d → DAt K H (mergeK kvs more) (mergeD d e) := by
  induction hm with
  | nil => intro kvs d h; exact h
  | @cons n a ks more e ht _ ih => intro kvs d h; exact ih (h.put ht)
end
end KT
set_option Elab.async false
set_option linter.all false
set_option maxRecDepth 100000
set_option maxHeartbeats 4000000
namespace KT
open PySem PySem.Spec PyProof.Rows L2 GxR
variable [GT]
theorem putD_new {d : Dc} {n : Nat} {ks : List Ky} (h : ∀ p ∈ d, p.1 < n) : putD d n ks = d ++ [(n, ks)] := by
  unfold putD
  rw [if_neg]
  intro z
  obtain ⟨p, hp, e⟩ := List.any_eq_true.mp z
  have := h p hp
  have := of_decide_eq_true e
  omega
theorem namesS_cp {i c : Nat} (h : (Str.ofString "abcdefgh").cps[i]? = some c) : i < 8 ∧ c = 97 + i := by
  have e : (Str.ofString "abcdefgh").cps = #[97, 98, 99, 100, 101, 102, 103, 104] := by decide +kernel
  rw [e] at h
  match i, h with
  | 0, h => cases h; exact ⟨by decide, rfl⟩
  | 1, h => cases h; exact ⟨by decide, rfl⟩
  | 2, h => cases h; exact ⟨by decide, rfl⟩
  | 3, h => cases h; exact ⟨by decide, rfl⟩
  | 4, h => cases h; exact ⟨by decide, rfl⟩
  | 5, h => cases h; exact ⟨by decide, rfl⟩
  | 6, h => cases h; exact ⟨by decide, rfl⟩
  | 7, h => cases h; exact ⟨by decide, rfl⟩
theorem namesS_size : (Str.ofString "abcdefgh").cps.size = 8 := by decide +kernel
section
variable {P : Program} {w : World} {K : PySem.W.Frag} {mg : Str → Option Value} {base : Heap}
def sp_tapes (K : PySem.W.Frag) : Sp := fun vs H Q _ => ∃ (h l : Addr), vs = [.ref h] ∧ DrAt H h l ∧ ∀ t kvs d H', H t = none → DOk d → d.length ≤ 8 → (d.map (·.1)).Nodup → Kf [h, l] H H' → DrAt H' h l → H' t = some (.dK kvs) → DAt K H' kvs d → Q (.ref t) H'
end
end KT
set_option Elab.async false
set_option linter.all false
set_option maxRecDepth 100000
set_option maxHeartbeats 4000000
namespace KT
open PySem PySem.Spec PyProof.Rows L2 GxR
variable [GT]
/-! ### an editor's tapes set, name by name -/
theorem ne_of_none' {H : Hp} {a b : Addr} {o : HO} (h : H a = some o) (n : H b = none) : b ≠ a := fun e => by rw [e, h] at n; cases n
def tpD (d : Dc) (n : Nat) : List Ky := (lookD d n).getD []
theorem tpD_ok {d : Dc} (h : DOk d) (n : Nat) : ∀ k ∈ tpD d n, k.Ok := by
  unfold tpD lookD
  cases e : d.find? (fun p => decide (p.1 = n)) with
  | none => intro k hk; simp at hk
  | some p => exact (h.ok p (List.mem_of_find?_eq_some e)).2.2
theorem tpD_len {d : Dc} (h : DOk d) (n : Nat) : (tpD d n).length ≤ 30 := by
  unfold tpD lookD
  cases e : d.find? (fun p => decide (p.1 = n)) with
  | none => simp
  | some p => exact (h.ok p (List.mem_of_find?_eq_some e)).2.1
theorem lookD_mem {d : Dc} {p : Nat × List Ky} (h : p ∈ d) : lookD d p.1 ≠ none := by
  unfold lookD
  rw [Ne, Option.map_eq_none_iff, List.find?_eq_none]
  intro z
  exact z p h (decide_eq_true rfl)
theorem lookD_none {d : Dc} {n : Nat} (h : ∀ p ∈ d, p.1 ≠ n) : lookD d n = none := by
  unfold lookD
  rw [Option.map_eq_none_iff, List.find?_eq_none]
  intro p hp z
  exact h p hp (of_decide_eq_true z)
theorem lookD_ok {d : Dc} (h : DOk d) {n : Nat} {ks : List Ky} (e : lookD d n = some ks) : n < 8 ∧ ks.length ≤ 30 ∧ ∀ k ∈ ks, k.Ok := by
  unfold lookD at e
  obtain ⟨q, hq, rfl⟩ := Option.map_eq_some_iff.mp e
  have h1 := h.ok q (List.mem_of_find?_eq_some hq)
  have h2 : q.1 = n := by have := List.find?_some hq; simpa using this
  exact ⟨h2 ▸ h1.1, h1.2⟩
def setT (tp : Nat → List Ky) (d : Dc) (ys : List Str) (n : Nat) : List Ky := if nameS n ∈ ys then (lookD d n).getD [] else tp n
theorem setT_nil (tp : Nat → List Ky) (d : Dc) : setT tp d [] = tp := by funext n; exact if_neg (by simp)
theorem setT_step {tp : Nat → List Ky} {d : Dc} {ys : List Str} {i n : Nat} {ks : List Ky} (hy : ys[i]? = some (nameS n)) (hlk : lookD d n = some ks) :
    (fun n' => if n' = n then ks else setT tp d (ys.take i) n') = setT tp d (ys.take (i + 1)) := by
  funext n'
  have hi : i < ys.length := (List.getElem?_eq_some_iff.mp hy).1
  unfold setT
  rw [List.take_succ_eq_append_getElem hi, (List.getElem?_eq_some_iff.mp hy).2]
  by_cases e : n' = n
  · rw [if_pos e, e, if_pos (by simp), hlk]; rfl
  · rw [if_neg e]
    have : (nameS n' ∈ ys.take i ++ [nameS n]) ↔ nameS n' ∈ ys.take i := by
      rw [List.mem_append, List.mem_singleton]
      exact ⟨fun z => z.elim id fun z => absurd (name_inj z) e, .inl⟩
    simp only [this]
theorem set_names {d : Dc} (dok : DOk d) {ys : List Str} (hp : ys.Perm (d.map fun p => nameS p.1)) : ∀ y ∈ ys, ∃ n ks, n < 8 ∧ y = nameS n ∧ lookD d n = some ks := fun y hy => by
  obtain ⟨q, hq, rfl⟩ := List.mem_map.mp (hp.mem_iff.mp hy)
  cases e : lookD d q.1 with
  | none => exact absurd e (lookD_mem hq)
  | some ks => exact ⟨q.1, ks, (dok.ok q hq).1, rfl, e⟩
theorem setT_end {d : Dc} (dok : DOk d) {ys : List Str} (hp : ys.Perm (d.map fun p => nameS p.1)) : setT (fun _ => []) d ys = tpD d := by
  funext n
  unfold setT tpD
  by_cases e : nameS n ∈ ys
  · rw [if_pos e]
  · rw [if_neg e]
    have : lookD d n = none := lookD_none fun p hq z => e (hp.mem_iff.mpr (List.mem_map.mpr ⟨p, hq, by rw [z]⟩))
    rw [this]; rfl
/-- the tape at a name -/
theorem DAt.there {K : PySem.W.Frag} {H : Hp} {kvs : List (Key × V)} {d : Dc} (h : DAt K H kvs d) {n : Nat} {ks : List Ky} (e : lookD d n = some ks) : ∃ T as, valV kvs (.inr (nameS n)) = some (.ref T) ∧ SqT K H T (as.map V.ref) ∧ KeysAt K H as ks := by
  rcases h.val n with ⟨_, z⟩ | ⟨T_, ks', ev, ek, as, h1, h2⟩
  · rw [e] at z; cases z
  · rw [e] at ek
    cases ek
    exact ⟨T_, as, ev, h1, h2⟩
end KT
set_option Elab.async false
set_option linter.all false
set_option maxRecDepth 100000
set_option maxHeartbeats 4000000
namespace KT
open PySem PySem.Spec PyProof.Rows L2 GxR
variable [GT]
theorem dp_tape {K : PySem.W.Frag} {H : Hp} {a : Addr} {ks : List Ky} (h : TapeAt K H a ks) (hok : ∀ k ∈ ks, k.Ok) : Dp K H (.ref a) (tapeD ks) := by
  obtain ⟨as, h1, h2⟩ := h
  exact .tup h1 (dp_keys h2 hok)
theorem shaped_tape {ks : List Ky} (h : ∀ k ∈ ks, k.Ok) : SeqAt.shaped (tapeD ks) = true := by
  unfold SeqAt.shaped
  have h1 : PyData.canLay0 (tapeD ks) = PyData.canLayAll0 (ks.map keyD) := by unfold tapeD; simp [PyData.canLay0]
  have h2 : PyData.depth (tapeD ks) = PyData.depthAll (ks.map keyD) + 1 := by unfold tapeD; simp [PyData.depth]
  have h3 := depth_keys ks
  rw [h1, h2, lay_keys ks h, Bool.true_and]
  exact decide_eq_true (by omega)
theorem eqv_tape {ks : List Ky} (h : ∀ k ∈ ks, k.Ok) : PyData.eqv (tapeD ks) (tapeD ks) = true := SeqAt.eqv_refl _ (SeqAt.canLay_of_shaped (shaped_tape h))
theorem op_neDB {X : Cx} {K : PySem.W.Frag} (e : X.K = K) (hu : X.A.units + 64 < cLine) : OpR X (compareOp .NotEq) (rNeD K) := e ▸ op_neD hu
/-! ### dicts of tapes: how many, what at a name -/
theorem nodup_lt : ∀ (k : Nat) (l : List Nat), l.Nodup → (∀ x ∈ l, x < k) → l.length ≤ k
  | 0, l, _, h => by
    cases l with
    | nil => exact Nat.le_refl _
    | cons x r => exact absurd (h x (by simp)) (by omega)
  | k + 1, l, nd, h => by
    by_cases hk : k ∈ l
    · have h1 := nodup_lt k (l.erase k) (nd.erase k) fun x hx => by
        have h2 := (nd.mem_erase_iff.mp hx)
        have h3 := h x h2.2
        have := h2.1
        omega
      rw [List.length_erase_of_mem hk] at h1
      omega
    · have := nodup_lt k l nd fun x hx => by
        have h3 := h x hx
        have : x ≠ k := fun e => hk (e ▸ hx)
        omega
      omega
theorem putD_nd {d : Dc} {n : Nat} {ks : List Ky} (h : (d.map (·.1)).Nodup) : ((putD d n ks).map (·.1)).Nodup := by
  unfold putD
  split
  · rw [List.map_map]
    have : d.map ((fun p : Nat × List Ky => p.1) ∘ fun p => if p.1 = n then (p.1, ks) else p) = d.map (·.1) := by
      refine List.map_congr_left fun p _ => ?_
      show (if p.1 = n then (p.1, ks) else p).1 = p.1
      split <;> rfl
    rw [this]; exact h
  · rename_i hh
    rw [List.map_append, List.nodup_append]
    refine ⟨h, by simp, fun a ha b hb e => ?_⟩
    obtain ⟨p, hp, rfl⟩ := List.mem_map.mp ha
    simp at hb
    exact hh (List.any_eq_true.mpr ⟨p, hp, decide_eq_true (e.trans hb)⟩)
theorem DOk.len8 {d : Dc} (h : DOk d) (nd : (d.map (·.1)).Nodup) : d.length ≤ 8 := by
  have := nodup_lt 8 (d.map (·.1)) nd fun x hx => by
    obtain ⟨p, hp, rfl⟩ := List.mem_map.mp hx
    exact (h.ok p hp).1
  rwa [List.length_map] at this
theorem tpD_put (d : Dc) (n : Nat) (ks : List Ky) : tpD (putD d n ks) = fun i => if i = n then ks else tpD d i := by
  funext i
  unfold tpD
  rw [lookD_put]
  split <;> rfl
/-! ### text, place and clip, as a law keeps them -/
def LkAt (K : PySem.W.Frag) (H : Hp) (a : Addr) (g : Pg) : Prop := ∃ q, SqT K H a [.str (textS g.rows), .ref q, .str (S g.clip)] ∧ SqT K H q [.int (g.row : Int), .int (g.col : Int)]
theorem LkAt.kq {K : PySem.W.Frag} {H H1 : Hp} {a : Addr} {g : Pg} (h : LkAt K H a g) (k : Kq [] H H1) : LkAt K H1 a g := by
  obtain ⟨q, h1, h2⟩ := h
  exact ⟨q, k.tup h1, k.tup h2⟩
theorem LkAt.kf {K : PySem.W.Frag} {S : List Addr} {H H1 : Hp} {a : Addr} {g : Pg} (h : LkAt K H a g) (k : Kf S H H1) : LkAt K H1 a g := by
  obtain ⟨q, h1, h2⟩ := h
  exact ⟨q, k.tup h1, k.tup h2⟩
def lkD (g : Pg) : PyData := .tuple [.str (textS g.rows), .tuple [.int (g.row : Int), .int (g.col : Int)], .str (S g.clip)]
theorem LkAt.dp {K : PySem.W.Frag} {H : Hp} {a : Addr} {g : Pg} (h : LkAt K H a g) : Dp K H (.ref a) (lkD g) := by
  obtain ⟨q, h1, h2⟩ := h
  exact .tup h1 (.cons (.str _) (.cons (.tup h2 (.cons (.int _) (.cons (.int _) .nil))) (.cons (.str _) .nil)))
theorem shaped_lk {g : Pg} (ok : g.Ok) : SeqAt.shaped (lkD g) = true := by
  have h1 := strOk_text ok.sig
  have h2 := strOk_sig ok.csig
  unfold SeqAt.shaped
  have e1 : PyData.canLay0 (lkD g) = true := by
    unfold lkD
    simp [PyData.canLay0, PyData.canLayAll0, h1, h2]
  have e2 : PyData.depth (lkD g) = 2 := by
    unfold lkD
    simp [PyData.depth, PyData.depthAll]
  rw [e1, e2]; rfl
theorem eqv_lk {g : Pg} (ok : g.Ok) : PyData.eqv (lkD g) (lkD g) = true := SeqAt.eqv_refl _ (SeqAt.canLay_of_shaped (shaped_lk ok))
theorem al_tapes {K : PySem.W.Frag} {H : Hp} {n : Nat} {a b : Addr} {ks : List Ky} (h1 : TapeAt K H a ks) (h2 : TapeAt K H b ks) (hl : ks.length ≤ 1000) (ok : ∀ k ∈ ks, k.Ok) : Al K H (n + 2) (.ref a) (.ref b) := by
  obtain ⟨as, a1, a2⟩ := h1
  obtain ⟨bs, b1, b2⟩ := h2
  refine .tup a1 b1 (by rw [List.length_map, List.length_map, a2.len, b2.len]) (by rw [List.length_map, a2.len]; exact hl) fun i x y hx hy => ?_
  rw [List.getElem?_map] at hx hy
  obtain ⟨p, hp, rfl⟩ := Option.map_eq_some_iff.mp hx
  obtain ⟨q, hq, rfl⟩ := Option.map_eq_some_iff.mp hy
  obtain ⟨i1, rfl⟩ := List.getElem?_eq_some_iff.mp hp
  obtain ⟨i2, rfl⟩ := List.getElem?_eq_some_iff.mp hq
  have hi : i < ks.length := by rw [← a2.len]; exact i1
  exact al_key (a2.at_ i1 hi) (b2.at_ i2 hi) (ok _ (List.getElem_mem _))
end KT
set_option Elab.async false
set_option linter.all false
set_option maxRecDepth 100000
set_option maxHeartbeats 4000000
namespace KT
open PySem PySem.Spec PyProof.Rows L2 GxR
variable [GT]
theorem op_eqDB {X : Cx} {K : PySem.W.Frag} (e : X.K = K) (hu : X.A.units + 64 < cLine) : OpR X (compareOp .Eq) (rEqD K) := e ▸ op_eqD hu
theorem op_notIn_seqB {X : Cx} {K : PySem.W.Frag} (e : X.K = K) : OpR X (compareOp .NotIn) (rIn K true) := e ▸ op_notIn_seq
theorem ifv2 {ta tb : TE} {σ : L2.St} {Q : VK} {H : Hp} {c : Bool} (G : V → Hp → Prop) (ha : ∀ Q' : VK, (∀ v H1, G v H1 → Q' v H1) → ta σ H Q') (hb : ∀ Q' : VK, (∀ v H1, G v H1 → Q' v H1) → tb σ H Q') (hq : ∀ v H1, G v H1 → Q v H1) : if c = true then ta σ H Q else tb σ H Q := by
  cases c with
  | true => exact ha Q hq
  | false => exact hb Q hq
theorem dp_key1 {K : PySem.W.Frag} {H : Hp} {a : Addr} {k : Ky} (h : KeyAt K H a k) (ok : k.Ok) : Dp K H (.ref a) (keyD k) := .tup h (dp_small _ (keyV_small ok))
theorem shaped_key1 {k : Ky} (ok : k.Ok) : SeqAt.shaped (keyD k) = true := by
  unfold SeqAt.shaped
  have h1 : PyData.depth (keyD k) = PyData.depthAll ((keyV k).map vD) + 1 := by unfold keyD; simp [PyData.depth]
  rw [lay_key ok, h1, depth_small]; rfl
theorem eqv_key1 {k : Ky} (ok : k.Ok) : PyData.eqv (keyD k) (keyD k) = true := SeqAt.eqv_refl _ (SeqAt.canLay_of_shaped (shaped_key1 ok))
theorem eqv_tnil (xs : List PyData) : PyData.eqv (.tuple xs) (.tuple []) = xs.isEmpty := by
  cases xs <;> simp [PyData.eqv, PyData.eqvAll]
section
variable {P : Program} {w : World} {K : PySem.W.Frag} {mg : Str → Option Value} {base : Heap}
theorem PlTup.cat {H H1 : Hp} {a b : Addr} {xs ys : List Addr} {Q : VK} (ha : SqT K H a (xs.map V.ref)) (hb : SqT K H b (ys.map V.ref)) (hl : xs.length + ys.length ≤ 1000) (hq : ∀ p H', Kq [] H H' → SqT K H' p ((xs ++ ys).map V.ref) → Q (.ref p) H') :
    ∃ (a' b' : Addr) (xs' ys' : List V), V.ref a = .ref a' ∧ V.ref b = .ref b' ∧ SqT K H a' xs' ∧ SqT K H b' ys' ∧ xs'.length + ys'.length ≤ sizeLine ∧ ∀ q H', Kq [] H H' → SqT K H' q (xs' ++ ys') → Q (.ref q) H' :=
  ⟨a, b, _, _, rfl, rfl, ha, hb, line16 (by rw [List.length_map, List.length_map]; omega), fun q H' k h => hq q H' k (by rw [List.map_append]; exact h)⟩
theorem idx_pos : ∀ {as : List Addr} {k : Nat} {x : Addr}, as[k]? = some x → k < as.length := fun h => (List.getElem?_eq_some_iff.mp h).1
def sp_like (K : PySem.W.Frag) : Sp := fun vs H Q _ => ∃ (h l T_ : Addr), vs = [.ref h, .ref T_] ∧ DrAt H h l ∧ PlTup K H T_ 6 ∧ ∀ q H', Kf [h, l] H H' → DrAt H' h l → PlTup K H' q 6 → Q (.ref q) H'
theorem sc__law_like : FnScope ["_law_h", "_law_tape", "_law_n", "_law_at", "_law_more", "_law_found", "_law_k", "_law_same", "_law_border", "_law_kept", "_law_some"] ["_law_h", "_law_tape"] (defScope s__law_like) := ⟨rfl, rfl, rfl, by decide +kernel, rfl, by decide +kernel, by decide +kernel⟩
theorem ok__law_like (T : Tx w K mg) : Fk P w K mg base 2 (Ad K d__law_like.at_) ["_law_h", "_law_tape"] (sp_like K) := by
  have F__law_next := ok__law_next (P := P) (base := base) T
  refine mkF T.f__law_like sc__law_like rfl (fun _ _ _ _ _ _ us hl => match us, hl with | [_, _], _ => rfl) (fun vs H Q E h => by obtain ⟨_, _, _, rfl, _⟩ := h; rfl) (fun cdv A outer s H vs Q E hcd hcode hr h => ?_)
  refine ⟨_, (pss_cons (ps_asg (pe_cF F__law_next (hr.mono (by decide)) T.g__law_next px (pa_cons (pv 0) (pa_cons (pe_op op_add (pe_callB call_len_seq (by rfl) T.n_len (by decide +kernel) (pa_cons (pv 1) pa_nil)) pe_int) pa_nil))) (pg_name (i := 3) sc__law_like.nd rfl (.inl rfl)))
      (pss_cons (ps_asg (pe_lst (pa_cons (pe_tup (pa_cons (pe_tup (pa_cons pe_str pa_nil)) (pa_cons (pe_tup (pa_cons pe_str pa_nil)) pa_nil))) (pa_cons (pe_tup (pa_cons (pe_tup (pa_cons pe_str pa_nil)) (pa_cons (pe_tup (pa_cons pe_str pa_nil)) pa_nil))) (pa_cons (pe_tup (pa_cons (pe_tup (pa_cons pe_str (pa_cons pe_str pa_nil))) (pa_cons (pe_tup (pa_cons pe_str pa_nil)) pa_nil))) (pa_cons (pe_tup (pa_cons (pe_tup (pa_cons pe_str pa_nil)) (pa_cons (pe_tup (pa_cons pe_str pa_nil)) pa_nil))) pa_nil))))) (pg_name (i := 4) sc__law_like.nd rfl (.inl rfl)))
      (pss_cons (ps_asg (pe_op op_catU (pe_op op_catU (pe_slice sl_tupU (pv 1) po_none (po_some (pv 3))) (pe_ix ix_list (pe_op op_cat (pv 4) (pe_lst (pa_cons (pe_tup (pa_cons (pe_tup (pa_cons pe_str pa_nil)) pa_nil)) (pa_cons (pe_tup (pa_cons (pe_tup (pa_cons pe_str pa_nil)) pa_nil)) pa_nil)))) (pe_cF F__law_next (hr.mono (by decide)) T.g__law_next px (pa_cons (pv 0) (pa_cons pe_int pa_nil))) (fun _ _ => rfl))) (pe_slice sl_tupU (pv 1) (po_some (pv 3)) po_none)) (pg_name (i := 5) sc__law_like.nd rfl (.inl rfl)))
      (C8.pss_cut (ps_if ((pw_and (pt_cmpR op_eq (pe_cF F__law_next (hr.mono (by decide)) T.g__law_next px (pa_cons (pv 0) (pa_cons pe_int pa_nil))) pe_int (nomark _)) (pw_and1 (pt_cmpR (op_neD hr.units) (pv 1) (pe_tup pa_nil) (nomark _))))).pt (pss_cons (ps_asg (pe_cF F__law_next (hr.mono (by decide)) T.g__law_next px (pa_cons (pv 0) (pa_cons (pe_callB call_len_seq (by rfl) T.n_len (by decide +kernel) (pa_cons (pv 1) pa_nil)) pa_nil))) (pg_name (i := 6) sc__law_like.nd rfl (.inr rfl)))
      (pss_cons (ps_asg (pe_lc (own := [("_law_n", 2)]) (by rfl) sc__law_like.nd (pi_range1 (by rfl) T.n_range (pa_cons (pe_callB call_len_seq (by rfl) T.n_len (by decide +kernel) (pa_cons (pv 1) pa_nil)) pa_nil)) (blkOk_by (own := [("_law_n", 2)]) (N := ["_law_h", "_law_tape", "_law_n", "_law_at", "_law_more", "_law_found", "_law_k", "_law_same", "_law_border", "_law_kept", "_law_some"]) (sc := defScope s__law_like) (by decide +kernel)) (fun _ _ _ _ _ => (pg_name (i := 2) sc__law_like.nd rfl (.inl rfl))) (fun _ _ _ _ _ => (pts_one (pt_cmpR (op_eqDB (K := K) rfl hr.units) (pe_ix (ix_tupB (K := K) rfl) (pv 1) (pv 2) (fun _ _ => rfl)) (pe_ix (ix_tupB (K := K) rfl) (pv 1) (pv 6) (fun _ _ => rfl)) (nomark _)))) (fun _ _ _ _ _ => (pv 2))) (pg_name (i := 7) sc__law_like.nd rfl (.inr rfl)))
      (pss_cons (ps_asg (pe_ifExp (pt_cmpR (op_eqD hr.units) (pe_ix ix_tup (pv 1) (pv 6) (fun _ _ => rfl)) (pe_tup (pa_cons pe_str pa_nil)) (nomark _)) (pe_tup (pa_cons pe_str pa_nil)) (pe_tup (pa_cons pe_str pa_nil))) (pg_name (i := 8) sc__law_like.nd rfl (.inl rfl)))
      (pss_cons (ps_asg (pe_callTy call_tuple_of (by rfl) T.n_tuple (by decide +kernel) (pa_cons (pe_lc (own := [("_law_n", 2)]) (by rfl) sc__law_like.nd (pi_range1 (by rfl) T.n_range (pa_cons (pe_callB call_len_seq (by rfl) T.n_len (by decide +kernel) (pa_cons (pv 1) pa_nil)) pa_nil)) (blkOk_by (own := [("_law_n", 2)]) (N := ["_law_h", "_law_tape", "_law_n", "_law_at", "_law_more", "_law_found", "_law_k", "_law_same", "_law_border", "_law_kept", "_law_some"]) (sc := defScope s__law_like) (by decide +kernel)) (fun _ _ _ _ _ => (pg_name (i := 2) sc__law_like.nd rfl (.inl rfl))) (fun _ _ _ _ _ => (pts_one (pt_cmpR (op_notIn_seqB (K := K) rfl) (pv 2) (pv 7) (by rfl)))) (fun _ _ _ _ _ => (pe_ix (ix_tupB (K := K) rfl) (pv 1) (pv 2) (fun _ _ => rfl)))) pa_nil)) (pg_name (i := 9) sc__law_like.nd rfl (.inl rfl)))
      (pss_cons (ps_asg (pe_lst (pa_cons (pe_op op_catU (pe_slice sl_tupU (pv 1) po_none (po_some (pv 6))) (pe_slice sl_tupU (pv 1) (po_some (pe_op op_add (pv 6) pe_int)) po_none)) (pa_cons (pe_op op_catU (pe_slice sl_tupU (pv 1) po_none (po_some (pe_op op_add (pv 6) pe_int))) (pe_slice sl_tupU (pv 1) (po_some (pv 6)) po_none)) (pa_cons (pe_op op_catU (pe_op op_catU (pe_slice sl_tupU (pv 9) po_none (po_some (pe_ix ix_list (pv 7) pe_int (fun _ _ => rfl)))) (pe_tup (pa_cons (pv 8) pa_nil))) (pe_slice sl_tupU (pv 9) (po_some (pe_ix ix_list (pv 7) pe_int (fun _ _ => rfl))) po_none)) pa_nil)))) (pg_name (i := 10) sc__law_like.nd rfl (.inl rfl)))
      (pss_one (ps_asg (pe_ix ix_list (pv 10) (pe_cF F__law_next (hr.mono (by decide)) T.g__law_next px (pa_cons (pv 0) (pa_cons pe_int pa_nil))) (fun _ _ => rfl)) (pg_name (i := 5) sc__law_like.nd rfl (.inl rfl))))))))) pss_nil)
      (pss_one (ps_ret (pe_ifExp (pt_cmpR op_lt (pe_callB call_len_seq (by rfl) T.n_len (by decide +kernel) (pa_cons (pv 5) pa_nil)) pe_int (nomark _)) (pv 5) (pe_revT (pv 1))))))))), ?_⟩
  obtain ⟨h, l, T_, rfl, hD, ⟨as, sT, pT, lT⟩, kQ⟩ := h
  refine ⟨_, rfl, _, rfl, T_, _, rfl, .inr sT, _, _, rfl, rfl, h, l, (as.map V.ref).length + 1, rfl, hD, by omega, by rw [List.length_map]; omega, fun r H1 hr k1 hD1 => ?_⟩
  rw [List.length_map] at hr
  have kkH1 : Kq [] H1 H1 := Kq.refl
  refine ⟨line16 (by show 1 ≤ 1000000; decide), fun t1 nt1 => ?_⟩
  have kt1 : Kq [] H1 (upd H1 t1 (.tup [.str "right"])) := Kq.alloc nt1
  have gt1 : PlKey K (upd H1 t1 (.tup [.str "right"])) t1 := ⟨.right, SqT.of upd_same, by decide⟩
  have kkJ0 := kkH1.trans kt1
  generalize (upd H1 t1 (.tup [.str "right"])) = J0 at kt1 gt1 kkJ0 ⊢
  refine ⟨line16 (by show 1 ≤ 1000000; decide), fun t2 nt2 => ?_⟩
  have kt2 : Kq [] J0 (upd J0 t2 (.tup [.str "left"])) := Kq.alloc nt2
  have gt2 : PlKey K (upd J0 t2 (.tup [.str "left"])) t2 := ⟨.left, SqT.of upd_same, by decide⟩
  have kkJ1 := kkJ0.trans kt2
  generalize (upd J0 t2 (.tup [.str "left"])) = J1 at kt2 gt2 kkJ1 ⊢
  have gt1 := gt1.kq kt2
  refine ⟨line16 (by show 2 ≤ 1000000; decide), fun p1 np1 => ?_⟩
  have kp1 : Kq [] J1 (upd J1 p1 (.tup [.ref t1, .ref t2])) := Kq.alloc np1
  have gp1 : PlTup K (upd J1 p1 (.tup [.ref t1, .ref t2])) p1 2 := ⟨[t1, t2], SqT.of upd_same, fun y hy => by
    simp only [List.mem_cons, List.not_mem_nil, or_false] at hy
    rcases hy with rfl | rfl
    · exact gt1.kq kp1
    · exact gt2.kq kp1, by show 2 ≤ 2; decide⟩
  have kkJ2 := kkJ1.trans kp1
  generalize (upd J1 p1 (.tup [.ref t1, .ref t2])) = J2 at kp1 gp1 kkJ2 ⊢
  have gt1 := gt1.kq kp1
  have gt2 := gt2.kq kp1
  refine ⟨line16 (by show 1 ≤ 1000000; decide), fun t3 nt3 => ?_⟩
  have kt3 : Kq [] J2 (upd J2 t3 (.tup [.str "left"])) := Kq.alloc nt3
  have gt3 : PlKey K (upd J2 t3 (.tup [.str "left"])) t3 := ⟨.left, SqT.of upd_same, by decide⟩
  have kkJ3 := kkJ2.trans kt3
  generalize (upd J2 t3 (.tup [.str "left"])) = J3 at kt3 gt3 kkJ3 ⊢
  have gp1 := gp1.kq kt3
  refine ⟨line16 (by show 1 ≤ 1000000; decide), fun t4 nt4 => ?_⟩
  have kt4 : Kq [] J3 (upd J3 t4 (.tup [.str "right"])) := Kq.alloc nt4
  have gt4 : PlKey K (upd J3 t4 (.tup [.str "right"])) t4 := ⟨.right, SqT.of upd_same, by decide⟩
  have kkJ4 := kkJ3.trans kt4
  generalize (upd J3 t4 (.tup [.str "right"])) = J4 at kt4 gt4 kkJ4 ⊢
  have gp1 := gp1.kq kt4
  have gt3 := gt3.kq kt4
  refine ⟨line16 (by show 2 ≤ 1000000; decide), fun p2 np2 => ?_⟩
  have kp2 : Kq [] J4 (upd J4 p2 (.tup [.ref t3, .ref t4])) := Kq.alloc np2
  have gp2 : PlTup K (upd J4 p2 (.tup [.ref t3, .ref t4])) p2 2 := ⟨[t3, t4], SqT.of upd_same, fun y hy => by
    simp only [List.mem_cons, List.not_mem_nil, or_false] at hy
    rcases hy with rfl | rfl
    · exact gt3.kq kp2
    · exact gt4.kq kp2, by show 2 ≤ 2; decide⟩
  have kkJ5 := kkJ4.trans kp2
  generalize (upd J4 p2 (.tup [.ref t3, .ref t4])) = J5 at kp2 gp2 kkJ5 ⊢
  have gp1 := gp1.kq kp2
  have gt3 := gt3.kq kp2
  have gt4 := gt4.kq kp2
  refine ⟨line16 (by show 2 ≤ 1000000; decide), fun t5 nt5 => ?_⟩
  have kt5 : Kq [] J5 (upd J5 t5 (.tup [.str "put", .str "x"])) := Kq.alloc nt5
  have gt5 : PlKey K (upd J5 t5 (.tup [.str "put", .str "x"])) t5 := ⟨.put [120], SqT.of upd_same, by decide⟩
  have kkJ6 := kkJ5.trans kt5
  generalize (upd J5 t5 (.tup [.str "put", .str "x"])) = J6 at kt5 gt5 kkJ6 ⊢
  have gp1 := gp1.kq kt5
  have gp2 := gp2.kq kt5
  refine ⟨line16 (by show 1 ≤ 1000000; decide), fun t6 nt6 => ?_⟩
  have kt6 : Kq [] J6 (upd J6 t6 (.tup [.str "rub"])) := Kq.alloc nt6
  have gt6 : PlKey K (upd J6 t6 (.tup [.str "rub"])) t6 := ⟨.rub, SqT.of upd_same, by decide⟩
  have kkJ7 := kkJ6.trans kt6
  generalize (upd J6 t6 (.tup [.str "rub"])) = J7 at kt6 gt6 kkJ7 ⊢
  have gp1 := gp1.kq kt6
  have gp2 := gp2.kq kt6
  have gt5 := gt5.kq kt6
  refine ⟨line16 (by show 2 ≤ 1000000; decide), fun p3 np3 => ?_⟩
  have kp3 : Kq [] J7 (upd J7 p3 (.tup [.ref t5, .ref t6])) := Kq.alloc np3
  have gp3 : PlTup K (upd J7 p3 (.tup [.ref t5, .ref t6])) p3 2 := ⟨[t5, t6], SqT.of upd_same, fun y hy => by
    simp only [List.mem_cons, List.not_mem_nil, or_false] at hy
    rcases hy with rfl | rfl
    · exact gt5.kq kp3
    · exact gt6.kq kp3, by show 2 ≤ 2; decide⟩
  have kkJ8 := kkJ7.trans kp3
  generalize (upd J7 p3 (.tup [.ref t5, .ref t6])) = J8 at kp3 gp3 kkJ8 ⊢
  have gp1 := gp1.kq kp3
  have gp2 := gp2.kq kp3
  have gt5 := gt5.kq kp3
  have gt6 := gt6.kq kp3
  refine ⟨line16 (by show 1 ≤ 1000000; decide), fun t7 nt7 => ?_⟩
  have kt7 : Kq [] J8 (upd J8 t7 (.tup [.str "home"])) := Kq.alloc nt7
  have gt7 : PlKey K (upd J8 t7 (.tup [.str "home"])) t7 := ⟨.home, SqT.of upd_same, by decide⟩
  have kkJ9 := kkJ8.trans kt7
  generalize (upd J8 t7 (.tup [.str "home"])) = J9 at kt7 gt7 kkJ9 ⊢
  have gp1 := gp1.kq kt7
  have gp2 := gp2.kq kt7
  have gp3 := gp3.kq kt7
  refine ⟨line16 (by show 1 ≤ 1000000; decide), fun t8 nt8 => ?_⟩
  have kt8 : Kq [] J9 (upd J9 t8 (.tup [.str "home"])) := Kq.alloc nt8
  have gt8 : PlKey K (upd J9 t8 (.tup [.str "home"])) t8 := ⟨.home, SqT.of upd_same, by decide⟩
  have kkJ10 := kkJ9.trans kt8
  generalize (upd J9 t8 (.tup [.str "home"])) = J10 at kt8 gt8 kkJ10 ⊢
  have gp1 := gp1.kq kt8
  have gp2 := gp2.kq kt8
  have gp3 := gp3.kq kt8
  have gt7 := gt7.kq kt8
  refine ⟨line16 (by show 2 ≤ 1000000; decide), fun p4 np4 => ?_⟩
  have kp4 : Kq [] J10 (upd J10 p4 (.tup [.ref t7, .ref t8])) := Kq.alloc np4
  have gp4 : PlTup K (upd J10 p4 (.tup [.ref t7, .ref t8])) p4 2 := ⟨[t7, t8], SqT.of upd_same, fun y hy => by
    simp only [List.mem_cons, List.not_mem_nil, or_false] at hy
    rcases hy with rfl | rfl
    · exact gt7.kq kp4
    · exact gt8.kq kp4, by show 2 ≤ 2; decide⟩
  have kkJ11 := kkJ10.trans kp4
  generalize (upd J10 p4 (.tup [.ref t7, .ref t8])) = J11 at kp4 gp4 kkJ11 ⊢
  have gp1 := gp1.kq kp4
  have gp2 := gp2.kq kp4
  have gp3 := gp3.kq kp4
  have gt7 := gt7.kq kp4
  have gt8 := gt8.kq kp4
  refine ⟨line16 (by show 4 ≤ 1000000; decide), fun M nM => ?_⟩
  have kM : Kq [] J11 (upd J11 M (.lst [.ref p1, .ref p2, .ref p3, .ref p4])) := Kq.alloc nM
  have gM : (upd J11 M (.lst [.ref p1, .ref p2, .ref p3, .ref p4])) M = some (.lst [.ref p1, .ref p2, .ref p3, .ref p4]) := upd_same
  have kk2 := kkJ11.trans kM
  generalize (upd J11 M (.lst [.ref p1, .ref p2, .ref p3, .ref p4])) = H2 at kM gM kk2 ⊢
  have gp1 := gp1.kq kM
  have gp2 := gp2.kq kM
  have gp3 := gp3.kq kM
  have gp4 := gp4.kq kM
  have k02 := k1.kq kk2
  have hD2 := hD1.kq kk2
  clear kkJ11 kkJ10 kkJ9 kkJ8 kkJ7 kkJ6 kkJ5 kkJ4 kkJ3 kkJ2 kkJ1 kkJ0 kk2 kM hD1 k1
  have sT2 := k02.tup sT
  -- tape[:at]
  refine ⟨_, rfl, _, rfl, _, rfl, T_, _, rfl, sT2, fun u1 H3 k3 su1 => ?_⟩
  rw [cut_take (as.map V.ref) (n := r) rfl, ← List.map_take] at su1
  have gM3 := k3.get gM
  -- the steps to choose of
  refine ⟨_, rfl, line16 (by show 1 ≤ 1000000; decide), fun t9 nt9 => ?_⟩
  have kt9 : Kq [] H3 (upd H3 t9 (.tup [.str "end"])) := Kq.alloc nt9
  have gt9 : PlKey K (upd H3 t9 (.tup [.str "end"])) t9 := ⟨.end_, SqT.of upd_same, by decide⟩
  have kk0 := kt9
  generalize (upd H3 t9 (.tup [.str "end"])) = J0 at kt9 gt9 kk0 ⊢
  refine ⟨line16 (by show 1 ≤ 1000000; decide), fun p5 np5 => ?_⟩
  have kp5 : Kq [] J0 (upd J0 p5 (.tup [.ref t9])) := Kq.alloc np5
  have gp5 : PlTup K (upd J0 p5 (.tup [.ref t9])) p5 2 := ⟨[t9], SqT.of upd_same, fun y hy => by
    rw [List.mem_singleton.mp hy]; exact gt9.kq kp5, by show 1 ≤ 2; decide⟩
  have kk1 := kk0.trans kp5
  generalize (upd J0 p5 (.tup [.ref t9])) = J1 at kp5 gp5 kk1 ⊢
  refine ⟨line16 (by show 1 ≤ 1000000; decide), fun t10 nt10 => ?_⟩
  have kt10 : Kq [] J1 (upd J1 t10 (.tup [.str "home"])) := Kq.alloc nt10
  have gt10 : PlKey K (upd J1 t10 (.tup [.str "home"])) t10 := ⟨.home, SqT.of upd_same, by decide⟩
  have kk2 := kk1.trans kt10
  generalize (upd J1 t10 (.tup [.str "home"])) = J2 at kt10 gt10 kk2 ⊢
  refine ⟨line16 (by show 1 ≤ 1000000; decide), fun p6 np6 => ?_⟩
  have kp6 : Kq [] J2 (upd J2 p6 (.tup [.ref t10])) := Kq.alloc np6
  have gp6 : PlTup K (upd J2 p6 (.tup [.ref t10])) p6 2 := ⟨[t10], SqT.of upd_same, fun y hy => by
    rw [List.mem_singleton.mp hy]; exact gt10.kq kp6, by show 1 ≤ 2; decide⟩
  have kk3 := kk2.trans kp6
  generalize (upd J2 p6 (.tup [.ref t10])) = J3 at kp6 gp6 kk3 ⊢
  refine ⟨line16 (by show 2 ≤ 1000000; decide), fun L2 nL2 => ?_⟩
  have kL2 : Kq [] J3 (upd J3 L2 (.lst [.ref p5, .ref p6])) := Kq.alloc nL2
  have gL2 : (upd J3 L2 (.lst [.ref p5, .ref p6])) L2 = some (.lst [.ref p5, .ref p6]) := upd_same
  have kk4 := kk3.trans kL2
  generalize (upd J3 L2 (.lst [.ref p5, .ref p6])) = J4 at kL2 gL2 kk4 ⊢
  refine ⟨M, L2, _, _, rfl, rfl, kk4.get gM3, gL2, line16 (by show 6 ≤ 1000000; decide), fun N nN => ?_⟩
  have kN : Kq [] J4 (upd J4 N (.lst [.ref p1, .ref p2, .ref p3, .ref p4, .ref p5, .ref p6])) := Kq.alloc nN
  have gN : (upd J4 N (.lst [.ref p1, .ref p2, .ref p3, .ref p4, .ref p5, .ref p6])) N = some (.lst [.ref p1, .ref p2, .ref p3, .ref p4, .ref p5, .ref p6]) := upd_same
  show _
  generalize hJ5 : (upd J4 N (.lst ([.ref p1, .ref p2, .ref p3, .ref p4] ++ [.ref p5, .ref p6]))) = J5
  have hJ5' : (upd J4 N (.lst [.ref p1, .ref p2, .ref p3, .ref p4, .ref p5, .ref p6])) = J5 := hJ5
  rw [hJ5'] at kN gN
  have k3N := kk4.trans kN
  have hD5 := (hD2.kq k3).kq k3N
  have k05 := (k02.kq k3).kq k3N
  have pgs : ∀ y ∈ [p1, p2, p3, p4, p5, p6], PlTup K J5 y 2 := fun y hy => by
    simp only [List.mem_cons, List.not_mem_nil, or_false] at hy
    rcases hy with rfl | rfl | rfl | rfl | rfl | rfl
    · exact (gp1.kq k3).kq k3N
    · exact (gp2.kq k3).kq k3N
    · exact (gp3.kq k3).kq k3N
    · exact (gp4.kq k3).kq k3N
    · exact gp5.kq ((((kt10.trans kp6).trans kL2).trans kN))
    · exact gp6.kq (kL2.trans kN)
  have su5 : SqT K J5 u1 ((as.take r).map V.ref) := k3N.tup su1
  have nNd : N ∉ [h, l] := fresh_ne ((hD2.kq k3).kq kk4).some nN
  clear gp1 gp2 gp3 gp4 gp5 gp6 gt1 gt2 gt3 gt4 gt5 gt6 gt7 gt8 gt9 gt10 kk4 kk3 kk2 kk1 kk0 kN kL2 kp6 kt10 kp5 kt9 hJ5 hJ5' k02 hD2
  refine ⟨_, rfl, h, l, 6, rfl, hD5, by decide, by decide, fun q J6 hq k6 hD6 => ?_⟩
  have hP : ∃ p, ([.ref p1, .ref p2, .ref p3, .ref p4, .ref p5, .ref p6] : List V)[q]? = some (.ref p) ∧ p ∈ [p1, p2, p3, p4, p5, p6] := match q, hq with
    | 0, _ => ⟨_, rfl, by simp⟩
    | 1, _ => ⟨_, rfl, by simp⟩
    | 2, _ => ⟨_, rfl, by simp⟩
    | 3, _ => ⟨_, rfl, by simp⟩
    | 4, _ => ⟨_, rfl, by simp⟩
    | 5, _ => ⟨_, rfl, by simp⟩
  obtain ⟨p, ep, hp⟩ := hP
  refine ⟨N, _, _, .ref p, rfl, rfl, SqL.of (k6.q.gets gN nNd), at_of rfl ep, ?_⟩
  obtain ⟨ps, sp, pp, lp⟩ := (pgs p hp).kf k6
  have k06 := k05.trans k6
  have su6 : SqT K J6 u1 ((as.take r).map V.ref) := k6.tup su5
  clear pgs su5 su1 gN gM gM3 k05 k6 k3N k3 hD5
  refine ⟨u1, p, _, _, rfl, rfl, su6, sp, line16 (by rw [List.length_map, List.length_map, List.length_take]; omega), fun u2 J7 k7 su7 => ?_⟩
  rw [← List.map_append] at su7
  have sT7 : SqT K J7 T_ (as.map V.ref) := k7.tup (k06.tup sT)
  refine ⟨_, rfl, _, rfl, _, rfl, T_, _, rfl, sT7, fun u3 J8 k8 su8 => ?_⟩
  rw [cut_drop (as.map V.ref) (n := r) rfl, ← List.map_drop] at su8
  refine ⟨u2, u3, _, _, rfl, rfl, k8.tup su7, su8, line16 (by rw [List.length_map, List.length_map, List.length_append, List.length_take, List.length_drop]; omega), fun u4 J9 k9 su9 => ?_⟩
  rw [← List.map_append] at su9
  have k69 := (k7.trans k8).trans k9
  have k09 := k06.kq k69
  have hD9 := hD6.kq k69
  have gu : PlTup K J9 u4 (as.length + 2) := ⟨_, su9, fun y hy => by
    rcases List.mem_append.mp hy with hy | hy
    · rcases List.mem_append.mp hy with hy | hy
      · exact ((pT y (List.mem_of_mem_take hy)).kf k09)
      · exact (pp y hy).kq k69
    · exact ((pT y (List.mem_of_mem_drop hy)).kf k09), by rw [List.length_append, List.length_append, List.length_take, List.length_drop]; omega⟩
  refine ⟨fun σ H' => ∃ f v2 v6 v7 v8 v9 v10, σ = [some (.ref h), some (.ref T_), v2, some (.int (r : Int)), some (.ref M), some (.ref f), v6, v7, v8, v9, v10] ∧ Kf [h, l] H H' ∧ DrAt H' h l ∧ PlTup K H' f (as.length + 2), ?_, ?_⟩
  · clear su9 su8 su7 su6 sp pp k8 k7 k06 k69 hD6
    refine ⟨_, rfl, h, l, 3, rfl, hD9, by decide, by decide, fun q1 K1 hq1 kk1 hDk1 => ⟨rfl, _, rfl, iteD (fun e => ?_) (fun _ => ?_)⟩⟩
    · have k01 := k09.trans kk1
      refine ⟨_, rfl, line16 (by show 0 ≤ 1000000; decide), fun p0 np0 => ?_⟩
      have kp0 : Kq [] K1 (upd K1 p0 (.tup [])) := Kq.alloc np0
      have gp0 : SqT K (upd K1 p0 (.tup [])) p0 [] := SqT.of upd_same
      have k02 := k01.kq kp0
      have hDk2 := hDk1.kq kp0
      have gu2 := (gu.kf kk1).kq kp0
      generalize (upd K1 p0 (.tup [])) = K2 at kp0 gp0 k02 hDk2 gu2 ⊢
      obtain ⟨ks, hks, pks⟩ := pl_keys fun x hx => (pT x hx).kf k02
      refine ⟨tapeD ks, .tuple [], dp_tape ⟨as, k02.tup sT, hks⟩ (fun k hk => (plain_ok (pks k hk)).1), .tup gp0 .nil, shaped_tape (fun k hk => (plain_ok (pks k hk)).1), by decide, _, rfl, ?_⟩
      rw [show tapeD ks = .tuple (ks.map keyD) from rfl, eqv_tnil]
      cases hkn : ks with
      | nil => exact ⟨u4, none, none, none, none, none, none, rfl, k02, hDk2, gu2⟩
      | cons ky0 ks0 =>
        have hlen : 0 < as.length := by rw [hks.len, hkn]; exact Nat.succ_pos _
        clear hkn hks gp0 gu2 gu
        show _
        rw [List.map_cons, List.isEmpty_cons, Bool.not_false, if_pos rfl]
        refine ⟨_, rfl, _, rfl, T_, _, rfl, .inr (k02.tup sT), h, l, (as.map V.ref).length, rfl, hDk2, by rw [List.length_map]; exact hlen, by rw [List.length_map]; omega, fun k K3 hk kk3 hDk3 => ?_⟩
        rw [List.length_map] at hk
        have k03 := k02.trans kk3
        have eK : (as.map V.ref)[k]? = some (.ref as[k]) := by rw [List.getElem?_map, List.getElem?_eq_getElem hk]; rfl
        obtain ⟨kyK, hkyK, pkyK⟩ := (pT _ (List.getElem_mem hk)).kf k03
        refine ⟨_, rfl, T_, _, rfl, .inr (k03.tup sT), _, rfl, by omega, by rw [List.length_map]; omega, fun D nD => ?_⟩
        refine lc_range (lo := 0) (n := ((as.map V.ref).length : Int).toNat) (fun i H' => Kq [] K3 H' ∧ ∃ ns : List Nat, H' D = some (.lst (ns.map fun n : Nat => V.int (0 + (n : Int)))) ∧ ns.length ≤ i ∧ (∀ n ∈ ns, n < as.length) ∧ (k < i → ns ≠ [])) ⟨Kq.alloc nD, [], upd_same, by simp, by simp, by omega⟩ ?_ ?_
        · rintro i H' hi ⟨k', ns, gD, hl, hm, hne⟩
          have hi : i < as.length := by rw [List.length_map] at hi; omega
          have eI : (as.map V.ref)[i]? = some (.ref as[i]) := by rw [List.getElem?_map, List.getElem?_eq_getElem hi]; rfl
          obtain ⟨kyI, hkyI, pkyI, hsame⟩ : ∃ ky, KeyAt K H' as[i] ky ∧ ky.plain = true ∧ (k = i → ky = kyK) := by
            by_cases e2 : k = i
            · subst e2
              exact ⟨kyK, k'.key hkyK, pkyK, fun _ => rfl⟩
            · obtain ⟨ky, h1, h2⟩ := (pT _ (List.getElem_mem hi)).kf (k03.kq k')
              exact ⟨ky, h1, h2, fun e => absurd e e2⟩
          refine ⟨rfl, _, rfl, _, rfl, T_, _, _, _, rfl, rfl, (k03.kq k').tup sT, at_of (j := i) (by omega) eI, _, rfl, _, rfl, T_, _, _, _, rfl, rfl, (k03.kq k').tup sT, at_of rfl eK, keyD kyI, keyD kyK, dp_key1 hkyI (plain_ok pkyI).1, dp_key1 (k'.key hkyK) (plain_ok pkyK).1, shaped_key1 (plain_ok pkyI).1, shaped_key1 (plain_ok pkyK).1, _, rfl, ?_⟩
          show (if PyData.eqv (keyD kyI) (keyD kyK) = true then _ else _)
          by_cases he : PyData.eqv (keyD kyI) (keyD kyK) = true
          · rw [if_pos he]
            refine ⟨_, rfl, _, gD, small1000 (by rw [List.length_map]; omega), k'.writeF nD gD, ns ++ [i], ?_, ?_, ?_, ?_⟩
            · rw [upd_same, List.map_append]; rfl
            · rw [List.length_append]; simp; omega
            · intro n hn
              rcases List.mem_append.mp hn with h1 | h1
              · exact hm n h1
              · rw [List.mem_singleton.mp h1]; exact hi
            · intro _ e0; simp at e0
          · rw [if_neg he]
            refine ⟨k', ns, gD, by omega, hm, fun hki => ?_⟩
            by_cases e2 : k = i
            · subst e2
              exfalso
              rw [hsame rfl] at he
              exact he (eqv_key1 (plain_ok pkyK).1)
            · exact hne (by omega)
        · rintro K4 ⟨k34, ns, gD, hl, hm, hne⟩
          rw [List.length_map] at hl hne
          obtain ⟨n0, ns0, ens⟩ : ∃ n0 ns0, ns = n0 :: ns0 := by
            cases ns with
            | nil => exact absurd rfl (hne (by omega))
            | cons n0 ns0 => exact ⟨n0, ns0, rfl⟩
          have hn0 : n0 < as.length := hm n0 (by rw [ens]; simp)
          have k04 := k03.kq k34
          have hDk4 := hDk3.kq k34
          have hkyK4 := k34.key hkyK
          -- the border
          refine ⟨_, rfl, _, rfl, T_, _, _, _, rfl, rfl, k04.tup sT, at_of rfl eK, line16 (by show 1 ≤ 1000000; decide), fun z nz => ?_⟩
          have kz : Kq [] K4 (upd K4 z (.tup [.str "left"])) := Kq.alloc nz
          have gz : KeyAt K (upd K4 z (.tup [.str "left"])) z .left := SqT.of upd_same
          generalize (upd K4 z (.tup [.str "left"])) = K5 at kz gz ⊢
          refine ⟨keyD kyK, keyD .left, dp_key1 (kz.key hkyK4) (plain_ok pkyK).1, dp_key1 gz (plain_ok (k := .left) rfl).1, shaped_key1 (plain_ok pkyK).1, shaped_key1 (plain_ok (k := .left) rfl).1, _, rfl, ?_⟩
          refine ifv2 (fun v H => ∃ b, v = .ref b ∧ Kq [] K5 H ∧ PlKey K H b) (fun Q' hq => ?_) (fun Q' hq => ?_) ?_
          · refine ⟨line16 (by show 1 ≤ 1000000; decide), fun b nb => hq _ _ ⟨b, rfl, Kq.alloc nb, .home, SqT.of upd_same, by decide⟩⟩
          · refine ⟨line16 (by show 1 ≤ 1000000; decide), fun b nb => hq _ _ ⟨b, rfl, Kq.alloc nb, .end_, SqT.of upd_same, by decide⟩⟩
          rintro _ K6 ⟨b, rfl, k56, pb⟩
          have k46 := kz.trans k56
          have k06 := k04.kq k46
          have hDk6 := hDk4.kq k46
          have gD6 := k46.get gD
          clear k56 kz gz hkyK4 gD hDk4 hDk3 hDk2
          -- the kept ones
          refine ⟨_, rfl, T_, _, rfl, .inr (k06.tup sT), _, rfl, by omega, by rw [List.length_map]; omega, fun D2 nD2 => ?_⟩
          refine lc_range (lo := 0) (n := ((as.map V.ref).length : Int).toNat) (fun i H' => Kq [] K6 H' ∧ ∃ xs : List Addr, H' D2 = some (.lst (xs.map V.ref)) ∧ xs.length ≤ i ∧ ∀ x ∈ xs, PlKey K H' x) ⟨Kq.alloc nD2, [], upd_same, by simp, by simp⟩ ?_ ?_
          · rintro i H' hi ⟨k', xs, gD2, hl2, hx2⟩
            have hi : i < as.length := by rw [List.length_map] at hi; omega
            have eI : (as.map V.ref)[i]? = some (.ref as[i]) := by rw [List.getElem?_map, List.getElem?_eq_getElem hi]; rfl
            refine ⟨rfl, _, rfl, _, rfl, D, _, rfl, .inl (SqL.of (k'.get gD6)), rfl, ?_, _, rfl, ?_⟩
            · rw [List.all_eq_true]
              intro v hv
              obtain ⟨n, _, rfl⟩ := List.mem_map.mp hv
              rfl
            show (if (!inV (.int (0 + (i : Int))) (ns.map fun n : Nat => V.int (0 + (n : Int)))) = true then _ else _)
            by_cases he : (!inV (.int (0 + (i : Int))) (ns.map fun n : Nat => V.int (0 + (n : Int)))) = true
            · rw [if_pos he]
              have gx := (pT _ (List.getElem_mem hi)).kf (k06.kq k')
              refine ⟨_, rfl, _, rfl, T_, _, _, _, rfl, rfl, (k06.kq k').tup sT, at_of (j := i) (by omega) eI, _, gD2, small1000 (by rw [List.length_map]; omega), k'.writeF nD2 gD2, xs ++ [as[i]], ?_, ?_, ?_⟩
              · rw [upd_same, List.map_append]; rfl
              · rw [List.length_append]; simp; omega
              · have kw : Kf [D2] H' (upd H' D2 (.lst (xs.map V.ref ++ [.ref as[i]]))) := Kf.one gD2
                intro x hx
                rcases List.mem_append.mp hx with h1 | h1
                · exact (hx2 x h1).kf kw
                · rw [List.mem_singleton.mp h1]; exact gx.kf kw
            · rw [if_neg he]
              exact ⟨k', xs, gD2, by omega, hx2⟩
          · rintro K7 ⟨k67, xs, gD2, hl2, hx2⟩
            rw [List.length_map] at hl2
            refine ⟨D2, _, rfl, .inl ⟨SqL.of gD2, fun kp nkp => ?_⟩⟩
            have kkp : Kq [] K7 (upd K7 kp (.tup (xs.map V.ref))) := Kq.alloc nkp
            have skp : SqT K (upd K7 kp (.tup (xs.map V.ref))) kp (xs.map V.ref) := SqT.of upd_same
            have gD7 := (k67.trans kkp).get gD6
            have pb8 := (pb.kq k67).kq kkp
            have hx8 : ∀ x ∈ xs, PlKey K (upd K7 kp (.tup (xs.map V.ref))) x := fun x hx => (hx2 x hx).kq kkp
            have k08 := (k06.kq k67).kq kkp
            have hDk8 := (hDk6.kq k67).kq kkp
            generalize (upd K7 kp (.tup (xs.map V.ref))) = K8 at skp gD7 pb8 hx8 k08 hDk8 ⊢
            clear kkp gD2 hx2 k67 pb gD6 hDk6 k06 k46 k34
            subst ens
            -- the three
            refine ⟨_, rfl, _, rfl, _, rfl, T_, _, rfl, k08.tup sT, fun a1 K9 m1 s1 => ?_⟩
            rw [cut_take (as.map V.ref) (n := k) rfl, ← List.map_take] at s1
            refine ⟨_, rfl, _, rfl, _, _, rfl, rfl, _, rfl, T_, _, rfl, (k08.kq m1).tup sT, fun a2 K10 m2 s2 => ?_⟩
            rw [cut_drop (as.map V.ref) (n := k + 1) (by omega), ← List.map_drop] at s2
            refine ⟨a1, a2, _, _, rfl, rfl, m2.tup s1, s2, line16 (by rw [List.length_map, List.length_map, List.length_take, List.length_drop]; omega), fun a3 K11 m3 s3 => ?_⟩
            rw [← List.map_append] at s3
            have m13 := (m1.trans m2).trans m3
            have k011 := k08.kq m13
            have g1 : PlTup K K11 a3 (as.length + 2) := ⟨_, s3, fun y hy => by
              rcases List.mem_append.mp hy with hy | hy
              · exact (pT y (List.mem_of_mem_take hy)).kf k011
              · exact (pT y (List.mem_of_mem_drop hy)).kf k011, by rw [List.length_append, List.length_take, List.length_drop]; omega⟩
            clear s1 s2 s3 m1 m2 m3
            refine ⟨_, rfl, _, rfl, _, _, rfl, rfl, _, rfl, T_, _, rfl, k011.tup sT, fun a4 K12 m4 s4 => ?_⟩
            rw [cut_take (as.map V.ref) (n := k + 1) (by omega), ← List.map_take] at s4
            refine ⟨_, rfl, _, rfl, _, rfl, T_, _, rfl, (k011.kq m4).tup sT, fun a5 K13 m5 s5 => ?_⟩
            rw [cut_drop (as.map V.ref) (n := k) rfl, ← List.map_drop] at s5
            refine ⟨a4, a5, _, _, rfl, rfl, m5.tup s4, s5, line16 (by rw [List.length_map, List.length_map, List.length_take, List.length_drop]; omega), fun a6 K14 m6 s6 => ?_⟩
            rw [← List.map_append] at s6
            have m46 := (m4.trans m5).trans m6
            have k014 := k011.kq m46
            have g2 : PlTup K K14 a6 (as.length + 2) := ⟨_, s6, fun y hy => by
              rcases List.mem_append.mp hy with hy | hy
              · exact (pT y (List.mem_of_mem_take hy)).kf k014
              · exact (pT y (List.mem_of_mem_drop hy)).kf k014, by rw [List.length_append, List.length_take, List.length_drop]; omega⟩
            have m114 := m13.trans m46
            have gD14 := m114.get gD7
            have pb14 := pb8.kq m114
            have hx14 : ∀ x ∈ xs, PlKey K K14 x := fun x hx => (hx8 x hx).kq m114
            have skp14 := m114.tup skp
            have g1 := g1.kq m46
            have hDk14 := hDk8.kq m114
            clear s4 s5 s6 m4 m5 m6 m46 m114 m13 gD7 pb8 hx8 skp hDk8 k011 k08
            refine ⟨_, rfl, _, rfl, D, _, _, .int (0 + (n0 : Int)), rfl, rfl, SqL.of gD14, at_of (j := 0) rfl rfl, _, rfl, kp, _, rfl, skp14, fun a7 K15 m7 s7 => ?_⟩
            rw [cut_take (xs.map V.ref) (n := n0) (by omega), ← List.map_take] at s7
            refine ⟨_, rfl, line16 (by show 1 ≤ 1000000; decide), fun c nc => ?_⟩
            have mc : Kq [] K15 (upd K15 c (.tup [.ref b])) := Kq.alloc nc
            have sc : SqT K (upd K15 c (.tup [.ref b])) c ([b].map V.ref) := SqT.of upd_same
            generalize (upd K15 c (.tup [.ref b])) = K16 at mc sc ⊢
            refine ⟨a7, c, _, _, rfl, rfl, mc.tup s7, sc, line16 (by rw [List.length_map, List.length_map, List.length_take]; show _ + 1 ≤ _; omega), fun a8 K17 m8 s8 => ?_⟩
            rw [← List.map_append] at s8
            have m147 := (m7.trans mc).trans m8
            refine ⟨_, rfl, _, rfl, D, _, _, .int (0 + (n0 : Int)), rfl, rfl, SqL.of (m147.get gD14), at_of (j := 0) rfl rfl, _, rfl, kp, _, rfl, m147.tup skp14, fun a9 K18 m9 s9 => ?_⟩
            rw [cut_drop (xs.map V.ref) (n := n0) (by omega), ← List.map_drop] at s9
            refine ⟨a8, a9, _, _, rfl, rfl, m9.tup s8, s9, line16 (by rw [List.length_map, List.length_map, List.length_append, List.length_take, List.length_drop]; show _ + 1 + _ ≤ _; omega), fun a10 K19 m10 s10 => ?_⟩
            rw [← List.map_append] at s10
            have m149 := (m147.trans m9).trans m10
            have k019 := k014.kq m149
            have g3 : PlTup K K19 a10 (as.length + 2) := ⟨_, s10, fun y hy => by
              rcases List.mem_append.mp hy with hy | hy
              · rcases List.mem_append.mp hy with hy | hy
                · exact (hx14 y (List.mem_of_mem_take hy)).kq m149
                · rw [List.mem_singleton.mp hy]; exact pb14.kq m149
              · exact (hx14 y (List.mem_of_mem_drop hy)).kq m149, by rw [List.length_append, List.length_append, List.length_take, List.length_drop]; show _ + 1 + _ ≤ _; omega⟩
            have g1 := g1.kq m149
            have g2 := g2.kq m149
            have hDk19 := hDk14.kq m149
            clear s7 s8 s9 s10 m7 m8 m9 m10 mc sc m147 m149 hx14 pb14 gD14 skp14 hDk14 k014
            refine ⟨line16 (by show 3 ≤ 1000000; decide), fun E3 nE3 => ?_⟩
            have mE : Kq [] K19 (upd K19 E3 (.lst [.ref a3, .ref a6, .ref a10])) := Kq.alloc nE3
            have gE : (upd K19 E3 (.lst [.ref a3, .ref a6, .ref a10])) E3 = some (.lst [.ref a3, .ref a6, .ref a10]) := upd_same
            have nEd : E3 ∉ [h, l] := fresh_ne hDk19.some nE3
            have hDk20 := hDk19.kq mE
            have k020 := k019.kq mE
            generalize (upd K19 E3 (.lst [.ref a3, .ref a6, .ref a10])) = K20 at mE gE hDk20 k020 ⊢
            refine ⟨_, rfl, _, rfl, h, l, 3, rfl, hDk20, by decide, by decide, fun q2 K21 hq2 m21 hDk21 => ?_⟩
            have hP2 : ∃ p, ([.ref a3, .ref a6, .ref a10] : List V)[q2]? = some (.ref p) ∧ PlTup K K19 p (as.length + 2) := match q2, hq2 with
              | 0, _ => ⟨_, rfl, g1⟩
              | 1, _ => ⟨_, rfl, g2⟩
              | 2, _ => ⟨_, rfl, g3⟩
            obtain ⟨p9, ep9, gp9⟩ := hP2
            refine ⟨E3, _, _, .ref p9, rfl, rfl, SqL.of (m21.q.gets gE nEd), at_of rfl ep9, ?_⟩
            exact ⟨p9, _, _, _, _, _, _, rfl, k020.trans m21, hDk21, (gp9.kq mE).kf m21⟩
    · exact ⟨u4, none, none, none, none, none, none, rfl, k09.trans kk1, hDk1, gu.kf kk1⟩
  · rintro σ' Hz ⟨f, v2, v6, v7, v8, v9, v10, rfl, kz, hDz, fs, sf, pf, lf⟩
    have sTz := kz.tup sT
    refine ⟨_, rfl, f, _, rfl, .inr sf, _, _, rfl, rfl, _, rfl, iteD (fun e => ?_) (fun e => ?_)⟩
    · rw [List.length_map] at e
      exact ⟨_, rfl, kQ _ _ kz hDz ⟨fs, sf, pf, by omega⟩⟩
    · rw [List.length_map] at e
      refine ⟨_, rfl, T_, _, rfl, sTz, ?_, fun p np => ?_⟩
      · intro e0
        have := congrArg List.length e0
        rw [List.length_map, List.length_nil] at this
        omega
      · refine kQ _ _ (kz.kq (Kq.alloc np)) (hDz.kq (Kq.alloc np)) ⟨as.reverse, ?_, fun y hy => ((pT y (List.mem_reverse.mp hy)).kf kz).kq (Kq.alloc np), by rw [List.length_reverse]; exact lT⟩
        rw [List.map_reverse]
        exact SqT.of upd_same
end
end KT
set_option Elab.async false
set_option linter.all false
set_option maxRecDepth 100000
set_option maxHeartbeats 4000000
namespace KT
open PySem PySem.Spec PyProof.Rows L2 GxR
variable [GT]
theorem textS_row (row : Ln) : textS [row] = S row := by
  show Txt.join nl [S row] = S row
  first | rfl | simp [Txt.join]
theorem run_right {tp : Nat → List Ky} {row : Ln} {i : Nat} (hi : i < row.length) (hl : row.length ≤ 59) : ∃ st, doK tp 20 .right ⟨pg1 (row, i), [], 0⟩ = .fin (go [.right] (pg1 (row, i), [])).1 st ∧ st.page = pg1 (row, i + 1) := by
  obtain ⟨st, a, b, _⟩ := goes_run (goes_single (tp := tp) (d := 20) (k := .right) rfl) (by decide) (pg1 (row, i))
  refine ⟨st, a, b.trans ?_⟩
  rw [go_line [.right] (row, i) [] (by simp [Ky.plain]) (by show i ≤ row.length; omega) (by show row.length + 1 ≤ 60; omega)]
  have e : lstep id .right (row, i) = some (row, i + 1) := by
    show (if i < row.length then some (row, i + 1) else none) = _
    rw [if_pos hi]
  rw [lgo_cons, e]; rfl
theorem run_0 {tp : Nat → List Ky} {ks : List Ky} (h0 : tp 0 = ks) (pk : ∀ k ∈ ks, k.plain = true) (lk : ks.length ≤ 6) {row : Ln} {c : Nat} (hc : c ≤ row.length) (hl : row.length ≤ 54) : ∃ b st, doK tp 20 (.play 0 1) ⟨pg1 (row, c), [], 0⟩ = .fin b st ∧ st.page = pg1 (lgo id ks (row, c)) := by
  subst h0
  have h := goes_play (m := 1) (goes_base (tp := tp) (d := 19) fun k hk => (plain_ok (pk k hk)).2)
  have e : (List.replicate 1 (tp 0)).flatten = tp 0 := by simp
  rw [e] at h
  obtain ⟨st, a, b, _⟩ := goes_run h (by omega) (pg1 (row, c))
  exact ⟨_, st, a, b.trans (go_line _ (row, c) [] pk hc (by show row.length + _ ≤ 60; omega))⟩
section
variable {P : Program} {w : World} {K : PySem.W.Frag} {mg : Str → Option Value} {base : Heap}
def sp_lplayed9 (K : PySem.W.Frag) : Sp := fun vs H Q _ => ∃ T_ ks row c, vs = [.ref T_, .str (S row), .int (c : Nat)] ∧ TapeAt K H T_ ks ∧ (∀ k ∈ ks, k.plain = true) ∧ ks.length ≤ 6 ∧ (∀ x ∈ row, okSign x) ∧ row.length ≤ 54 ∧ c ≤ row.length ∧ TabG H (tS K) ∧
  ∀ q p H', Kq [] H H' → SqT K H' q [.str (S (lgo id ks (row, c)).1), .ref p] → SqT K H' p [.int (0 : Nat), .int ((lgo id ks (row, c)).2 : Nat)] → Q (.ref q) H'
theorem sc__law_played : FnScope ["_law_tape", "_law_row", "_law_at", "_law_editor", "_law_step"] ["_law_tape", "_law_row", "_law_at"] (defScope s__law_played) := ⟨rfl, rfl, rfl, by decide +kernel, rfl, by decide +kernel, by decide +kernel⟩
theorem ok__law_played (T : Tx w K mg) (B : TabB base mg (cS K) (tS K)) : Fk P w K mg base 74 (Ad K d__law_played.at_) ["_law_tape", "_law_row", "_law_at"] (sp_lplayed9 K) := by
  have F_Editor___init__ := ok_Editor___init__ (P := P) (base := base) T B
  have F_Editor_place := ok_Editor_place (P := P) (base := base) T
  have F_Editor_press := ok_Editor_press (P := P) (base := base) T B
  have F_Editor_tape := ok_Editor_tape (P := P) (base := base) T B
  have F_Editor_text := ok_Editor_text (P := P) (base := base) T
  refine mkF T.f__law_played sc__law_played rfl (fun _ _ _ _ _ _ us hl => match us, hl with | [_, _, _], _ => rfl) (fun vs H Q E h => by obtain ⟨_, _, _, _, rfl, _⟩ := h; rfl) (fun cdv A outer s H vs Q E hcd hcode hr h => ?_)
  have po : PassesOwn (model P w) (CxD P w K mg base ["_law_tape", "_law_row", "_law_at", "_law_editor", "_law_step"] d__law_played cdv A outer s H E).A (CxD P w K mg base ["_law_tape", "_law_row", "_law_at", "_law_editor", "_law_step"] d__law_played cdv A outer s H E).env (CxD P w K mg base ["_law_tape", "_law_row", "_law_at", "_law_editor", "_law_step"] d__law_played cdv A outer s H E).xe := passes_of rfl
  refine ⟨_, (pss_cons (ps_asg (pe_kF (spN := sp_Editor K) T.k_Editor F_Editor___init__ (hr.mono (by decide)) T.g_Editor px new_Editor (pa_cons (pv 1) pa_nil)) (pg_name (i := 3) sc__law_played.nd rfl (.inl rfl)))
      (C8.pss_cut (ps_for po rfl (pi_range1 (by rfl) T.n_range (pa_cons (pv 2) pa_nil)) (pg_name (i := 4) sc__law_played.nd rfl (.inl rfl)) (pss_one (ps_expr (pe_mF _ (pv 3) T.c_Editor T.m_Editor_press F_Editor_press (hr.mono (by decide)) px (pa_cons (pe_tup (pa_cons pe_str pa_nil)) pa_nil)))))
      (pss_cons (ps_expr (pe_mF _ (pv 3) T.c_Editor T.m_Editor_tape F_Editor_tape (hr.mono (by decide)) px (pa_cons pe_str (pa_cons (pv 0) pa_nil))))
      (pss_cons (ps_expr (pe_mF _ (pv 3) T.c_Editor T.m_Editor_press F_Editor_press (hr.mono (by decide)) px (pa_cons (pe_tup (pa_cons pe_str (pa_cons pe_str (pa_cons pe_int pa_nil)))) pa_nil)))
      (pss_one (ps_ret (pe_tup (pa_cons (pe_mF0 _ (pv 3) T.c_Editor T.m_Editor_text F_Editor_text (hr.mono (by decide)) px) (pa_cons (pe_mF0 _ (pv 3) T.c_Editor T.m_Editor_place F_Editor_place (hr.mono (by decide)) px) pa_nil))))))))), ?_⟩
  obtain ⟨T_, ks, row, c, rfl, hT, pk, lk, hsg, hrl, hc, hTS, kQ⟩ := h
  refine ⟨_, rfl, [row], by rw [textS_row], by simp, (good_of_ok (pg1_ok (s := (row, 0)) (Nat.zero_le _) (by show row.length ≤ 60; omega) hsg)).2, hTS, fun m H1 nm k1 hE => ?_⟩
  refine ⟨fun σ H' => ∃ m' ed v4, σ = [some (.ref T_), some (.str (S row)), some (.int (c : Nat)), some (.ref m'.e), v4] ∧ Kq [] H H' ∧ (∀ b ∈ m'.l, H b = none) ∧ EdAt K H' m' ed ∧ ed.page = pg1 (row, c) ∧ ed.taped = none ∧ ed.pressed.length ≤ c ∧ ed.units.length ≤ c ∧ ed.undone.length ≤ 0, ?_, ?_⟩
  · refine ⟨_, rfl, _, rfl, by omega, by omega, ?_⟩
    refine for_range (lo := 0) (n := (c : Int).toNat) (fun i σ H' => ∃ m' ed v4, σ = [some (.ref T_), some (.str (S row)), some (.int (c : Nat)), some (.ref m'.e), v4] ∧ Kq [] H H' ∧ (∀ b ∈ m'.l, H b = none) ∧ EdAt K H' m' ed ∧ ed.page = pg1 (row, i) ∧ ed.taped = none ∧ ed.pressed.length ≤ i ∧ ed.units.length ≤ i ∧ ed.undone.length ≤ 0) ⟨m, _, none, rfl, k1, nm, hE, rfl, rfl, Nat.le_refl _, Nat.le_refl _, Nat.le_refl _⟩ ?_ ?_
    · rintro i σ H' hi ⟨m', ed, v4, rfl, k, nm', hE', hpg, htp, l1, l2, l3⟩
      obtain ⟨dx, p1, ap, au, ad, e1, _⟩ := hE'.ex
      refine ⟨_, rfl, m'.e, dx, _, rfl, e1, edF_no_press _ _ _ _ _ _, line16 (by show 1 ≤ 1000000; decide), fun x nx => ?_⟩
      have kx : Kq [] H' (upd H' x (.tup [.str "right"])) := Kq.alloc nx
      have gx : KeyAt K (upd H' x (.tup [.str "right"])) x .right := SqT.of upd_same
      have hEx := hE'.kq kx
      generalize (upd H' x (.tup [.str "right"])) = H2 at kx gx hEx ⊢
      obtain ⟨st, hrun, hst⟩ := run_right (tp := ed.tapes) (row := row) (i := i) (by omega) (by omega)
      have hrun2 : runK ed .right = .fin (go [.right] (pg1 (row, i), [])).1 st := by unfold runK; rw [hpg]; exact hrun
      refine ⟨m', ed, x, .right, rfl, hEx, ⟨by omega, by omega, by omega⟩, gx, trivial, (fun e => by rw [hrun2] at e; cases e), fun b st' m2 H3 es f1 f2 f3 f4 f5 kf hE3 => ?_⟩
      rw [hrun2] at es
      cases es
      have k2 := k.trans kx
      refine ⟨m2, _, _, by rw [f1]; rfl, k2.fresh kf.q nm', ?_, hE3, hst, htp, ?_, ?_, ?_⟩
      · have nm2 : ∀ b ∈ m'.l, H b = none := nm'
        intro b hb
        simp only [EdM.l, List.mem_cons, List.not_mem_nil, or_false] at hb
        rcases hb with rfl | rfl | rfl | rfl | rfl
        · rw [f1]; exact nm2 _ (by simp [EdM.l])
        · rw [f2]; exact nm2 _ (by simp [EdM.l])
        · rw [f3]; exact nm2 _ (by simp [EdM.l])
        · rw [f4]; exact nm2 _ (by simp [EdM.l])
        · rcases f5 with f5 | f5
          · rw [f5]; exact nm2 _ (by simp [EdM.l])
          · exact k2.fr _ f5
      · have := doneE_p ed .right st.page; omega
      · have := doneE_u ed .right st.page; omega
      · have := doneE_d ed .right st.page; omega
    · rintro σ H' ⟨m', ed, v4, rfl, h⟩
      exact ⟨m', ed, v4, rfl, h⟩
  rintro σ' H' ⟨m', ed, v4, rfl, k, nm', hE', hpg, htp, l1, l2, l3⟩
  obtain ⟨dx, p1, ap, au, ad, e1, _⟩ := hE'.ex
  obtain ⟨as, sT, hks⟩ := k.tape hT
  refine ⟨_, rfl, m'.e, dx, _, rfl, e1, edF_no_tape _ _ _ _ _ _, _, rfl, m', ed, 0, T_, as, ks, rfl, hE', by decide, sT, hks, fun k hk => (plain_ok (pk k hk)).1, by omega, fun H2 kf2 hE2 => ?_⟩
  have k2 : Kq [] H H2 := k.fresh kf2.q fun b hb => by rw [List.mem_singleton.mp hb]; exact nm' _ (by simp [EdM.l])
  obtain ⟨dx2, p2, ap2, au2, ad2, e2, _⟩ := hE2.ex
  refine ⟨_, rfl, m'.e, dx2, _, rfl, e2, edF_no_press _ _ _ _ _ _, line16 (by show 3 ≤ 1000000; decide), fun x nx => ?_⟩
  have kx : Kq [] H2 (upd H2 x (.tup [.str "play", .str "a", .int 1])) := Kq.alloc nx
  have gx : KeyAt K (upd H2 x (.tup [.str "play", .str "a", .int 1])) x (.play 0 1) := SqT.of upd_same
  have hEx := hE2.kq kx
  generalize (upd H2 x (.tup [.str "play", .str "a", .int 1])) = H3 at kx gx hEx ⊢
  obtain ⟨b, st, hrun, hst⟩ := run_0 (tp := fun i => if i = 0 then ks else ed.tapes i) rfl pk lk hc hrl
  have hrun2 : runK { ed with tapes := fun i => if i = 0 then ks else ed.tapes i } (.play 0 1) = .fin b st := by unfold runK; show doK _ 20 _ ⟨ed.page, [], 0⟩ = _; rw [hpg]; exact hrun
  refine ⟨m', _, x, .play 0 1, rfl, hEx, ⟨?_, ?_, ?_⟩, gx, ⟨by decide, by decide, by decide⟩, (fun e => by rw [hrun2] at e; cases e), fun b' st' m2 H4 es f1 f2 f3 f4 f5 kf hE4 => ?_⟩
  · show ed.pressed.length ≤ _; omega
  · show ed.units.length ≤ _; omega
  · show ed.undone.length ≤ _; omega
  rw [hrun2] at es
  cases es
  have k4 : Kq [] H H4 := (k2.trans kx).fresh kf.q nm'
  generalize hed : doneE { ed with tapes := fun i => if i = 0 then ks else ed.tapes i } (.play 0 1) st.page = ed4 at hE4
  have hpg4 : ed4.page = pg1 (lgo id ks (row, c)) := by rw [← hed]; exact hst
  obtain ⟨dx4, p4, ap4, au4, ad4, e4, _⟩ := hE4.ex
  rw [f1] at e4
  refine ⟨_, rfl, m'.e, dx4, _, rfl, e4, edF_no_text _ _ _ _ _ _, m2, ed4, by rw [f1], hE4, ?_⟩
  refine ⟨_, rfl, m'.e, dx4, _, rfl, e4, edF_no_place _ _ _ _ _ _, m2, ed4, by rw [f1], hE4, fun q H5 k5 gq => ?_⟩
  rw [hpg4]
  refine ⟨line16 (by show 2 ≤ 1000000; decide), fun z nz => ?_⟩
  have kz := Kq.alloc (S := []) (o := .tup [.str (textS (pg1 (lgo id ks (row, c))).rows), .ref q]) nz
  refine kQ z q _ ((k4.trans k5).trans kz) ?_ (SqT.of (kz.get ?_))
  · rw [show textS (pg1 (lgo id ks (row, c))).rows = S (lgo id ks (row, c)).1 from textS_row _]
    exact SqT.of upd_same
  · rw [gq, hpg4]; rfl
end
end KT
set_option linter.all false
set_option maxRecDepth 100000
namespace KT
open PySem PySem.Spec PyProof.Rows L2 GxR
variable [GT]
/-- both come to the same, by symbols -/
def sySame (ks ls : List Ky) (a b : Nat) : Prop := lgo Sy.of ks (syRow (a + b), a) = lgo Sy.of ls (syRow (a + b), a)
theorem puts_app2 : ∀ (ks ls : List Ky), puts (ks ++ ls) = puts ks ++ puts ls
  | [], _ => rfl
  | k :: ks, ls => by rw [List.cons_append, puts_cons k (ks ++ ls), puts_app2 ks ls, puts_cons k ks, List.append_assoc]
theorem same_iff2 {ks ls : List Ky} (pk : ∀ k ∈ ks, k.plain = true) (pl : ∀ k ∈ ls, k.plain = true) (lk : ks.length ≤ 6) (ll : ls.length ≤ 6) {a b : Nat} (ha : a ≤ 20) (hb : b ≤ 20) : sameP ks ls a b ↔ sySame ks ls a b := by
  have pkl : ∀ k ∈ ks ++ ls, k.plain = true := fun k hk => (List.mem_append.mp hk).elim (pk k) (pl k)
  have hfl := freeS_len pkl
  rw [List.length_append] at hfl
  have hrow : ((freeS (ks ++ ls)).take (a + b)).length = a + b := by rw [List.length_take]; omega
  have h := sy_iff (ks := ks) (ls := ls) (row := (freeS (ks ++ ls)).take (a + b)) (c := a) ((freeS_nd (ks ++ ls)).sublist (List.take_sublist _ _)) (fun x hx => by
    have := freeS_np (List.mem_of_mem_take hx)
    rw [puts_app2] at this
    exact this)
  rw [hrow] at h
  exact h
theorem free_row2 {ks ls : List Ky} (pk : ∀ k ∈ ks, k.plain = true) (pl : ∀ k ∈ ls, k.plain = true) (lk : ks.length ≤ 6) (ll : ls.length ≤ 6) {a b : Nat} (ha : a ≤ 20) (hb : b ≤ 20) : ((freeS (ks ++ ls)).take (a + b)).length = a + b := by
  have pkl : ∀ k ∈ ks ++ ls, k.plain = true := fun k hk => (List.mem_append.mp hk).elim (pk k) (pl k)
  have hfl := freeS_len pkl
  rw [List.length_append] at hfl
  rw [List.length_take]; omega
end KT
set_option linter.all false
namespace KT
/-! ### a sign that no key comes to may stand in a row or not -/
section
variable {α : Type} {e : Nat → α}
theorem m_put (x : Nat) (A B : List α) : lstep e (.put [x]) (A ++ B, A.length) = some ((A ++ [e x]) ++ B, (A ++ [e x]).length) := by
  show some (List.take A.length (A ++ B) ++ [e x] ++ List.drop A.length (A ++ B), A.length + 1) = _
  rw [List.take_left, List.drop_left, List.length_append]; rfl
theorem m_end (A B : List α) : lstep e .end_ (A ++ B, A.length) = some ((A ++ B) ++ [], (A ++ B).length) := by
  show some (A ++ B, (A ++ B).length) = _
  rw [List.append_nil]
theorem m_right (A B : List α) (x : α) : lstep e .right (A ++ x :: B, A.length) = some ((A ++ [x]) ++ B, (A ++ [x]).length) := by
  show (if A.length < (A ++ x :: B).length then some (A ++ x :: B, A.length + 1) else none) = _
  rw [if_pos (by rw [List.length_append]; show _ < _ + (_ + 1); omega), List.append_assoc, List.length_append]; rfl
theorem m_right0 (A : List α) : lstep e .right (A ++ [], A.length) = none := by
  show (if A.length < (A ++ []).length then some (A ++ [], A.length + 1) else none) = _
  rw [List.append_nil, if_neg (Nat.lt_irrefl _)]
theorem m_left (A B : List α) (y : α) : lstep e .left ((A ++ [y]) ++ B, (A ++ [y]).length) = some (A ++ (y :: B), A.length) := by
  show (if (A ++ [y]).length = 0 then none else some ((A ++ [y]) ++ B, (A ++ [y]).length - 1)) = _
  rw [if_neg (by rw [List.length_append]; show ¬ _ + 1 = 0; omega), List.append_assoc, List.length_append]; rfl
theorem m_rub (A B : List α) (y : α) : lstep e .rub ((A ++ [y]) ++ B, (A ++ [y]).length) = some (A ++ B, A.length) := by
  show (if (A ++ [y]).length = 0 then none else some (List.take ((A ++ [y]).length - 1) ((A ++ [y]) ++ B) ++ List.drop (A ++ [y]).length ((A ++ [y]) ++ B), (A ++ [y]).length - 1)) = _
  rw [if_neg (by rw [List.length_append]; show ¬ _ + 1 = 0; omega), List.drop_left]
  have h1 : (A ++ [y]).length - 1 = A.length := by rw [List.length_append]; show _ + 1 - 1 = _; omega
  rw [h1, List.append_assoc, List.take_left]
end
theorem m_snoc {α : Type} (A : List α) : A = [] ∨ ∃ A' y, A = A' ++ [y] := by
  rcases List.eq_nil_or_concat A with h | ⟨A', y, h⟩
  · exact .inl h
  · exact .inr ⟨A', y, by rw [h, List.concat_eq_append]⟩
/-- s has the sign v behind u, t has it not; m more keys won't come to it -/
inductive Far (u v : Sy) (m : Nat) : List Sy × Nat → List Sy × Nat → Prop
  | lo (A1 A2 B : List Sy) : u ∉ A1 → u ∉ A2 → m ≤ A2.length → m ≤ B.length → Far u v m (A1 ++ (A2 ++ u :: v :: B), A1.length) (A1 ++ (A2 ++ u :: B), A1.length)
  | hi (A B1 B2 : List Sy) : u ∉ A → m ≤ A.length → m ≤ B1.length → Far u v m ((A ++ u :: v :: B1) ++ B2, (A ++ u :: v :: B1).length) ((A ++ u :: B1) ++ B2, (A ++ u :: B1).length)
theorem Far.step {u v : Sy} {m : Nat} {s t : List Sy × Nat} {k : Ky} (hu : ∀ c, u ≠ .of c) (h : Far u v (m + 1) s t) (hk : k.plain = true) :
    (lstep Sy.of k s = none ∧ lstep Sy.of k t = none) ∨ ∃ s' t', lstep Sy.of k s = some s' ∧ lstep Sy.of k t = some t' ∧ Far u v m s' t' := by
  cases h with
  | lo A1 A2 B h1 h2 h3 h4 =>
    cases k with
    | put z =>
      obtain ⟨c, rfl, _⟩ := plain_put hk
      exact .inr ⟨_, _, m_put c _ _, m_put c _ _, .lo (A1 ++ [.of c]) A2 B (by simp [h1, hu]) h2 (by omega) (by omega)⟩
    | rub =>
      rcases m_snoc A1 with rfl | ⟨A', y, rfl⟩
      · exact .inl ⟨rfl, rfl⟩
      · exact .inr ⟨_, _, m_rub _ _ _, m_rub _ _ _, .lo A' A2 B (fun z => h1 (by simp [z])) h2 (by omega) (by omega)⟩
    | left =>
      rcases m_snoc A1 with rfl | ⟨A', y, rfl⟩
      · exact .inl ⟨rfl, rfl⟩
      · exact .inr ⟨_, _, m_left _ _ _, m_left _ _ _, .lo A' (y :: A2) B (fun z => h1 (by simp [z])) (by
          intro z
          rcases List.mem_cons.mp z with z | z
          · exact h1 (by simp [z])
          · exact h2 z) (by show _ ≤ _ + 1; omega) (by omega)⟩
    | right =>
      cases A2 with
      | nil => exact absurd h3 (by simp)
      | cons y A2 => exact .inr ⟨_, _, m_right _ _ _, m_right _ _ _, .lo (A1 ++ [y]) A2 B (by
          intro z
          rcases List.mem_append.mp z with z | z
          · exact h1 z
          · exact h2 (by rw [List.mem_singleton.mp z]; simp)) (fun z => h2 (by simp [z])) (by have : m + 1 ≤ A2.length + 1 := h3; omega) (by omega)⟩
    | home =>
      refine .inr ⟨_, _, rfl, rfl, ?_⟩
      have := Far.lo (u := u) (v := v) (m := m) [] (A1 ++ A2) B (by simp) (by simp [h1, h2]) (by rw [List.length_append]; omega) (by omega)
      simpa [List.append_assoc] using this
    | end_ =>
      refine .inr ⟨_, _, m_end _ _, m_end _ _, ?_⟩
      have := Far.hi (u := u) (v := v) (m := m) (A1 ++ A2) B [] (by simp [h1, h2]) (by rw [List.length_append]; omega) (by omega)
      simpa [List.append_assoc] using this
    | _ => cases hk
  | hi A B1 B2 h1 h2 h3 =>
    have hB : ∃ B' y, B1 = B' ++ [y] := by
      rcases m_snoc B1 with rfl | h
      · exact absurd h3 (by simp)
      · exact h
    cases k with
    | put z =>
      obtain ⟨c, rfl, _⟩ := plain_put hk
      refine .inr ⟨_, _, m_put c _ _, m_put c _ _, ?_⟩
      have := Far.hi (u := u) (v := v) (m := m) A (B1 ++ [.of c]) B2 h1 (by omega) (by rw [List.length_append]; omega)
      simpa [List.append_assoc] using this
    | rub =>
      obtain ⟨B', y, rfl⟩ := hB
      rw [List.length_append] at h3
      have h3 : m + 1 ≤ B'.length + 1 := h3
      refine .inr ⟨(A ++ u :: v :: B' ++ B2, (A ++ u :: v :: B').length), (A ++ u :: B' ++ B2, (A ++ u :: B').length), ?_, ?_, .hi A B' B2 h1 (by omega) (by omega)⟩
      · have := m_rub (e := Sy.of) (A ++ u :: v :: B') B2 y
        simpa [List.append_assoc] using this
      · have := m_rub (e := Sy.of) (A ++ u :: B') B2 y
        simpa [List.append_assoc] using this
    | left =>
      obtain ⟨B', y, rfl⟩ := hB
      rw [List.length_append] at h3
      have h3 : m + 1 ≤ B'.length + 1 := h3
      refine .inr ⟨(A ++ u :: v :: B' ++ (y :: B2), (A ++ u :: v :: B').length), (A ++ u :: B' ++ (y :: B2), (A ++ u :: B').length), ?_, ?_, .hi A B' (y :: B2) h1 (by omega) (by omega)⟩
      · have := m_left (e := Sy.of) (A ++ u :: v :: B') B2 y
        simpa [List.append_assoc] using this
      · have := m_left (e := Sy.of) (A ++ u :: B') B2 y
        simpa [List.append_assoc] using this
    | right =>
      cases B2 with
      | nil => exact .inl ⟨m_right0 _, m_right0 _⟩
      | cons y B2 =>
        refine .inr ⟨_, _, m_right _ _ _, m_right _ _ _, ?_⟩
        have := Far.hi (u := u) (v := v) (m := m) A (B1 ++ [y]) B2 h1 (by omega) (by rw [List.length_append]; omega)
        simpa [List.append_assoc] using this
    | home =>
      refine .inr ⟨_, _, rfl, rfl, ?_⟩
      have := Far.lo (u := u) (v := v) (m := m) [] A (B1 ++ B2) (by simp) h1 (by omega) (by rw [List.length_append]; omega)
      simpa [List.append_assoc] using this
    | end_ =>
      refine .inr ⟨_, _, m_end _ _, m_end _ _, ?_⟩
      have := Far.hi (u := u) (v := v) (m := m) A (B1 ++ B2) [] h1 (by omega) (by rw [List.length_append]; omega)
      simpa [List.append_assoc] using this
    | _ => cases hk
theorem Far.mono {u v : Sy} {m n : Nat} {s t : List Sy × Nat} (h : Far u v m s t) (hn : n ≤ m) : Far u v n s t := by
  cases h with
  | lo A1 A2 B h1 h2 h3 h4 => exact .lo A1 A2 B h1 h2 (by omega) (by omega)
  | hi A B1 B2 h1 h2 h3 => exact .hi A B1 B2 h1 (by omega) (by omega)
theorem Far.go {u v : Sy} (hu : ∀ c, u ≠ .of c) : ∀ (ks : List Ky) {m : Nat} {s t : List Sy × Nat}, Far u v m s t → (∀ k ∈ ks, k.plain = true) → ks.length ≤ m → Far u v 0 (lgo Sy.of ks s) (lgo Sy.of ks t)
  | [], m, s, t, h, _, _ => h.mono (Nat.zero_le _)
  | k :: ks, m, s, t, h, hp, hl => by
    have hl : ks.length + 1 ≤ m := hl
    obtain ⟨m', rfl⟩ : ∃ m', m = m' + 1 := ⟨m - 1, by omega⟩
    rw [lgo_cons, lgo_cons]
    rcases h.step hu (hp k (by simp)) with ⟨e1, e2⟩ | ⟨s', t', e1, e2, h'⟩
    · rw [e1, e2]; exact h.mono (Nat.zero_le _)
    · rw [e1, e2]; exact Far.go hu ks h' (fun x hx => hp x (by simp [hx])) (by omega)
theorem split_uniq {α : Type} {u : α} : ∀ {A A' B B' : List α}, u ∉ A → u ∉ A' → A ++ u :: B = A' ++ u :: B' → A = A' ∧ B = B'
  | [], [], _, _, _, _, h => by injection h with _ h; exact ⟨rfl, h⟩
  | [], y :: A', _, _, _, h2, h => by injection h with h _; exact absurd (by rw [h]; simp) h2
  | x :: A, [], _, _, h1, _, h => by injection h with h _; exact absurd (by rw [← h]; simp) h1
  | x :: A, y :: A', _, _, h1, h2, h => by
    rw [List.cons_append, List.cons_append] at h
    injection h with e h
    obtain ⟨a, b⟩ := split_uniq (fun z => h1 (by simp [z])) (fun z => h2 (by simp [z])) h
    exact ⟨by rw [e, a], b⟩
theorem Far.cut {u v : Sy} {s t : List Sy × Nat} (h : Far u v 0 s t) : ∃ A B, t.1 = A ++ u :: B ∧ s.1 = A ++ u :: v :: B ∧ u ∉ A ∧ s.2 = if t.2 ≤ A.length then t.2 else t.2 + 1 := by
  cases h with
  | lo A1 A2 B h1 h2 h3 h4 => exact ⟨A1 ++ A2, B, by simp, by simp, by simp [h1, h2], by rw [if_pos (by rw [List.length_append]; show A1.length ≤ _; omega)]⟩
  | hi A B1 B2 h1 h2 h3 =>
    refine ⟨A, B1 ++ B2, by simp, by simp, h1, ?_⟩
    have e1 : (A ++ u :: B1).length = A.length + B1.length + 1 := by rw [List.length_append]; rfl
    have e2 : (A ++ u :: v :: B1).length = A.length + B1.length + 2 := by rw [List.length_append]; rfl
    show (A ++ u :: v :: B1).length = if (A ++ u :: B1).length ≤ A.length then _ else _
    rw [if_neg (by omega)]
    show _ = (A ++ u :: B1).length + 1
    omega
theorem Far.inj {u v : Sy} {s t s' t' : List Sy × Nat} (h : Far u v 0 s t) (h' : Far u v 0 s' t') (e : t = t') : s = s' := by
  obtain ⟨A, B, a1, a2, a3, a4⟩ := h.cut
  obtain ⟨A', B', b1, b2, b3, b4⟩ := h'.cut
  subst e
  obtain ⟨rfl, rfl⟩ := split_uniq a3 b3 (a1.symm.trans b1)
  exact Prod.ext (a2.trans b2.symm) (a4.trans b4.symm)
/-- the row with one more, behind the sign p -/
def skip (p : Nat) : Sy → Sy
  | .own k => .own (if k ≤ p then k else k + 1)
  | .of c => .of c
def rowA (p : Nat) : List Sy := (List.range p).map Sy.own
def rowB (p r : Nat) : List Sy := (List.range r).map fun j => Sy.own (p + (2 + j))
theorem rowA_not (p : Nat) : Sy.own p ∉ rowA p := fun h => by
  obtain ⟨k, hk, e⟩ := List.mem_map.mp h
  cases e
  exact absurd (List.mem_range.mp hk) (Nat.lt_irrefl _)
theorem row_full (p r : Nat) : syRow (p + (2 + r)) = rowA p ++ .own p :: .own (p + 1) :: rowB p r := by
  unfold syRow rowA rowB
  rw [List.range_add, List.map_append, List.range_add]
  congr 1
  rw [show List.range 2 = [0, 1] from rfl]
  simp [Function.comp]
theorem row_less (p r : Nat) : (syRow (p + (1 + r))).map (skip p) = rowA p ++ .own p :: rowB p r := by
  unfold syRow rowA rowB
  rw [List.range_add, List.map_append, List.map_append, List.range_add]
  congr 1
  · rw [List.map_map]
    refine List.map_congr_left fun k hk => ?_
    have := List.mem_range.mp hk
    show Sy.own (if k ≤ p then k else k + 1) = _
    rw [if_pos (by omega)]
  · rw [show List.range 1 = [0] from rfl]
    simp only [List.map_append, List.map_cons, List.map_nil, List.map_map, List.cons_append, List.nil_append, Nat.add_zero]
    congr 1
    · show Sy.own (if p ≤ p then p else p + 1) = _
      rw [if_pos (Nat.le_refl _)]
    · refine List.map_congr_left fun j hj => ?_
      show Sy.own (if p + (1 + j) ≤ p then p + (1 + j) else p + (1 + j) + 1) = _
      rw [if_neg (by omega)]
      congr 1; omega
theorem rowA_len (p : Nat) : (rowA p).length = p := by unfold rowA; simp
theorem rowB_len (p r : Nat) : (rowB p r).length = r := by unfold rowB; simp
/-- both come to the same on the row with one more sign behind p, if they do on the row -/
theorem sy_skip {ks ls : List Ky} (pk : ∀ k ∈ ks, k.plain = true) (pl : ∀ k ∈ ls, k.plain = true) (lk : ks.length ≤ 6) (ll : ls.length ≤ 6) {p r c c' : Nat}
    (hF : Far (.own p) (.own (p + 1)) 6 (rowA p ++ .own p :: .own (p + 1) :: rowB p r, c') (rowA p ++ .own p :: rowB p r, c))
    (h : lgo Sy.of ks (syRow (p + (1 + r)), c) = lgo Sy.of ls (syRow (p + (1 + r)), c)) : lgo Sy.of ks (syRow (p + (2 + r)), c') = lgo Sy.of ls (syRow (p + (2 + r)), c') := by
  have hu : ∀ d, Sy.own p ≠ .of d := fun d e => by cases e
  have e1 := lgo_map (skip p) Sy.of ks (syRow (p + (1 + r)), c)
  have e2 := lgo_map (skip p) Sy.of ls (syRow (p + (1 + r)), c)
  have e1 : lgo Sy.of ks ((syRow (p + (1 + r))).map (skip p), c) = _ := e1
  have e2 : lgo Sy.of ls ((syRow (p + (1 + r))).map (skip p), c) = _ := e2
  rw [h] at e1
  have e3 := e1.trans e2.symm
  rw [row_less] at e3
  have f1 := hF.go hu ks pk lk
  have f2 := hF.go hu ls pl ll
  rw [row_full]
  exact f1.inj f2 e3
theorem sy_ahead {ks ls : List Ky} (pk : ∀ k ∈ ks, k.plain = true) (pl : ∀ k ∈ ls, k.plain = true) (lk : ks.length ≤ 6) (ll : ls.length ≤ 6) {a b : Nat} (ha : 20 ≤ a)
    (h : lgo Sy.of ks (syRow (a + b), a) = lgo Sy.of ls (syRow (a + b), a)) : lgo Sy.of ks (syRow (a + 1 + b), a + 1) = lgo Sy.of ls (syRow (a + 1 + b), a + 1) := by
  obtain ⟨r, hr⟩ : ∃ r, a + b = 6 + (1 + r) := ⟨a + b - 7, by omega⟩
  rw [hr] at h
  rw [show a + 1 + b = 6 + (2 + r) by omega]
  refine sy_skip pk pl lk ll ?_ h
  have hl := rowB_len 6 r
  have hF := Far.hi (u := .own 6) (v := .own (6 + 1)) (m := 6) (rowA 6) ((rowB 6 r).take (a - 7)) ((rowB 6 r).drop (a - 7)) (rowA_not 6) (by rw [rowA_len]; exact Nat.le_refl _) (by rw [List.length_take]; omega)
  have q1 : (rowA 6 ++ Sy.own 6 :: Sy.own (6 + 1) :: (rowB 6 r).take (a - 7)).length = a + 1 := by
    rw [List.length_append, rowA_len]; show 6 + (((rowB 6 r).take (a - 7)).length + 1 + 1) = _; rw [List.length_take]; omega
  have q2 : (rowA 6 ++ Sy.own 6 :: (rowB 6 r).take (a - 7)).length = a := by
    rw [List.length_append, rowA_len]; show 6 + (((rowB 6 r).take (a - 7)).length + 1) = _; rw [List.length_take]; omega
  rw [q1, q2] at hF
  simpa [List.append_assoc, List.take_append_drop] using hF
theorem sy_behind {ks ls : List Ky} (pk : ∀ k ∈ ks, k.plain = true) (pl : ∀ k ∈ ls, k.plain = true) (lk : ks.length ≤ 6) (ll : ls.length ≤ 6) {a b : Nat} (hb : 20 ≤ b)
    (h : lgo Sy.of ks (syRow (a + b), a) = lgo Sy.of ls (syRow (a + b), a)) : lgo Sy.of ks (syRow (a + (b + 1)), a) = lgo Sy.of ls (syRow (a + (b + 1)), a) := by
  obtain ⟨r, hr⟩ : ∃ r, a + b = (a + 6) + (1 + r) := ⟨b - 7, by omega⟩
  rw [hr] at h
  rw [show a + (b + 1) = (a + 6) + (2 + r) by omega]
  refine sy_skip pk pl lk ll ?_ h
  have hl := rowB_len (a + 6) r
  have hA := rowA_len (a + 6)
  have hn := rowA_not (a + 6)
  have hF := Far.lo (u := .own (a + 6)) (v := .own (a + 6 + 1)) (m := 6) ((rowA (a + 6)).take a) ((rowA (a + 6)).drop a) (rowB (a + 6) r) (fun z => hn (List.mem_of_mem_take z)) (fun z => hn (List.mem_of_mem_drop z)) (by rw [List.length_drop]; omega) (by omega)
  have q1 : ((rowA (a + 6)).take a).length = a := by rw [List.length_take]; omega
  rw [q1, ← List.append_assoc, List.take_append_drop, ← List.append_assoc, List.take_append_drop] at hF
  exact hF
/-- from the rows up to twenty signs a side to all rows -/
theorem sy_all {ks ls : List Ky} (pk : ∀ k ∈ ks, k.plain = true) (pl : ∀ k ∈ ls, k.plain = true) (lk : ks.length ≤ 6) (ll : ls.length ≤ 6) {l r : Nat} (hl : l ≤ 20) (hr : r ≤ 20)
    (h : ∀ a b, l ≤ a → a ≤ 20 → r ≤ b → b ≤ 20 → lgo Sy.of ks (syRow (a + b), a) = lgo Sy.of ls (syRow (a + b), a)) : ∀ a b, l ≤ a → r ≤ b → lgo Sy.of ks (syRow (a + b), a) = lgo Sy.of ls (syRow (a + b), a) := by
  have h1 : ∀ b a, l ≤ a → a ≤ 20 → r ≤ b → lgo Sy.of ks (syRow (a + b), a) = lgo Sy.of ls (syRow (a + b), a) := by
    intro b
    induction b with
    | zero => intro a h1 h2 h3; exact h a 0 h1 h2 h3 (by omega)
    | succ b ih =>
      intro a h1 h2 h3
      by_cases hb : b + 1 ≤ 20
      · exact h a (b + 1) h1 h2 h3 hb
      · exact sy_behind pk pl lk ll (by omega) (ih a h1 h2 (by omega))
  intro a
  induction a with
  | zero => intro b h2 h3; exact h1 b 0 h2 (by omega) h3
  | succ a ih =>
    intro b h2 h3
    by_cases ha : a + 1 ≤ 20
    · exact h1 b (a + 1) h2 ha h3
    · exact sy_ahead pk pl lk ll (by omega) (ih b (by omega) h3)
end KT
set_option Elab.async false
set_option linter.all false
set_option maxRecDepth 100000
set_option maxHeartbeats 4000000
namespace KT
open PySem PySem.Spec PyProof.Rows L2 GxR
variable [GT]
def pl9D (s : Ln × Nat) : PyData := .tuple [.str (S s.1), .tuple [.int (0 : Nat), .int (s.2 : Nat)]]
theorem shaped_pl9 {s : Ln × Nat} (h : ∀ c ∈ s.1, okSign c) : SeqAt.shaped (pl9D s) = true := by
  have h1 := strOk_sig h
  unfold SeqAt.shaped
  have e1 : PyData.canLay0 (pl9D s) = true := by
    unfold pl9D
    simp [PyData.canLay0, PyData.canLayAll0, h1]
  have e2 : PyData.depth (pl9D s) = 2 := by
    unfold pl9D
    simp [PyData.depth, PyData.depthAll]
  rw [e1, e2]; rfl
theorem eqv_pl9 (s t : Ln × Nat) : PyData.eqv (pl9D s) (pl9D t) = decide (s = t) := by
  obtain ⟨a, b⟩ := s
  obtain ⟨c, d⟩ := t
  unfold pl9D
  simp only [PyData.eqv, PyData.eqvAll, Bool.and_true]
  by_cases h1 : a = c
  · subst h1
    by_cases h2 : b = d
    · subst h2; simp
    · have : ¬ ((b : Int) = d) := by omega
      simp [h2, this]
  · have : ¬ (S a = S c) := fun z => h1 (S_inj z)
    simp [h1, this]
theorem dp_pl9 {K : PySem.W.Frag} {H : Hp} {q p : Addr} {s : Ln × Nat} (h : SqT K H q [.str (S s.1), .ref p]) (h2 : SqT K H p [.int (0 : Nat), .int (s.2 : Nat)]) : Dp K H (.ref q) (pl9D s) :=
  .tup h (.cons (.str _) (.cons (.tup h2 (.cons (.int _) (.cons (.int _) .nil))) .nil))
theorem ite_yes9 {b : Bool} {A B : Prop} (h : b = true) (ha : A) : if b = true then A else B := by rw [if_pos h]; exact ha
theorem ite_no9 {b : Bool} {A B : Prop} (h : b = false) (hb : B) : if b = true then A else B := by rw [h, if_neg (by decide)]; exact hb
section
variable {P : Program} {w : World} {K : PySem.W.Frag} {mg : Str → Option Value} {base : Heap}
def sp_law9 (K : PySem.W.Frag) : Sp := fun vs H Q _ => ∃ (a : Addr) (ns : List Int), vs = [.ref a] ∧ SqL K H a (ns.map V.int) ∧ TabG H (tS K) ∧ TabG H (tP K) ∧ ∀ H', Q (.bl true) H'
theorem sc_law : FnScope ["_law_script", "_law_k", "_law_h", "_law_turn", "_law_one", "_law_other", "_law_left", "_law_right", "_law_told", "_law_again", "_law_row", "_law_at", "_law_ahead", "_law_many"] ["_law_script"] (defScope s_law) := ⟨rfl, rfl, rfl, by decide +kernel, rfl, by decide +kernel, by decide +kernel⟩
theorem ok_law (T : Tx w K mg) (B : TabB base mg (cS K) (tS K)) (B2 : TabB base mg (cP K) (tP K)) (neP : ∀ q ∈ GT.l, q.1 ≠ tP K) : Fk P w K mg base 75 (Ad K d_law.at_) ["_law_script"] (sp_law9 K) := by
  have F__law_like := ok__law_like (P := P) (base := base) T
  have F__law_mix := ok__law_mix (P := P) (base := base) T
  have F__law_next := ok__law_next (P := P) (base := base) T
  have F__law_plain := ok__law_plain (P := P) (base := base) T
  have F__law_played := ok__law_played (P := P) (base := base) T B
  have F__law_sign := ok__law_sign (P := P) (base := base) T
  have F_alike := ok_alike_def (P := P) (base := base) T B B2 neP
  refine mkF T.f_law sc_law rfl (fun _ _ _ _ _ _ us hl => match us, hl with | [_], _ => rfl) (fun vs H Q E h => by obtain ⟨_, _, rfl, _⟩ := h; rfl) (fun cdv A outer s H vs Q E hcd hcode hr h => ?_)
  have po : PassesOwn (model P w) (CxD P w K mg base ["_law_script", "_law_k", "_law_h", "_law_turn", "_law_one", "_law_other", "_law_left", "_law_right", "_law_told", "_law_again", "_law_row", "_law_at", "_law_ahead", "_law_many"] d_law cdv A outer s H E).A (CxD P w K mg base ["_law_script", "_law_k", "_law_h", "_law_turn", "_law_one", "_law_other", "_law_left", "_law_right", "_law_told", "_law_again", "_law_row", "_law_at", "_law_ahead", "_law_many"] d_law cdv A outer s H E).env (CxD P w K mg base ["_law_script", "_law_k", "_law_h", "_law_turn", "_law_one", "_law_other", "_law_left", "_law_right", "_law_told", "_law_again", "_law_row", "_law_at", "_law_ahead", "_law_many"] d_law cdv A outer s H E).xe := passes_of rfl
  refine ⟨_, (pss_cons (ps_asg (pe_cF F__law_mix (hr.mono (by decide)) T.g__law_mix px (pa_cons (pv 0) (pa_cons pe_int pa_nil))) (pg_name (i := 2) sc_law.nd rfl (.inr rfl)))
      (pss_cons (ps_for po rfl (pi_range1 (by rfl) T.n_range (pa_cons pe_int pa_nil)) (pg_name (i := 3) sc_law.nd rfl (.inl rfl)) (pss_cons (ps_asg (pe_cF F__law_plain (hr.mono (by decide)) T.g__law_plain px (pa_cons (pv 2) pa_nil)) (pg_name (i := 4) sc_law.nd rfl (.inl rfl)))
      (pss_cons (ps_asg (pe_ix ix_list (pe_lst (pa_cons (pe_cF F__law_plain (hr.mono (by decide)) T.g__law_plain px (pa_cons (pv 2) pa_nil)) (pa_cons (pe_cF F__law_like (hr.mono (by decide)) T.g__law_like px (pa_cons (pv 2) (pa_cons (pv 4) pa_nil))) (pa_cons (pe_cF F__law_like (hr.mono (by decide)) T.g__law_like px (pa_cons (pv 2) (pa_cons (pv 4) pa_nil))) pa_nil)))) (pe_cF F__law_next (hr.mono (by decide)) T.g__law_next px (pa_cons (pv 2) (pa_cons pe_int pa_nil))) (fun _ _ => rfl)) (pg_name (i := 5) sc_law.nd rfl (.inl rfl)))
      (pss_cons (ps_par (i := 6) (j := 7) (by rfl) sc_law.nd rfl rfl (by decide) rfl rfl (pa_cons (pe_cF F__law_next (hr.mono (by decide)) T.g__law_next px (pa_cons (pv 2) (pa_cons pe_int pa_nil))) (pa_cons (pe_cF F__law_next (hr.mono (by decide)) T.g__law_next px (pa_cons (pv 2) (pa_cons pe_int pa_nil))) pa_nil)) (by rfl))
      (C8.pss_cut (ps_asg (pe_cF F_alike (hr.mono (by decide)) T.g_alike px (pa_cons (pv 4) (pa_cons (pv 5) (pa_cons (pv 6) (pa_cons (pv 7) pa_nil))))) (pg_name (i := 8) sc_law.nd rfl (.inl rfl)))
      (C8.pss_cut (ps_if (pt_cmpR op_notN (pv 8) pe_non (nomark _)) (pss_cons (ps_asg (pv 8) (pg_tup rfl (pgs_cons (pg_name (i := 10) sc_law.nd rfl (.inl rfl)) (pgs_cons (pg_name (i := 11) sc_law.nd rfl (.inl rfl)) pgs_nil))))
      (pss_one (ps_if (pt_cmpR (op_eqD hr.units) (pe_cF F__law_played (hr.mono (by decide)) T.g__law_played px (pa_cons (pv 4) (pa_cons (pv 10) (pa_cons (pv 11) pa_nil)))) (pe_cF F__law_played (hr.mono (by decide)) T.g__law_played px (pa_cons (pv 5) (pa_cons (pv 10) (pa_cons (pv 11) pa_nil)))) (nomark _)) (pss_one (ps_ret pe_bl)) pss_nil))) pss_nil)
      (pss_one (ps_for po rfl (pi_range1 (by rfl) T.n_range (pa_cons pe_int pa_nil)) (pg_name (i := 9) sc_law.nd rfl (.inl rfl)) (pss_cons (ps_asg (pe_op op_add (pv 6) (pe_cF F__law_next (hr.mono (by decide)) T.g__law_next px (pa_cons (pv 2) (pa_cons (pe_ix ix_list (pe_lst (pa_cons pe_int (pa_cons pe_int pa_nil))) (pe_cF F__law_next (hr.mono (by decide)) T.g__law_next px (pa_cons (pv 2) (pa_cons pe_int pa_nil))) (fun _ _ => rfl)) pa_nil)))) (pg_name (i := 12) sc_law.nd rfl (.inl rfl)))
      (pss_cons (ps_asg (pe_op op_add (pe_op op_add (pv 12) (pv 7)) (pe_cF F__law_next (hr.mono (by decide)) T.g__law_next px (pa_cons (pv 2) (pa_cons (pe_ix ix_list (pe_lst (pa_cons pe_int (pa_cons pe_int pa_nil))) (pe_cF F__law_next (hr.mono (by decide)) T.g__law_next px (pa_cons (pv 2) (pa_cons pe_int pa_nil))) (fun _ _ => rfl)) pa_nil)))) (pg_name (i := 13) sc_law.nd rfl (.inl rfl)))
      (pss_cons (ps_asg (pe_join pe_str (pe_lc (own := [("_law_k", 1)]) (by rfl) sc_law.nd (pi_range1 (by rfl) T.n_range (pa_cons (pv 13) pa_nil)) (blkOk_by (own := [("_law_k", 1)]) (N := ["_law_script", "_law_k", "_law_h", "_law_turn", "_law_one", "_law_other", "_law_left", "_law_right", "_law_told", "_law_again", "_law_row", "_law_at", "_law_ahead", "_law_many"]) (sc := defScope s_law) (by decide +kernel)) (fun _ _ _ _ _ => (pg_name (i := 1) sc_law.nd rfl (.inl rfl))) (fun _ _ _ _ _ => pts_nil) (fun _ _ _ _ _ => (pe_cF F__law_sign (hr.mono (by decide)) T.g__law_sign passL (pa_cons (pv 2) pa_nil))))) (pg_name (i := 10) sc_law.nd rfl (.inl rfl)))
      (pss_one (ps_if ((pw_and (pt_cmpR op_isN (pv 8) pe_non (nomark _)) (pw_and1 (pt_cmpR (op_neD hr.units) (pe_cF F__law_played (hr.mono (by decide)) T.g__law_played px (pa_cons (pv 4) (pa_cons (pv 10) (pa_cons (pv 12) pa_nil)))) (pe_cF F__law_played (hr.mono (by decide)) T.g__law_played px (pa_cons (pv 5) (pa_cons (pv 10) (pa_cons (pv 12) pa_nil)))) (nomark _))))).pt (pss_one (ps_ret pe_bl)) pss_nil)))))))))))))
      (pss_one (ps_ret pe_bl)))), ?_⟩
  obtain ⟨a, ns, rfl, ha, hT, hT2, kQ⟩ := h
  refine ⟨_, rfl, a, ns, 29, rfl, ha, fun h l H1 nh nll k1 hD => ?_⟩
  refine ⟨_, rfl, by decide, by decide, ?_⟩
  have tabs : ∀ {Hz : Hp}, Kf [h, l] H1 Hz → TabG Hz (tS K) ∧ TabG Hz (tP K) := fun k => ⟨k.q.tab _ (k1.tab _ hT), k.q.tab _ (k1.tab _ hT2)⟩
  refine for_range (lo := 0) (n := (4 : Int).toNat) (fun i σ H' => Kf [h, l] H1 H' ∧ DrAt H' h l ∧ ∃ v1 v3 v4 v5 v6 v7 v8 v9 v10 v11 v12 v13, σ = [some (.ref a), v1, some (.ref h), v3, v4, v5, v6, v7, v8, v9, v10, v11, v12, v13]) ⟨Kf.refl hD.wr, hD, _, _, _, _, _, _, _, _, _, _, _, _, rfl⟩ ?_ ?_
  rotate_left
  · rintro σ H' ⟨k, hDd, v1, v3, v4, v5, v6, v7, v8, v9, v10, v11, v12, v13, rfl⟩
    exact kQ H'
  rintro i σ H2 hi ⟨k12, hD2, v1, v3, v4, v5, v6, v7, v8, v9, v10, v11, v12, v13, rfl⟩
  refine ⟨_, rfl, h, l, rfl, hD2, fun o H3 k3 hD3 po => ?_⟩
  refine ⟨_, rfl, h, l, rfl, hD3, fun u0 H4 k4 hD4 pu0 => ?_⟩
  refine ⟨_, rfl, _, rfl, h, l, o, rfl, hD4, po.kf k4, fun u1 H5 k5 hD5 pu1 => ?_⟩
  refine ⟨_, rfl, _, rfl, h, l, o, rfl, hD5, (po.kf k4).kf k5, fun u2 H6 k6 hD6 pu2 => ?_⟩
  refine ⟨line16 (by show 3 ≤ 1000000; decide), fun L3 nL3 => ?_⟩
  have kL : Kq [] H6 (upd H6 L3 (.lst [.ref u0, .ref u1, .ref u2])) := Kq.alloc nL3
  have gL : (upd H6 L3 (.lst [.ref u0, .ref u1, .ref u2])) L3 = some (.lst [.ref u0, .ref u1, .ref u2]) := upd_same
  have nLd : L3 ∉ [h, l] := fresh_ne hD6.some nL3
  have hD7 := hD6.kq kL
  generalize (upd H6 L3 (.lst [.ref u0, .ref u1, .ref u2])) = H7 at kL gL hD7 ⊢
  refine ⟨_, rfl, h, l, 3, rfl, hD7, by decide, by decide, fun q H8 hq k8 hD8 => ?_⟩
  have hU : ∃ u, ([.ref u0, .ref u1, .ref u2] : List V)[q]? = some (.ref u) ∧ PlTup K H6 u 6 := match q, hq with
    | 0, _ => ⟨_, rfl, (pu0.kf k5).kf k6⟩
    | 1, _ => ⟨_, rfl, pu1.kf k6⟩
    | 2, _ => ⟨_, rfl, pu2⟩
  obtain ⟨u, eu, pu⟩ := hU
  refine ⟨L3, _, _, .ref u, rfl, rfl, SqL.of (k8.q.gets gL nLd), at_of rfl eu, ?_⟩
  have pu8 := (pu.kq kL).kf k8
  have po8 := (((po.kf k4).kf k5).kf k6 |>.kq kL).kf k8
  have k18 : Kf [h, l] H1 H8 := ((((((k12.trans k3).trans k4).trans k5).trans k6).kq kL).trans k8)
  clear pu po pu0 pu1 pu2 eu gL nLd hD3 hD4 hD5 hD6 hD7 hD2 k3 k4 k5 k6 kL k8
  refine ⟨_, rfl, h, l, 10, rfl, hD8, by decide, by decide, fun L H9 hL k9 hD9 => ?_⟩
  refine ⟨_, rfl, h, l, 10, rfl, hD9, by decide, by decide, fun R H10 hR k10 hD10 => ⟨_, _, rfl, ?_⟩⟩
  have po := (po8.kf k9).kf k10
  have pu := (pu8.kf k9).kf k10
  have k20 := (k18.trans k9).trans k10
  clear po8 pu8 k18 k9 hD8 hD9 k10
  obtain ⟨hT20, hP20⟩ := tabs k20
  obtain ⟨ks, tO, pk, lk⟩ := po.tape
  obtain ⟨ls, tU, pl, ll⟩ := pu.tape
  have sgs : ∀ {ts : List Ky} {row : Ln} {c : Nat}, (∀ k ∈ ts, k.plain = true) → (∀ x ∈ row, okSign x) → ∀ x ∈ (lgo id ts (row, c)).1, okSign x := fun {ts row c} pt hr d hd => by
    rcases lgo_mem ts _ _ hd with z | ⟨e, hz, z⟩
    · exact hr _ z
    · rw [z]; exact puts_ok pt _ hz
  -- what is told
  refine ⟨fun σ H' => ∃ told v1 v9 v10 v11 v12 v13, σ = [some (.ref a), v1, some (.ref h), some (.int (0 + (i : Int))), some (.ref o), some (.ref u), some (.int (L : Nat)), some (.int (R : Nat)), some told, v9, v10, v11, v12, v13] ∧ Kq [] H10 H' ∧
    ((told = .non ∧ ∀ a b, L ≤ a → R ≤ b → sySame ks ls a b) ∨ ∃ q row c, told = .ref q ∧ SqT K H' q [.str (S row), .int (c : Nat)] ∧ (∀ x ∈ row, okSign x) ∧ row.length ≤ 40 ∧ c ≤ row.length ∧ lgo id ks (row, c) ≠ lgo id ls (row, c)), ?_, ?_⟩
  · refine ⟨_, rfl, _, rfl, _, rfl, _, rfl, o, u, ks, ls, L, R, rfl, tO, tU, pk, pl, lk, ll, by omega, by omega, hT20, hP20, fun hall H11 k11 => ?_, fun a1 b1 q1 H11 h1 h2 h3 h4 hns k11 hq1 => ?_⟩
    · exact ⟨_, _, _, _, _, _, _, rfl, k11, .inl ⟨rfl, sy_all pk pl lk ll (by omega) (by omega) fun a b h1 h2 h3 h4 => (same_iff2 pk pl lk ll h2 h4).mp (hall a b h1 h2 h3 h4)⟩⟩
    · have hfr := free_row2 pk pl lk ll h2 h4
      exact ⟨_, _, _, _, _, _, _, rfl, k11, .inr ⟨q1, _, a1, rfl, hq1, fun x hx => freeS_ok (List.mem_of_mem_take hx), by rw [hfr]; omega, by rw [hfr]; omega, hns⟩⟩
  rintro σ1 H11 ⟨told, v1', v9', v10', v11', v12', v13', rfl, k11, htold⟩
  refine ⟨fun σ H' => ∃ v1 v9 v10 v11 v12 v13, σ = [some (.ref a), v1, some (.ref h), some (.int (0 + (i : Int))), some (.ref o), some (.ref u), some (.int (L : Nat)), some (.int (R : Nat)), some told, v9, v10, v11, v12, v13] ∧ Kq [] H10 H' ∧
    ((told = .non ∧ ∀ a b, L ≤ a → R ≤ b → sySame ks ls a b) ∨ ∃ q, told = .ref q), ?_, ?_⟩
  · have dpl := fun {ts : List Ky} {row : Ln} {c : Nat} => @sgs ts row c
    rcases htold with ⟨rfl, hall⟩ | ⟨q, row, c, rfl, hq, hsg, hrl, hcr, hne⟩
    · exact ⟨_, rfl, rfl, _, rfl, ite_no9 rfl ⟨_, _, _, _, _, _, rfl, k11, .inl ⟨rfl, hall⟩⟩⟩
    · refine ⟨_, rfl, rfl, _, rfl, ite_yes9 rfl ?_⟩
      refine ⟨_, rfl, q, _, rfl, hq, rfl, _, _, rfl, _, _, rfl, rfl, ?_⟩
      have hT11 := k11.tab _ hT20
      refine ⟨_, rfl, _, rfl, _, rfl, o, ks, row, c, rfl, k11.tape tO, pk, lk, hsg, by omega, hcr, hT11, fun q1 p1 H12 k12' hq1 hp1 => ?_⟩
      refine ⟨_, rfl, _, rfl, _, rfl, u, ls, row, c, rfl, (k11.trans k12').tape tU, pl, ll, hsg, by omega, hcr, k12'.tab _ hT11, fun q2 p2 H13 k13 hq2 hp2 => ?_⟩
      refine ⟨pl9D _, pl9D _, dp_pl9 (k13.tup hq1) (k13.tup hp1), dp_pl9 hq2 hp2, shaped_pl9 (sgs pk hsg), shaped_pl9 (sgs pl hsg), _, rfl, ?_⟩
      rw [eqv_pl9, decide_eq_false hne]
      exact ite_no9 rfl ⟨_, _, _, _, _, _, rfl, (k11.trans k12').trans k13, .inr ⟨q, rfl⟩⟩
  rintro σ2 H14 ⟨v1, v9, v10, v11, v12, v13, rfl, k14, htold⟩
  have k114 := k20.kq k14
  have hD14 := hD10.kq k14
  have tO := k14.tape tO
  have tU := k14.tape tU
  clear k11 hD10 po pu k14
  refine ⟨_, rfl, by decide, by decide, ?_⟩
  refine for_range (lo := 0) (n := (6 : Int).toNat) (fun j σ H' => Kf [h, l] H14 H' ∧ DrAt H' h l ∧ ∃ v1 v9 v10 v11 v12 v13, σ = [some (.ref a), v1, some (.ref h), some (.int (0 + (i : Int))), some (.ref o), some (.ref u), some (.int (L : Nat)), some (.int (R : Nat)), some told, v9, v10, v11, v12, v13]) ⟨Kf.refl hD14.wr, hD14, _, _, _, _, _, _, rfl⟩ ?_ ?_
  rotate_left
  · rintro σ H' ⟨k, hDd, v1, v9, v10, v11, v12, v13, rfl⟩
    exact ⟨k114.trans k, hDd, _, _, _, _, _, _, _, _, _, _, _, _, rfl⟩
  rintro j σ H15 hj ⟨k15, hD15, v1, v9, v10, v11, v12, v13, rfl⟩
  refine ⟨_, rfl, _, rfl, line16 (by show 2 ≤ 1000000; decide), fun Z nZ => ?_⟩
  have kZ : Kq [] H15 (upd H15 Z (.lst [.int 2, .int 20])) := Kq.alloc nZ
  have gZ : (upd H15 Z (.lst [.int 2, .int 20])) Z = some (.lst [.int 2, .int 20]) := upd_same
  have nZd : Z ∉ [h, l] := fresh_ne hD15.some nZ
  have hD16 := hD15.kq kZ
  have k15 := k15.kq kZ
  generalize (upd H15 Z (.lst [.int 2, .int 20])) = H16 at gZ hD16 k15 ⊢
  refine ⟨_, rfl, h, l, 2, rfl, hD16, by decide, by decide, fun r1 H17 hr1 k17 hD17 => ?_⟩
  have hX : ∃ X : Nat, ([.int 2, .int 20] : List V)[r1]? = some (.int X) ∧ 1 ≤ X ∧ X ≤ 20 := match r1, hr1 with
    | 0, _ => ⟨2, rfl, by decide, by decide⟩
    | 1, _ => ⟨20, rfl, by decide, by decide⟩
  obtain ⟨X, eX, X1, X20⟩ := hX
  refine ⟨Z, _, _, .int X, rfl, rfl, SqL.of (k17.q.gets gZ nZd), at_of rfl eX, h, l, X, rfl, hD17, X1, by omega, fun q1 H18 hq1 k18 hD18 => ?_⟩
  have k15 := (k15.trans k17).trans k18
  refine ⟨_, _, rfl, rfl, ?_⟩
  clear kZ gZ nZd k17 k18 hD17 hD16 hD15 nZ Z
  refine ⟨_, rfl, _, rfl, _, _, rfl, rfl, _, rfl, line16 (by show 2 ≤ 1000000; decide), fun Z nZ => ?_⟩
  have kZ : Kq [] H18 (upd H18 Z (.lst [.int 2, .int 16])) := Kq.alloc nZ
  have gZ : (upd H18 Z (.lst [.int 2, .int 16])) Z = some (.lst [.int 2, .int 16]) := upd_same
  have nZd : Z ∉ [h, l] := fresh_ne hD18.some nZ
  have hD19 := hD18.kq kZ
  have k15 := k15.kq kZ
  generalize (upd H18 Z (.lst [.int 2, .int 16])) = H19 at gZ hD19 k15 ⊢
  refine ⟨_, rfl, h, l, 2, rfl, hD19, by decide, by decide, fun r2 H20 hr2 k20' hD20 => ?_⟩
  have hY : ∃ Y : Nat, ([.int 2, .int 16] : List V)[r2]? = some (.int Y) ∧ 1 ≤ Y ∧ Y ≤ 16 := match r2, hr2 with
    | 0, _ => ⟨2, rfl, by decide, by decide⟩
    | 1, _ => ⟨16, rfl, by decide, by decide⟩
  obtain ⟨Y, eY, Y1, Y16⟩ := hY
  refine ⟨Z, _, _, .int Y, rfl, rfl, SqL.of (k20'.q.gets gZ nZd), at_of rfl eY, h, l, Y, rfl, hD20, Y1, by omega, fun q2 H21 hq2 k21 hD21 => ?_⟩
  have k15 := (k15.trans k20').trans k21
  refine ⟨_, _, rfl, rfl, ?_⟩
  clear kZ gZ nZd k20' k21 hD20 hD19 hD18 nZ Z
  have eah : (L : Int) + (q1 : Int) = ((L + q1 : Nat) : Int) := by omega
  have emn : (L : Int) + (q1 : Int) + (R : Int) + (q2 : Int) = (((L + q1) + (R + q2) : Nat) : Int) := by omega
  refine ⟨⟨_, rfl⟩, _, rfl, _, rfl, by omega, by omega, fun D nD => ?_⟩
  have nDd : D ∉ [h, l] := fresh_ne hD21.some nD
  have nDh : D ≠ h := fun e => nDd (by rw [e]; simp)
  have nDl : D ≠ l := fun e => nDd (by rw [e]; simp)
  refine lc_range (lo := 0) (n := ((L : Int) + (q1 : Int) + (R : Int) + (q2 : Int)).toNat) (fun i H2 => Kq [h, l] H21 H2 ∧ DrAt H2 h l ∧ ∃ cs : Ln, cs.length = i ∧ (∀ c ∈ cs, okSign c) ∧ H2 D = some (.lst (cs.map fun c => .str (S [c])))) ⟨(Kq.alloc nD), hD21.kq (Kq.alloc nD), [], rfl, by simp, upd_same⟩ ?_ ?_
  · rintro j H2 hj ⟨kj, hDj, cs, hcl, hcs, hDD⟩
    refine ⟨rfl, ?_⟩
    unfold tYes
    dsimp only
    rw [if_pos rfl]
    refine ⟨_, rfl, h, l, rfl, hDj, fun c H3 hc k3 hD3 => ?_⟩
    have g : H3 D = some (.lst (cs.map fun c => .str (S [c]))) := k3.q.gets hDD (by simp [nDh, nDl])
    refine ⟨_, g, ?_, (kj.trans k3.q).writeF nD g, hD3.upd nDh nDl, cs ++ [c], by simp [hcl], fun d hd => ?_, ?_⟩
    · rw [List.length_map]; exact small1000 (by omega)
    · rcases List.mem_append.mp hd with z | z
      · exact hcs d z
      · rw [List.mem_singleton.mp z]; exact hc
    · rw [upd_same, List.map_append]; rfl
  rintro H22 ⟨kj, hD22, cs, hcl, hcs, hDD⟩
  have hcl : cs.length = (L + q1) + (R + q2) := by rw [hcl]; omega
  have k15 : Kf [h, l] H14 H22 := k15.trans ⟨kj, hD21.wr, hD22.wr⟩
  refine ⟨Str.ofString "", D, cs.map fun c => S [c], rfl, rfl, .inl (SqL.of (by rw [List.map_map]; exact hDD)), ?_, ?_⟩
  · rw [signs_len, List.length_map, empty_eq, S_len]; simp; omega
  rw [join_signs]
  clear kj hDD hD21
  obtain ⟨hT22, _⟩ := tabs (k114.trans k15)
  refine ⟨_, rfl, rfl, _, rfl, ?_⟩
  rcases htold with ⟨rfl, hall⟩ | ⟨q, rfl⟩
  · refine ite_yes9 rfl ?_
    have tO2 := k15.tape tO
    have tU2 := k15.tape tU
    refine ⟨_, rfl, _, rfl, _, rfl, o, ks, cs, L + q1, by show [V.ref o, V.str (S cs), V.int ((L : Int) + (q1 : Int))] = _; rw [eah], tO2, pk, lk, hcs, by omega, by omega, hT22, fun z1 p1 H23 k23 hz1 hp1 => ?_⟩
    refine ⟨_, rfl, _, rfl, _, rfl, u, ls, cs, L + q1, by show [V.ref u, V.str (S cs), V.int ((L : Int) + (q1 : Int))] = _; rw [eah], k23.tape tU2, pl, ll, hcs, by omega, by omega, k23.tab _ hT22, fun z2 p2 H24 k24 hz2 hp2 => ?_⟩
    have heq : lgo id ks (cs, L + q1) = lgo id ls (cs, L + q1) := sy_same (by rw [hcl]; exact hall (L + q1) (R + q2) (by omega) (by omega))
    refine ⟨pl9D _, pl9D _, dp_pl9 (k24.tup hz1) (k24.tup hp1), dp_pl9 hz2 hp2, shaped_pl9 (sgs pk hcs), shaped_pl9 (sgs pl hcs), _, rfl, ?_⟩
    rw [eqv_pl9, decide_eq_true heq]
    exact ite_no9 rfl ⟨(k15.kq k23).kq k24, (hD22.kq k23).kq k24, _, _, _, _, _, _, rfl⟩
  · exact ite_no9 rfl (ite_no9 rfl ⟨k15, hD22, _, _, _, _, _, _, rfl⟩)
end
end KT
set_option Elab.async false
set_option linter.all false
set_option maxRecDepth 100000
set_option maxHeartbeats 0
namespace KT
open PySem PySem.Spec PyProof.Rows L2
open PySem.W PySem.Calls
abbrev qv : Program := PySem.W.view R.prog [73]
theorem map3 {α β γ δ : Type} {X : Option α} {a : α → β} {b : α → γ} {c : α → δ} {x : β} {y : γ} {z : δ} (h1 : X.map a = some x) (h2 : X.map b = some y) (h3 : X.map c = some z) : X.map (fun s => (a s, b s, c s)) = some (x, y, z) := by
  cases X with
  | none => cases h1
  | some s =>
    have e1 : a s = x := Option.some.inj h1
    have e2 : b s = y := Option.some.inj h2
    have e3 : c s = z := Option.some.inj h3
    show some (a s, b s, c s) = some (x, y, z)
    rw [e1, e2, e3]
noncomputable def endW (w : World) (os : OsState) : Option PySem.W.SharedT := HandSHeadRun.endF (HandSHeadRun.stepQ (HandSHeadRun.denQ HandSHeadRun.tabQ) R.prog w) 9000 R.prog w os
def wB (b : Bool) (w : World) : World := World.withFollow w "special-get-raises" b
theorem run1_false (w : World) (os : OsState) : (endW (wB false w) os).map (fun s => HandSHeadRun.looksF R.prog (boot_heap (wB false w).params) s.abs) = some true := by kernel_rfl
theorem run2_false (w : World) (os : OsState) : (endW (wB false w) os).map (fun s => HandSHeadRun.seenQ qv loose (importedModules R.prog.main.body) (fun s => PySem.W.xlAt qv [] s && PySem.W.recOk R.toRowW.records s) s.abs) = some (PySem.W.openGood qv loose) := by kernel_rfl
theorem run3_false (w : World) (os : OsState) : (endW (wB false w) os).map (fun s => ob s) = some (hk.val (wB false w)) := by kernel_rfl
theorem run_false (w : World) : HandSHeadRun.RunEq R qv hk ob 9000 loose (wB false w) := fun os => map3 (run1_false w os) (run2_false w os) (run3_false w os)
theorem run1_true (w : World) (os : OsState) : (endW (wB true w) os).map (fun s => HandSHeadRun.looksF R.prog (boot_heap (wB true w).params) s.abs) = some true := by kernel_rfl
theorem run2_true (w : World) (os : OsState) : (endW (wB true w) os).map (fun s => HandSHeadRun.seenQ qv loose (importedModules R.prog.main.body) (fun s => PySem.W.xlAt qv [] s && PySem.W.recOk R.toRowW.records s) s.abs) = some (PySem.W.openGood qv loose) := by kernel_rfl
theorem run3_true (w : World) (os : OsState) : (endW (wB true w) os).map (fun s => ob s) = some (hk.val (wB true w)) := by kernel_rfl
theorem run_true (w : World) : HandSHeadRun.RunEq R qv hk ob 9000 loose (wB true w) := fun os => map3 (run1_true w os) (run2_true w os) (run3_true w os)
theorem run (w : World) : HandSHeadRun.RunEq R qv hk ob 9000 loose w := PySem.W.byRow2 "special-get-raises" (P := fun w => HandSHeadRun.RunEq R qv hk ob 9000 loose w) run_false run_true w
end KT
set_option Elab.async false
set_option linter.all false
set_option maxRecDepth 100000
set_option maxHeartbeats 4000000
namespace KT
open PySem PySem.Spec PyProof.Rows L2
theorem end_binds {w : World} {K : PySem.W.Frag} {mg : Str → Option Value} (T : Tx w K mg) (s : Shared) (v : Value) : BindsTo s (fdOf K (Ad K d_law.at_)) ⟨[v], []⟩ [("_law_script", v)] := by
  have F := T.f_law
  unfold FnT at F
  have e : d_law.dvs K = [] := rfl
  rw [e] at F
  exact (FunD.bindsA (ps := ["_law_script"]) F fun _ _ _ _ _ _ us hl => match us, hl with | [_], _ => rfl) s [v] rfl
theorem end_law {w : World} {K : PySem.W.Frag} {h : Heap} {mg : Str → Option Value} {f : Addr} (X : K.In h) (G : h.Ns mainGlobals mg) (hfa : mg ("law" : Str) = some (.ref f)) (c : He.SaysX fa fn ts tf ex w h K) :
    LamX.LawAtS PySem.Challenge.rw_keytape_k09_whole_alike_ones_on_any_row w K (L2.CX (PySem.Challenge.rw_keytape_k09_whole_alike_ones_on_any_row).prog w) 75 63 "_law_script" mg f h := by
  have T : Tx w K mg := ⟨h, X, G, c⟩
  have e := hfa.symm.trans T.g_law
  cases e
  letI : GT := ⟨(He.cT K ("are_signs", none)).2, [], by simp⟩
  refine ⟨fdOf K (Ad K d_law.at_), [He.cT K ("are_signs", none), He.cT K ("signs_not_put", none)], sp_law9 K, fun p hp => ?_, fun p hp => ?_, fun p hp => ?_, fun s v => end_binds T s v, fun H a ns hl _ ht hS => ⟨a, ns, rfl, hS, ?_, ?_, fun _ => rfl⟩, fun base KX2 G2 B => ?_⟩
  · simp only [List.mem_cons, List.not_mem_nil, or_false] at hp
    rcases hp with rfl | rfl <;> exact c.empty _ (by simp [tf, gens, makers])
  · simp only [List.mem_cons, List.not_mem_nil, or_false] at hp
    rcases hp with rfl | rfl <;> exact c.out _ (by simp [tf, gens, makers])
  · simp only [List.mem_cons, List.not_mem_nil, or_false] at hp
    rcases hp with rfl | rfl <;> exact PySem.W.codeHd_of_K X (c.hd _ (by simp [tf, gens, makers]))
  · exact ⟨#[], ht (He.cT K ("are_signs", none)) (by simp), by first | trivial | exact .nil | (show TriplesOk []; simp [TriplesOk])⟩
  · exact ⟨#[], ht (He.cT K ("signs_not_put", none)) (by simp), by first | trivial | exact .nil | (show TriplesOk []; simp [TriplesOk])⟩
  · skip
    have b0 := B (He.cT K ("are_signs", none)) (by simp)
    have b1 := B (He.cT K ("signs_not_put", none)) (by simp)
    exact (ok_law T ⟨b0.code, b0.bm, b0.gP⟩ ⟨b1.code, b1.bm, b1.gP⟩ (fun q hq => by cases hq)).ok
end KT
open PySem PySem.W PySem.Calls PyProof.Rows
theorem PySem.Challenge.cw_keytape_k09_whole_alike_ones_on_any_row_holds : PySem.Challenge.rw_keytape_k09_whole_alike_ones_on_any_row.Holds := by
  w_on; o_law
  refine HandSHeadRun.head_any (r := OpenLaw.row PySem.Challenge.rw_keytape_k09_whole_alike_ones_on_any_row) (q := view (OpenLaw.row PySem.Challenge.rw_keytape_k09_whole_alike_ones_on_any_row).prog [73]) (H := KT.hk) (ob := KT.ob) (M := 9000) (loose := KT.loose) (d := HandSHeadRun.topDef (OpenLaw.row PySem.Challenge.rw_keytape_k09_whole_alike_ones_on_any_row).prog 73) (kwd := []) KT.ob_eq
    (by kernel_rfl) (fun s => by kernel_rfl) KT.run (by kernel_rfl) (by kernel_rfl) (by kernel_rfl) (by rfl) (by first | assumption | decide +kernel) (by decide +kernel) ⟨rfl, rfl, rfl, rfl, rfl, by decide +kernel⟩ ?hw ?hc
  case hw => w_witness2
  case hc =>
    refine LamX.walk_ofTsE (l := PySem.Challenge.rw_keytape_k09_whole_alike_ones_on_any_row) (n := 63) (k := 75) (x := "_law_script") (CX := fun w => L2.CX (PySem.Challenge.rw_keytape_k09_whole_alike_ones_on_any_row).prog w) rfl (by decide) (by kernel_rfl) ⟨rfl, by decide, by decide⟩ ?F ?c
    case F =>
      intro w mg fa h Y G hmg0
      obtain ⟨K, KX, c⟩ := Y
      have hmg : mg ("law" : PySem.Str) = some (.ref fa) := by
        have e : (HandSHeadRun.topDef (OpenLaw.row PySem.Challenge.rw_keytape_k09_whole_alike_ones_on_any_row).prog 73).name = ("law" : PySem.Str) := by kernel_rfl
        rw [← e]
        exact hmg0
      exact ⟨K, KX, KT.end_law KX G hmg c⟩
    case c =>
      intro w H s e s' hc
      obtain ⟨a, B, H', cls, d, _, _, _, _, _, _, _, hE⟩ := hc
      exact hE

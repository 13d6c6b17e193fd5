import PyProof.Rows.All
import Wide.All
import OpenK.AllK
import Wide.FinOn
import HandS.Base
import HandS.Call
import HandS.List
import HandS.Comp
import HandS.Ends
import HandS.More
import HandS.Words
import HandS.WordsList
import HandS.WordsDict
import HandS.WordsExc
import HandS.Dict
import HandS.Iter
import HandS.Text
import HandS.Exc
import HandS.ExcOwn
import HandS.Defaults
import HandS.Head0
import HandS.Head1
import HandS.Head2
import HandS.HeadEnd
import HandS.HeadHook1
import HandS.HeadHook2
import HandS.HeadHook3
import HandS.HeadHook4
import HandS.TupAny
import HandS.AnyAll
import HandS.StrMore
import HandS.RaiseOp
import HandS.IsInst
import PyProof.Rows.MatchSeqLen
import PyProof.Rows.TupAssign
import HandS.DictComp
import HandS.Codes
import KE.GoesMore
import HandS.Deep
import HandS.ReplaceLit
import HandS.TupLe
import PyProof.StrLawsReplace
import HandS.HeadWalk
import PySem.Challenge.RW_keytape_k11_known_tapes
set_option linter.all false
namespace KT
abbrev Ln := List Nat
/-! ### pages -/
structure Pg where
  rows : List Ln
  row : Nat
  col : Nat
  clip : Ln
def Pg.line (g : Pg) : Ln := g.rows.getD g.row []
abbrev okSign (c : Nat) : Prop := 32 ≤ c ∧ c ≤ 126
/-- what a page of the program is like -/
structure Pg.Ok (g : Pg) : Prop where
  many : g.rows.length ≤ 12
  long : ∀ l ∈ g.rows, l.length ≤ 60
  row : g.row < g.rows.length
  col : g.col ≤ g.line.length
  clip : g.clip.length ≤ 60
  sig : ∀ l ∈ g.rows, ∀ c ∈ l, okSign c
  csig : ∀ c ∈ g.clip, okSign c
/-- other lines for so many rows -/
def Pg.others (g : Pg) (f n : Nat) (ls : List Ln) : List Ln := g.rows.take f ++ ls ++ g.rows.drop (f + n)
def Pg.write (s : Ln) (g : Pg) : Option Pg :=
  if 60 < g.line.length + s.length then none else some { rows := g.others g.row 1 [g.line.take g.col ++ s ++ g.line.drop g.col], row := g.row, col := g.col + s.length, clip := g.clip }
def Pg.brk (g : Pg) : Option Pg :=
  if 12 ≤ g.rows.length then none else some { rows := g.others g.row 1 [g.line.take g.col, g.line.drop g.col], row := g.row + 1, col := 0, clip := g.clip }
def Pg.join (g : Pg) : Option Pg :=
  if g.row = 0 then none else
  if 60 < (g.rows.getD (g.row - 1) [] ++ g.line).length then none else
  some { rows := g.others (g.row - 1) 2 [g.rows.getD (g.row - 1) [] ++ g.line], row := g.row - 1, col := (g.rows.getD (g.row - 1) []).length, clip := g.clip }
def Pg.rub (g : Pg) : Option Pg :=
  if g.col = 0 then g.join else some { rows := g.others g.row 1 [g.line.take (g.col - 1) ++ g.line.drop g.col], row := g.row, col := g.col - 1, clip := g.clip }
def Pg.at_ (g : Pg) (r c : Nat) : Pg := { g with row := r, col := c }
def Pg.left (g : Pg) : Option Pg :=
  if 0 < g.col then some (g.at_ g.row (g.col - 1)) else if g.row = 0 then none else some (g.at_ (g.row - 1) (g.rows.getD (g.row - 1) []).length)
def Pg.right (g : Pg) : Option Pg :=
  if g.col < g.line.length then some (g.at_ g.row (g.col + 1)) else if g.row + 1 = g.rows.length then none else some (g.at_ (g.row + 1) 0)
def Pg.toRow (i : Int) (g : Pg) : Option Pg :=
  if i < 0 ∨ (g.rows.length : Int) ≤ i then none else some (g.at_ i.toNat (min g.col (g.rows.getD i.toNat []).length))
def Pg.up (g : Pg) : Option Pg := g.toRow ((g.row : Int) - 1)
def Pg.down (g : Pg) : Option Pg := g.toRow ((g.row : Int) + 1)
def Pg.home (g : Pg) : Option Pg := some (g.at_ g.row 0)
def Pg.end_ (g : Pg) : Option Pg := some (g.at_ g.row g.line.length)
/-- w stands in l at c -/
def stands (w l : Ln) (c : Nat) : Bool := decide (c + w.length ≤ l.length) && decide ((l.drop c).take w.length = w)
/-- the first place from c on, n places looked at -/
def firstAt (w l : Ln) : Nat → Nat → Option Nat
  | _, 0 => none
  | c, n + 1 => if stands w l c then some c else firstAt w l (c + 1) n
def findL (w l : Ln) (c : Nat) : Option Nat := firstAt w l c (l.length + 1 - c)
def seek (w : Ln) : List Ln → Nat → Nat → Option (Nat × Nat)
  | [], _, _ => none
  | l :: r, k, c => match findL w l c with
    | some j => some (k, j)
    | none => seek w r (k + 1) 0
def Pg.find (w : Ln) (g : Pg) : Option Pg := (seek w (g.rows.drop g.row) g.row (g.col + 1)).map fun p => g.at_ p.1 p.2
def isLet (c : Nat) : Bool := decide (97 ≤ c) && decide (c ≤ 122)
def lets (l : Ln) : Nat := (l.takeWhile isLet).length
def Pg.take (g : Pg) : Option Pg :=
  let m := lets (g.line.drop g.col)
  if m = 0 then none else some { rows := g.others g.row 1 [g.line.take g.col ++ g.line.drop (g.col + m)], row := g.row, col := g.col, clip := (g.line.drop g.col).take m }
def Pg.lay (g : Pg) : Option Pg := if g.clip = [] then none else g.write g.clip
/-! ### keys -/
inductive Ky where
  | put (s : Ln) | find (w : Ln)
  | brk | rub | left | right | up | down | home | end_ | take | lay
  | play (n : Nat) (many : Nat) | till (n : Nat)
  deriving DecidableEq
/-- what the program takes for a key -/
def Ky.Ok : Ky → Prop
  | .put s => s.length = 1 ∧ ∀ c ∈ s, okSign c
  | .find s => 1 ≤ s.length ∧ s.length ≤ 4 ∧ ∀ c ∈ s, okSign c
  | .play n m => n < 8 ∧ 1 ≤ m ∧ m ≤ 9
  | .till n => n < 8
  | _ => True
/-- it plays nothing -/
def Ky.single : Ky → Bool
  | .play _ _ => false
  | .till _ => false
  | _ => true
/-- a key that plays no tape -/
def Pg.does (g : Pg) : Ky → Option Pg
  | .put s => g.write s
  | .find w => g.find w
  | .brk => g.brk
  | .rub => g.rub
  | .left => g.left
  | .right => g.right
  | .up => g.up
  | .down => g.down
  | .home => g.home
  | .end_ => g.end_
  | .take => g.take
  | .lay => g.lay
  | _ => none
end KT
namespace KT
/-! ### playing -/
/-- what a player is at -/
structure PSt where
  page : Pg
  typed : List Ky
  things : Nat
inductive Res where
  | long
  | fin (fits : Bool) (st : PSt)
def addT (st : PSt) : Option PSt := if st.things < 400 then some { st with things := st.things + 1 } else none
/-- keys in turn, up to one that doesn't fit -/
def keysR (f : Ky → PSt → Res) : List Ky → PSt → Res
  | [], st => .fin true st
  | k :: ks, st => match f k st with
    | .fin true st' => keysR f ks st'
    | r => r
/-- a tape, once more -/
def once (f : Ky → PSt → Res) (ks : List Ky) (st : PSt) : Res := match addT st with
  | none => .long
  | some st' => keysR f ks st'
def timesR (g : PSt → Res) : Nat → PSt → Res
  | 0, st => .fin true st
  | m + 1, st => match g st with
    | .fin true st' => timesR g m st'
    | r => r
def tillR (g : PSt → Res) : Nat → PSt → Res
  | 0, _ => .long
  | n + 1, st => match g st with
    | .fin true st' => tillR g n st'
    | .fin false st' => .fin true st'
    | .long => .long
/-- a key that plays nothing -/
def singleR (k : Ky) (st : PSt) : Res := match st.page.does k with
  | none => .fin false st
  | some g => .fin true ⟨g, st.typed ++ [k], st.things⟩
/-- what a play or till does, with so many others yet allowed around -/
def playR (tp : Nat → List Ky) (o : Option (Ky → PSt → Res)) (k : Ky) (st : PSt) : Res := match k with
  | .play n m => match o with
    | none => .fin false st
    | some f => timesR (once f (tp n)) m st
  | .till n => match o with
    | none => .fin false st
    | some f => tillR (once f (tp n)) 401 st
  | k => singleR k st
def doK (tp : Nat → List Ky) : Nat → Ky → PSt → Res
  | 0, k, st => match addT st with
    | none => .long
    | some st' => playR tp none k st'
  | d + 1, k, st => match addT st with
    | none => .long
    | some st' => playR tp (some (doK tp d)) k st'
/-- below the play or till at d others -/
def under (tp : Nat → List Ky) : Nat → Option (Ky → PSt → Res)
  | 0 => none
  | d + 1 => some (doK tp d)
theorem doK_eq (tp : Nat → List Ky) (d : Nat) (k : Ky) (st : PSt) : doK tp d k st = match addT st with
    | none => .long
    | some st' => playR tp (under tp d) k st' := by
  cases d <;> rfl
end KT
set_option linter.all false
namespace KT
theorem others_len (g : Pg) {f n : Nat} {ls : List Ln} (h : f ≤ g.rows.length) : (g.others f n ls).length = f + ls.length + (g.rows.length - (f + n)) := by
  unfold Pg.others
  rw [List.length_append, List.length_append, List.length_take, List.length_drop]
  omega
theorem others_mem (g : Pg) {f n : Nat} {ls : List Ln} {l : Ln} (h : l ∈ g.others f n ls) : l ∈ g.rows ∨ l ∈ ls := by
  unfold Pg.others at h
  rcases List.mem_append.mp h with h | h
  · rcases List.mem_append.mp h with h | h
    · exact .inl (List.mem_of_mem_take h)
    · exact .inr h
  · exact .inl (List.mem_of_mem_drop h)
theorem others_get (g : Pg) {f n i : Nat} {ls : List Ln} (h : f ≤ g.rows.length) (hi : i < ls.length) : (g.others f n ls).getD (f + i) [] = ls.getD i [] := by
  unfold Pg.others
  have h1 : (g.rows.take f).length = f := by rw [List.length_take]; omega
  rw [List.getD_eq_getElem?_getD, List.getD_eq_getElem?_getD, List.getElem?_append_left (by rw [List.length_append]; omega), List.getElem?_append_right (by omega), h1]
  congr 2
  omega
theorem Pg.Ok.line_le {g : Pg} (ok : g.Ok) : g.line.length ≤ 60 := by
  unfold Pg.line
  rw [List.getD_eq_getElem?_getD, List.getElem?_eq_getElem ok.row]
  exact ok.long _ (List.getElem_mem _)
theorem Pg.Ok.row_le {g : Pg} (ok : g.Ok) {i : Nat} (h : i < g.rows.length) : (g.rows.getD i []).length ≤ 60 := by
  rw [List.getD_eq_getElem?_getD, List.getElem?_eq_getElem h]
  exact ok.long _ (List.getElem_mem _)
/-- one row changed -/
theorem Pg.Ok.line_sig {g : Pg} (ok : g.Ok) : ∀ c ∈ g.line, okSign c := by
  unfold Pg.line
  rw [List.getD_eq_getElem?_getD, List.getElem?_eq_getElem ok.row]
  exact ok.sig _ (List.getElem_mem _)
theorem Pg.Ok.row_sig {g : Pg} (ok : g.Ok) {i : Nat} (h : i < g.rows.length) : ∀ c ∈ g.rows.getD i [], okSign c := by
  rw [List.getD_eq_getElem?_getD, List.getElem?_eq_getElem h]
  exact ok.sig _ (List.getElem_mem _)
theorem ok_one {g : Pg} (ok : g.Ok) {l cl : Ln} {c : Nat} (h : l.length ≤ 60) (hc : c ≤ l.length) (hcl : cl.length ≤ 60) (hs : ∀ c ∈ l, okSign c) (hcs : ∀ c ∈ cl, okSign c) : Pg.Ok { rows := g.others g.row 1 [l], row := g.row, col := c, clip := cl } := by
  have hr := ok.row
  have hl := others_len g (n := 1) (ls := [l]) (Nat.le_of_lt hr)
  have hm := ok.many
  have e : (g.others g.row 1 [l]).length = g.rows.length := by rw [hl]; simp; omega
  refine ⟨by show (g.others g.row 1 [l]).length ≤ 12; omega, fun m hm => ?_, by show g.row < (g.others g.row 1 [l]).length; omega, ?_, hcl, fun m hm => ?_, hcs⟩
  · rcases others_mem g hm with h1 | h1
    · exact ok.long m h1
    · rw [List.mem_singleton.mp h1]; exact h
  · show c ≤ ((g.others g.row 1 [l]).getD g.row []).length
    have := others_get g (n := 1) (i := 0) (ls := [l]) (Nat.le_of_lt hr) (by simp)
    rw [Nat.add_zero] at this
    rw [this]
    exact hc
  · rcases others_mem g hm with h1 | h1
    · exact ok.sig m h1
    · rw [List.mem_singleton.mp h1]; exact hs
theorem at_ok {g : Pg} (ok : g.Ok) {r c : Nat} (h : r < g.rows.length) (hc : c ≤ (g.rows.getD r []).length) : (g.at_ r c).Ok := ⟨ok.many, ok.long, h, hc, ok.clip, ok.sig, ok.csig⟩
theorem sig_app {a b : Ln} (h : ∀ c ∈ a, okSign c) (h' : ∀ c ∈ b, okSign c) : ∀ c ∈ a ++ b, okSign c := fun c hc => (List.mem_append.mp hc).elim (h c) (h' c)
theorem sig_take {a : Ln} {n : Nat} (h : ∀ c ∈ a, okSign c) : ∀ c ∈ a.take n, okSign c := fun c hc => h c (List.mem_of_mem_take hc)
theorem sig_drop {a : Ln} {n : Nat} (h : ∀ c ∈ a, okSign c) : ∀ c ∈ a.drop n, okSign c := fun c hc => h c (List.mem_of_mem_drop hc)
theorem write_ok {g g' : Pg} {s : Ln} (ok : g.Ok) (hs : ∀ c ∈ s, okSign c) (h : g.write s = some g') : g'.Ok := by
  unfold Pg.write at h
  split at h
  · cases h
  · rename_i hn
    cases h
    have hc := ok.col
    refine ok_one ok ?_ ?_ ok.clip (sig_app (sig_app (sig_take ok.line_sig) hs) (sig_drop ok.line_sig)) ok.csig
    · simp only [List.length_append, List.length_take, List.length_drop]; omega
    · simp only [List.length_append, List.length_take, List.length_drop]; omega
theorem brk_ok {g g' : Pg} (ok : g.Ok) (h : g.brk = some g') : g'.Ok := by
  unfold Pg.brk at h
  split at h
  · cases h
  · rename_i hn
    cases h
    have hr := ok.row
    have h60 := ok.line_le
    have hl := others_len g (n := 1) (ls := [g.line.take g.col, g.line.drop g.col]) (Nat.le_of_lt hr)
    have e : (g.others g.row 1 [g.line.take g.col, g.line.drop g.col]).length = g.rows.length + 1 := by rw [hl]; simp; omega
    refine ⟨by show (g.others g.row 1 _).length ≤ 12; omega, fun m hm => ?_, by show g.row + 1 < (g.others g.row 1 _).length; omega, Nat.zero_le _, ok.clip, fun m hm => ?_, ok.csig⟩
    · rcases others_mem g hm with h1 | h1
      · exact ok.long m h1
      · simp only [List.mem_cons, List.not_mem_nil, or_false] at h1
        rcases h1 with rfl | rfl
        · rw [List.length_take]; omega
        · rw [List.length_drop]; omega
    · rcases others_mem g hm with h1 | h1
      · exact ok.sig m h1
      · simp only [List.mem_cons, List.not_mem_nil, or_false] at h1
        rcases h1 with rfl | rfl
        · exact sig_take ok.line_sig
        · exact sig_drop ok.line_sig
theorem join_ok {g g' : Pg} (ok : g.Ok) (h : g.join = some g') : g'.Ok := by
  unfold Pg.join at h
  split at h
  · cases h
  · rename_i h0
    split at h
    · cases h
    · rename_i hn
      cases h
      have hr := ok.row
      have hm := ok.many
      have hl := others_len g (f := g.row - 1) (n := 2) (ls := [g.rows.getD (g.row - 1) [] ++ g.line]) (by omega)
      have e : (g.others (g.row - 1) 2 [g.rows.getD (g.row - 1) [] ++ g.line]).length = g.rows.length - 1 := by rw [hl]; simp; omega
      refine ⟨by show (g.others (g.row - 1) 2 _).length ≤ 12; omega, fun m hm => ?_, by show g.row - 1 < (g.others (g.row - 1) 2 _).length; omega, ?_, ok.clip, fun m hm => ?_, ok.csig⟩
      · rcases others_mem g hm with h1 | h1
        · exact ok.long m h1
        · rw [List.mem_singleton.mp h1]; omega
      rotate_left
      · rcases others_mem g hm with h1 | h1
        · exact ok.sig m h1
        · rw [List.mem_singleton.mp h1]; exact sig_app (ok.row_sig (by omega)) ok.line_sig
      · show (g.rows.getD (g.row - 1) []).length ≤ ((g.others (g.row - 1) 2 [g.rows.getD (g.row - 1) [] ++ g.line]).getD (g.row - 1) []).length
        have := others_get g (f := g.row - 1) (n := 2) (i := 0) (ls := [g.rows.getD (g.row - 1) [] ++ g.line]) (by omega) (by simp)
        rw [Nat.add_zero] at this
        rw [this]
        simp
theorem toRow_ok {g g' : Pg} {i : Int} (ok : g.Ok) (h : g.toRow i = some g') : g'.Ok := by
  unfold Pg.toRow at h
  split at h
  · cases h
  · rename_i hn
    cases h
    refine at_ok ok (by omega) ?_
    omega
theorem seek_ok {w : Ln} : ∀ {ls : List Ln} {k c r j : Nat}, seek w ls k c = some (r, j) → k ≤ r ∧ r < k + ls.length ∧ j ≤ (ls.getD (r - k) []).length
  | [], _, _, _, _, h => by cases h
  | l :: rest, k, c, r, j, h => by
    unfold seek at h
    cases hf : findL w l c with
    | some q =>
      rw [hf] at h
      cases h
      have : stands w l j = true := by
        have hs : ∀ (n c : Nat), firstAt w l c n = some j → stands w l j = true := by
          intro n
          induction n with
          | zero => intro c h; cases h
          | succ n ih =>
            intro c h
            unfold firstAt at h
            split at h
            · cases h; assumption
            · exact ih _ h
        exact hs _ _ hf
      refine ⟨Nat.le_refl _, by simp, ?_⟩
      rw [Nat.sub_self]
      unfold stands at this
      simp only [Bool.and_eq_true, decide_eq_true_eq] at this
      show j ≤ l.length
      omega
    | none =>
      rw [hf] at h
      obtain ⟨h1, h2, h3⟩ := seek_ok h
      refine ⟨by omega, by simp only [List.length_cons]; omega, ?_⟩
      rw [show r - k = (r - (k + 1)) + 1 by omega]
      exact h3
theorem lets_le (l : Ln) : lets l ≤ l.length := by
  unfold lets
  exact (List.takeWhile_sublist isLet).length_le
theorem does_ok {g g' : Pg} {k : Ky} (ok : g.Ok) (kok : k.Ok) (h : g.does k = some g') : g'.Ok := by
  have hr := ok.row
  have hc := ok.col
  have h60 := ok.line_le
  cases k with
  | put s => exact write_ok ok kok.2 h
  | find w =>
    have h : (seek w (g.rows.drop g.row) g.row (g.col + 1)).map (fun p => g.at_ p.1 p.2) = some g' := h
    cases hs : seek w (g.rows.drop g.row) g.row (g.col + 1) with
    | none => rw [hs] at h; cases h
    | some p =>
      rw [hs] at h
      cases h
      obtain ⟨h1, h2, h3⟩ := seek_ok (r := p.1) (j := p.2) hs
      rw [List.length_drop] at h2
      refine at_ok ok (by omega) ?_
      rw [List.getD_eq_getElem?_getD, List.getElem?_drop, show g.row + (p.1 - g.row) = p.1 by omega, ← List.getD_eq_getElem?_getD] at h3
      exact h3
  | brk => exact brk_ok ok h
  | rub =>
    have h : g.rub = some g' := h
    unfold Pg.rub at h
    split at h
    · exact join_ok ok h
    · cases h
      refine ok_one ok ?_ ?_ ok.clip (sig_app (sig_take ok.line_sig) (sig_drop ok.line_sig)) ok.csig
      · simp only [List.length_append, List.length_take, List.length_drop]; omega
      · simp only [List.length_append, List.length_take, List.length_drop]; omega
  | left =>
    have h : g.left = some g' := h
    unfold Pg.left at h
    split at h
    · cases h; exact at_ok ok hr (by show g.col - 1 ≤ g.line.length; omega)
    · split at h
      · cases h
      · cases h; exact at_ok ok (by omega) (Nat.le_refl _)
  | right =>
    have h : g.right = some g' := h
    unfold Pg.right at h
    split at h
    · cases h; exact at_ok ok hr (by show g.col + 1 ≤ g.line.length; omega)
    · split at h
      · cases h
      · cases h; exact at_ok ok (by omega) (Nat.zero_le _)
  | up => exact toRow_ok ok h
  | down => exact toRow_ok ok h
  | home => cases h; exact at_ok ok hr (Nat.zero_le _)
  | end_ => cases h; exact at_ok ok hr (Nat.le_refl _)
  | take =>
    have h : g.take = some g' := h
    unfold Pg.take at h
    have hlt := lets_le (g.line.drop g.col)
    rw [List.length_drop] at hlt
    simp only at h
    split at h
    · cases h
    · cases h
      refine ok_one ok ?_ ?_ ?_ (sig_app (sig_take ok.line_sig) (sig_drop ok.line_sig)) (sig_take (sig_drop ok.line_sig))
      · simp only [List.length_append, List.length_take, List.length_drop]; omega
      · simp only [List.length_append, List.length_take, List.length_drop]; omega
      · simp only [List.length_take, List.length_drop]; omega
  | lay =>
    have h : g.lay = some g' := h
    unfold Pg.lay at h
    split at h
    · cases h
    · exact write_ok ok ok.csig h
  | play _ _ => cases h
  | till _ => cases h
/-! ### playing counts -/
theorem addT_some {st st' : PSt} (h : addT st = some st') : st'.page = st.page ∧ st'.typed = st.typed ∧ st'.things = st.things + 1 ∧ st.things < 400 := by
  unfold addT at h
  split at h
  · cases h; exact ⟨rfl, rfl, rfl, by assumption⟩
  · cases h
theorem addT_none {st : PSt} (h : addT st = none) : 400 ≤ st.things := by
  unfold addT at h
  split at h
  · cases h
  · omega
theorem keysR_mono {f : Ky → PSt → Res} (hf : ∀ k st b st', f k st = .fin b st' → st.things ≤ st'.things) : ∀ (ks : List Ky) (st : PSt) (b : Bool) (st' : PSt), keysR f ks st = .fin b st' → st.things ≤ st'.things
  | [], st, b, st', h => by cases h; exact Nat.le_refl _
  | k :: ks, st, b, st', h => by
    unfold keysR at h
    cases hk : f k st with
    | long => rw [hk] at h; cases h
    | fin c s1 =>
      have h1 := hf _ _ _ _ hk
      rw [hk] at h
      cases c with
      | true => exact Nat.le_trans h1 (keysR_mono hf ks s1 b st' h)
      | false => cases h; exact h1
theorem once_mono {f : Ky → PSt → Res} (hf : ∀ k st b st', f k st = .fin b st' → st.things ≤ st'.things) {ks : List Ky} {st : PSt} {b : Bool} {st' : PSt} (h : once f ks st = .fin b st') : st.things + 1 ≤ st'.things := by
  unfold once at h
  cases ha : addT st with
  | none => rw [ha] at h; cases h
  | some s1 =>
    rw [ha] at h
    have := (addT_some ha).2.2.1
    have := keysR_mono hf ks s1 b st' h
    omega
theorem timesR_mono {g : PSt → Res} (hg : ∀ st b st', g st = .fin b st' → st.things ≤ st'.things) : ∀ (m : Nat) (st : PSt) (b : Bool) (st' : PSt), timesR g m st = .fin b st' → st.things ≤ st'.things
  | 0, st, b, st', h => by cases h; exact Nat.le_refl _
  | m + 1, st, b, st', h => by
    unfold timesR at h
    cases hk : g st with
    | long => rw [hk] at h; cases h
    | fin c s1 =>
      have h1 := hg _ _ _ hk
      rw [hk] at h
      cases c with
      | true => exact Nat.le_trans h1 (timesR_mono hg m s1 b st' h)
      | false => cases h; exact h1
theorem tillR_mono {g : PSt → Res} (hg : ∀ st b st', g st = .fin b st' → st.things ≤ st'.things) : ∀ (m : Nat) (st : PSt) (b : Bool) (st' : PSt), tillR g m st = .fin b st' → st.things ≤ st'.things
  | 0, st, b, st', h => by cases h
  | m + 1, st, b, st', h => by
    unfold tillR at h
    cases hk : g st with
    | long => rw [hk] at h; cases h
    | fin c s1 =>
      have h1 := hg _ _ _ hk
      rw [hk] at h
      cases c with
      | true => exact Nat.le_trans h1 (tillR_mono hg m s1 b st' h)
      | false => cases h; exact h1
theorem singleR_mono {k : Ky} {st : PSt} {b : Bool} {st' : PSt} (h : singleR k st = .fin b st') : st.things ≤ st'.things := by
  unfold singleR at h
  cases hd : st.page.does k with
  | none => rw [hd] at h; cases h; exact Nat.le_refl _
  | some g => rw [hd] at h; cases h; exact Nat.le_refl _
theorem playR_mono {tp : Nat → List Ky} {o : Option (Ky → PSt → Res)} (ho : ∀ f, o = some f → ∀ k st b st', f k st = .fin b st' → st.things ≤ st'.things) {k : Ky} {st : PSt} {b : Bool} {st' : PSt} (h : playR tp o k st = .fin b st') : st.things ≤ st'.things := by
  cases k with
  | play n m =>
    cases o with
    | none => cases h; exact Nat.le_refl _
    | some f => exact timesR_mono (fun st b st' h => Nat.le_of_succ_le (once_mono (ho f rfl) h)) m st b st' h
  | till n =>
    cases o with
    | none => cases h; exact Nat.le_refl _
    | some f => exact tillR_mono (fun st b st' h => Nat.le_of_succ_le (once_mono (ho f rfl) h)) 401 st b st' h
  | home => exact singleR_mono (k := .home) h
  | end_ => exact singleR_mono (k := .end_) h
  | _ => exact singleR_mono h
theorem doK_mono (tp : Nat → List Ky) : ∀ (d : Nat) (k : Ky) (st : PSt) (b : Bool) (st' : PSt), doK tp d k st = .fin b st' → st.things + 1 ≤ st'.things := by
  intro d
  induction d with
  | zero =>
    intro k st b st' h
    unfold doK at h
    cases ha : addT st with
    | none => rw [ha] at h; cases h
    | some s1 =>
      rw [ha] at h
      have := (addT_some ha).2.2.1
      have := playR_mono (fun f e => by cases e) h
      omega
  | succ d ih =>
    intro k st b st' h
    unfold doK at h
    cases ha : addT st with
    | none => rw [ha] at h; cases h
    | some s1 =>
      rw [ha] at h
      have := (addT_some ha).2.2.1
      have := playR_mono (fun f e k st b st' h => by cases e; exact Nat.le_of_succ_le (ih k st b st' h)) h
      omega
theorem onceK_mono (tp : Nat → List Ky) (d : Nat) {ks : List Ky} {st : PSt} {b : Bool} {st' : PSt} (h : once (doK tp d) ks st = .fin b st') : st.things + 1 ≤ st'.things :=
  once_mono (fun k st b st' h => Nat.le_of_succ_le (doK_mono tp d k st b st' h)) h
theorem keysR_cons (f : Ky → PSt → Res) (k : Ky) (ks : List Ky) (st : PSt) : keysR f (k :: ks) st = match f k st with | .fin true st' => keysR f ks st' | r => r := rfl
theorem timesR_succ (g : PSt → Res) (m : Nat) (st : PSt) : timesR g (m + 1) st = match g st with | .fin true st' => timesR g m st' | r => r := rfl
theorem tillR_succ (g : PSt → Res) (m : Nat) (st : PSt) : tillR g (m + 1) st = match g st with | .fin true st' => tillR g m st' | .fin false st' => .fin true st' | .long => .long := rfl
end KT
set_option linter.all false
namespace KT
/-! ### tapes of keys that play nothing, over the mirror -/
/-- single keys on a page, up to one that doesn't fit -/
def runS : List Ky → Pg → Bool × Pg
  | [], g => (true, g)
  | k :: ks, g => match g.does k with
    | none => (false, g)
    | some g' => runS ks g'
theorem runS_cons {k : Ky} {ks : List Ky} {g g' : Pg} (h : g.does k = some g') : runS (k :: ks) g = runS ks g' := by
  show (match g.does k with | none => (false, g) | some g' => runS ks g') = _
  rw [h]
theorem runS_stop {k : Ky} {ks : List Ky} {g : Pg} (h : g.does k = none) : runS (k :: ks) g = (false, g) := by
  show (match g.does k with | none => (false, g) | some g' => runS ks g') = _
  rw [h]
theorem runS_app {g g' : Pg} : ∀ {a : List Ky} (b : List Ky), runS a g = (true, g') → runS (a ++ b) g = runS b g'
  | [], b, h => by cases h; rfl
  | k :: ks, b, h => by
    cases e : g.does k with
    | none => rw [runS_stop e] at h; cases h
    | some g1 =>
      rw [runS_cons e] at h
      rw [List.cons_append, runS_cons e]
      exact runS_app b h
theorem doK_single {tp : Nat → List Ky} {d : Nat} {k : Ky} {st : PSt} (hk : k.single = true) : doK tp d k st = match addT st with
    | none => .long
    | some st' => singleR k st' := by
  rw [doK_eq]
  cases addT st with
  | none => rfl
  | some st' => cases k <;> first | rfl | cases hk
theorem addT_room {st : PSt} (h : st.things < 400) : addT st = some { st with things := st.things + 1 } := if_pos h
theorem keysR_run {tp : Nat → List Ky} {d : Nat} : ∀ (ks : List Ky) (st : PSt), (∀ k ∈ ks, k.single = true) → st.things + ks.length ≤ 400 →
    ∃ st', keysR (doK tp d) ks st = .fin (runS ks st.page).1 st' ∧ st'.page = (runS ks st.page).2 ∧ st'.things ≤ st.things + ks.length
  | [], st, _, _ => ⟨st, rfl, rfl, Nat.le_refl _⟩
  | k :: ks, st, hs, h => by
    rw [List.length_cons] at h
    rw [keysR_cons, doK_single (hs k (by simp)), addT_room (by omega)]
    show ∃ st', (match singleR k { st with things := st.things + 1 } with | .fin true st' => keysR (doK tp d) ks st' | r => r) = _ ∧ _
    unfold singleR
    cases e : st.page.does k with
    | none =>
      rw [runS_stop e]
      exact ⟨_, rfl, rfl, by simp only [List.length_cons]; omega⟩
    | some g =>
      rw [runS_cons e]
      obtain ⟨st', h1, h2, h3⟩ := keysR_run ks ⟨g, st.typed ++ [k], st.things + 1⟩ (fun x hx => hs x (by simp [hx])) (by show st.things + 1 + ks.length ≤ 400; omega)
      exact ⟨st', h1, h2, by simp only [List.length_cons]; have : st'.things ≤ st.things + 1 + ks.length := h3; omega⟩
theorem once_run {tp : Nat → List Ky} {d : Nat} {ks : List Ky} {st : PSt} (hs : ∀ k ∈ ks, k.single = true) (h : st.things + (ks.length + 1) ≤ 400) :
    ∃ st', once (doK tp d) ks st = .fin (runS ks st.page).1 st' ∧ st'.page = (runS ks st.page).2 ∧ st'.things ≤ st.things + (ks.length + 1) := by
  unfold once
  rw [addT_room (by omega)]
  obtain ⟨st', h1, h2, h3⟩ := keysR_run (tp := tp) (d := d) ks ⟨st.page, st.typed, st.things + 1⟩ hs (by show st.things + 1 + ks.length ≤ 400; omega)
  exact ⟨st', h1, h2, by have : st'.things ≤ st.things + 1 + ks.length := h3; omega⟩
theorem till_key {tp : Nat → List Ky} {n : Nat} {g : Pg} : doK tp 20 (.till n) ⟨g, [], 0⟩ = tillR (once (doK tp 19) (tp n)) 401 ⟨g, [], 1⟩ := by
  rw [doK_eq, addT_room (show 0 < 400 by decide)]
  rfl
/-! ### a row of a page told otherwise -/
def Pg.pg (g : Pg) (x : Ln) (c : Nat) (cl : Ln) : Pg := ⟨g.others g.row 1 [x], g.row, c, cl⟩
theorem pg_line {g : Pg} (h : g.row < g.rows.length) (x : Ln) (c : Nat) (cl : Ln) : (g.pg x c cl).line = x := by
  show (g.others g.row 1 [x]).getD (g.row + 0) [] = x
  rw [others_get g (by omega) (by simp)]
  rfl
theorem pg_len {g : Pg} (h : g.row < g.rows.length) (x : Ln) (c : Nat) (cl : Ln) : (g.pg x c cl).rows.length = g.rows.length := by
  show (g.others g.row 1 [x]).length = _
  rw [others_len g (by omega)]
  simp only [List.length_cons, List.length_nil]
  omega
theorem pg_others {g : Pg} (h : g.row < g.rows.length) (x : Ln) (c : Nat) (cl : Ln) (ls : List Ln) : (g.pg x c cl).others g.row 1 ls = g.others g.row 1 ls := by
  show (g.others g.row 1 [x]).take g.row ++ ls ++ (g.others g.row 1 [x]).drop (g.row + 1) = g.rows.take g.row ++ ls ++ g.rows.drop (g.row + 1)
  have ht : (g.rows.take g.row).length = g.row := by rw [List.length_take]; omega
  have h1 : (g.others g.row 1 [x]).take g.row = g.rows.take g.row := by
    unfold Pg.others
    rw [List.append_assoc, List.take_append_of_le_length (by omega), List.take_of_length_le (by omega)]
  have h2 : (g.others g.row 1 [x]).drop (g.row + 1) = g.rows.drop (g.row + 1) := by
    unfold Pg.others
    rw [List.drop_append, List.drop_of_length_le (by rw [List.length_append, ht]; simp), List.length_append, ht]
    simp
  rw [h1, h2]
theorem others_self {g : Pg} (h : g.row < g.rows.length) : g.others g.row 1 [g.line] = g.rows := by
  unfold Pg.others Pg.line
  rw [List.getD_eq_getElem?_getD, List.getElem?_eq_getElem h]
  show g.rows.take g.row ++ [g.rows[g.row]] ++ g.rows.drop (g.row + 1) = _
  rw [List.append_assoc, List.singleton_append, List.getElem_cons_drop, List.take_append_drop]
theorem home_at {g : Pg} (h : g.row < g.rows.length) : g.does .home = some (g.pg g.line 0 g.clip) := by
  show some (Pg.at_ g g.row 0) = _
  unfold Pg.pg
  rw [others_self h]; rfl
section
variable {g : Pg} {x cl : Ln} {c : Nat}
theorem home_pg (h : g.row < g.rows.length) : (g.pg x c cl).does .home = some (g.pg x 0 cl) := rfl
theorem end_pg (h : g.row < g.rows.length) : (g.pg x c cl).does .end_ = some (g.pg x x.length cl) := by
  show some ((g.pg x c cl).at_ g.row (g.pg x c cl).line.length) = _
  rw [pg_line h]; rfl
theorem write_pg (h : g.row < g.rows.length) {s : Ln} (hl : x.length + s.length ≤ 60) : (g.pg x c cl).write s = some (g.pg (x.take c ++ s ++ x.drop c) (c + s.length) cl) := by
  unfold Pg.write
  rw [pg_line h, if_neg (by omega)]
  show some (Pg.mk ((g.pg x c cl).others g.row 1 [_]) _ _ _) = _
  rw [pg_others h]; rfl
theorem put_pg (h : g.row < g.rows.length) {s : Ln} (hl : x.length + s.length ≤ 60) : (g.pg x c cl).does (.put s) = some (g.pg (x.take c ++ s ++ x.drop c) (c + s.length) cl) := write_pg h hl
theorem lay_pg (h : g.row < g.rows.length) (hc : cl ≠ []) (hl : x.length + cl.length ≤ 60) : (g.pg x c cl).does .lay = some (g.pg (x.take c ++ cl ++ x.drop c) (c + cl.length) cl) := by
  show (if cl = [] then none else (g.pg x c cl).write cl) = _
  rw [if_neg hc, write_pg h hl]
theorem right_pg (h : g.row < g.rows.length) (hc : c < x.length) : (g.pg x c cl).does .right = some (g.pg x (c + 1) cl) := by
  show (if c < (g.pg x c cl).line.length then _ else _) = _
  rw [pg_line h, if_pos hc]; rfl
theorem rub_pg (h : g.row < g.rows.length) (hc : 0 < c) : (g.pg x c cl).does .rub = some (g.pg (x.take (c - 1) ++ x.drop c) (c - 1) cl) := by
  show (if c = 0 then _ else some (Pg.mk ((g.pg x c cl).others g.row 1 [(g.pg x c cl).line.take (c - 1) ++ (g.pg x c cl).line.drop c]) _ _ _)) = _
  rw [pg_line h, if_neg (by omega), pg_others h]; rfl
theorem take_pg (h : g.row < g.rows.length) {m : Nat} (hm : lets (x.drop c) = m) (h0 : m ≠ 0) : (g.pg x c cl).does .take = some (g.pg (x.take c ++ x.drop (c + m)) c ((x.drop c).take m)) := by
  show (if lets ((g.pg x c cl).line.drop c) = 0 then none else some (Pg.mk ((g.pg x c cl).others g.row 1 [(g.pg x c cl).line.take c ++ (g.pg x c cl).line.drop (c + lets ((g.pg x c cl).line.drop c))]) _ _ (((g.pg x c cl).line.drop c).take (lets ((g.pg x c cl).line.drop c))))) = _
  rw [pg_line h, hm, if_neg h0, pg_others h]; rfl
end
/-! ### a tape that turns a row, and goes to the next -/
theorem down_none {g : Pg} (h : g.row + 1 = g.rows.length) : g.does .down = none := by
  show (if (g.row : Int) + 1 < 0 ∨ (g.rows.length : Int) ≤ (g.row : Int) + 1 then _ else _) = _
  rw [if_pos (by omega)]
theorem down_some {g : Pg} (h : g.row + 1 < g.rows.length) : ∃ c, g.does .down = some (g.at_ (g.row + 1) c) := by
  refine ⟨min g.col (g.rows.getD (g.row + 1) []).length, ?_⟩
  show (if (g.row : Int) + 1 < 0 ∨ (g.rows.length : Int) ≤ (g.row : Int) + 1 then none else some (g.at_ ((g.row : Int) + 1).toNat (min g.col (g.rows.getD ((g.row : Int) + 1).toNat []).length))) = some (g.at_ (g.row + 1) (min g.col (g.rows.getD (g.row + 1) []).length))
  rw [if_neg (by omega), show ((g.row : Int) + 1).toNat = g.row + 1 by omega]
theorem till_rows {tp : Nat → List Ky} {d : Nat} {body : List Ky} {f : Ln → Ln} {p : Ln → Prop} (hsb : ∀ k ∈ body, k.single = true)
    (hb : ∀ g : Pg, g.row < g.rows.length → p g.line → ∃ c cl, runS body g = (true, g.pg (f g.line) c cl)) :
    ∀ (rest pre : List Ln) (st : PSt) (N : Nat), rest ≠ [] → st.page.rows = pre ++ rest → st.page.row = pre.length → (∀ l ∈ rest, p l) → rest.length ≤ N →
      st.things + rest.length * (body.length + 2) ≤ 400 → ∃ st', tillR (once (doK tp d) (body ++ [.down])) N st = .fin true st' ∧ st'.page.rows = pre ++ rest.map f
  | [], _, _, _, h, _, _, _, _, _ => absurd rfl h
  | l :: rest, pre, st, 0, _, _, _, _, h, _ => by simp at h
  | l :: rest, pre, st, N + 1, _, hr, hrow, hp, hN, ht => by
    have hlt : st.page.row < st.page.rows.length := by rw [hr, hrow]; simp
    have hline : st.page.line = l := by
      unfold Pg.line
      rw [hr, hrow, List.getD_eq_getElem?_getD, List.getElem?_append_right (Nat.le_refl _)]; simp
    have hlen : (body ++ [Ky.down]).length = body.length + 1 := by simp
    have hsing : ∀ k ∈ body ++ [Ky.down], k.single = true := fun k hk => by
      rcases List.mem_append.mp hk with z | z
      · exact hsb k z
      · rw [List.mem_singleton.mp z]; rfl
    rw [List.length_cons, Nat.succ_mul] at ht
    obtain ⟨st', h1, h2, h3⟩ := once_run (tp := tp) (d := d) hsing (st := st) (by rw [hlen]; omega)
    obtain ⟨c, cl, e⟩ := hb st.page hlt (by rw [hline]; exact hp l (by simp))
    rw [runS_app _ e] at h1 h2
    have ho : (st.page.pg (f st.page.line) c cl).rows = pre ++ f l :: rest := by
      show st.page.others st.page.row 1 [f st.page.line] = _
      unfold Pg.others
      rw [hline, hr, hrow]
      simp
    rw [tillR_succ, h1]
    cases rest with
    | nil =>
      have hd : (st.page.pg (f st.page.line) c cl).does .down = none := down_none (by rw [ho]; show st.page.row + 1 = _; rw [hrow]; simp)
      rw [runS_stop hd] at h2 ⊢
      exact ⟨st', rfl, by rw [h2, ho]; rfl⟩
    | cons l2 r2 =>
      obtain ⟨c2, hd⟩ := down_some (g := st.page.pg (f st.page.line) c cl) (by rw [ho]; show st.page.row + 1 < _; rw [hrow]; simp)
      rw [runS_cons hd] at h2 ⊢
      obtain ⟨st2, q1, q2⟩ := till_rows (tp := tp) (d := d) hsb hb (l2 :: r2) (pre ++ [f l]) st' N (by simp) (by rw [h2]; show (st.page.pg (f st.page.line) c cl).rows = _; rw [ho]; simp) (by rw [h2]; show st.page.row + 1 = _; rw [hrow]; simp) (fun x hx => hp x (List.mem_cons_of_mem _ hx)) (by simp only [List.length_cons] at hN ⊢; omega) (by rw [hlen] at h3; omega)
      exact ⟨st2, q1, by rw [q2]; simp⟩
/-! ### the three tapes -/
def headT (s : Nat) : List Ky := [.home, .put [s]]
theorem headT_run {s : Nat} (g : Pg) (h : g.row < g.rows.length) (hl : g.line.length ≤ 13) : ∃ c cl, runS (headT s) g = (true, g.pg (s :: g.line) c cl) := by
  refine ⟨1, g.clip, ?_⟩
  unfold headT
  rw [runS_cons (home_at h), runS_cons (put_pg h (by simp only [List.length_cons, List.length_nil]; omega))]
  rfl
def turnT : List Ky := [.home, .take, .put [33], .end_, .put [32], .lay, .home, .right, .right, .rub, .rub]
def turnL (l : Ln) : Ln := l.drop (lets l + 1) ++ 32 :: l.take (lets l)
theorem lets_word {w v : Ln} (hw : ∀ c ∈ w, isLet c = true) : lets (w ++ 32 :: v) = w.length := by
  unfold lets
  rw [List.takeWhile_append_of_pos hw]
  simp [isLet]
theorem turnL_words {w v : Ln} (hw : ∀ c ∈ w, isLet c = true) : turnL (w ++ 32 :: v) = v ++ 32 :: w := by
  unfold turnL
  rw [lets_word hw]
  simp
theorem turnT_run (g : Pg) (h : g.row < g.rows.length) (hl : ∃ w v, g.line = w ++ 32 :: v ∧ w ≠ [] ∧ (∀ c ∈ w, isLet c = true) ∧ w.length ≤ 6 ∧ v.length ≤ 6) :
    ∃ c cl, runS turnT g = (true, g.pg (turnL g.line) c cl) := by
  obtain ⟨w, v, e, hw0, hw, h6, h6'⟩ := hl
  refine ⟨0, w, ?_⟩
  have hwl : w.length ≠ 0 := fun z => hw0 (List.length_eq_zero_iff.mp z)
  rw [e, turnL_words hw]
  unfold turnT
  rw [runS_cons (home_at h), e]
  rw [runS_cons (take_pg h (m := w.length) (by rw [List.drop_zero]; exact lets_word hw) hwl)]
  have e1 : (w ++ 32 :: v).take 0 ++ (w ++ 32 :: v).drop (0 + w.length) = 32 :: v := by simp
  have e2 : ((w ++ 32 :: v).drop 0).take w.length = w := by simp
  rw [e1, e2]
  rw [runS_cons (put_pg (s := [33]) h (by simp only [List.length_cons, List.length_nil]; omega))]
  show runS _ (g.pg (33 :: 32 :: v) 1 w) = _
  rw [runS_cons (end_pg h)]
  rw [runS_cons (put_pg (s := [32]) h (by simp only [List.length_cons, List.length_nil]; omega))]
  have e3 : (33 :: 32 :: v).take (33 :: 32 :: v).length ++ [32] ++ (33 :: 32 :: v).drop (33 :: 32 :: v).length = 33 :: 32 :: (v ++ [32]) := by simp
  rw [e3]
  rw [runS_cons (lay_pg h hw0 (by simp only [List.length_cons, List.length_append, List.length_nil]; omega))]
  have e4 : (33 :: 32 :: (v ++ [32])).take ((33 :: 32 :: v).length + [32].length) ++ w ++ (33 :: 32 :: (v ++ [32])).drop ((33 :: 32 :: v).length + [32].length) = 33 :: 32 :: (v ++ 32 :: w) := by
    rw [List.take_of_length_le (by simp), List.drop_of_length_le (by simp)]; simp
  rw [e4]
  rw [runS_cons (home_pg h), runS_cons (right_pg h (by simp)), runS_cons (right_pg h (by simp)), runS_cons (rub_pg h (by decide))]
  show runS _ (g.pg (33 :: (v ++ 32 :: w)) 1 w) = _
  rw [runS_cons (rub_pg h (by decide))]
  rfl
def joinT : List Ky := [.end_, .down, .home, .rub]
theorem till_join {tp : Nat → List Ky} {d : Nat} : ∀ (rest : List Ln) (a : Ln) (st : PSt) (N : Nat), st.page.rows = a :: rest → st.page.row = 0 → rest.length < N → (a ++ rest.flatten).length ≤ 60 →
      st.things + (rest.length + 1) * 5 ≤ 400 → ∃ st', tillR (once (doK tp d) joinT) N st = .fin true st' ∧ st'.page.rows = [a ++ rest.flatten]
  | rest, a, st, 0, _, _, h, _, _ => by omega
  | [], a, st, N + 1, hr, hrow, _, _, ht => by
    have hlt : st.page.row < st.page.rows.length := by rw [hr, hrow]; simp
    obtain ⟨st', h1, h2, h3⟩ := once_run (tp := tp) (d := d) (ks := joinT) (by decide) (st := st) (by simp only [joinT, List.length_cons, List.length_nil] at ht ⊢; omega)
    have he : st.page.does .end_ = some (st.page.at_ st.page.row st.page.line.length) := rfl
    have hd : (st.page.at_ st.page.row st.page.line.length).does .down = none := down_none (show st.page.row + 1 = st.page.rows.length by rw [hr, hrow]; simp)
    unfold joinT at h1 h2
    rw [runS_cons he, runS_stop hd] at h1 h2
    rw [tillR_succ]
    unfold joinT
    rw [h1]
    exact ⟨st', rfl, by rw [h2]; show st.page.rows = _; rw [hr]; simp⟩
  | b :: rest, a, st, N + 1, hr, hrow, hN, hl, ht => by
    obtain ⟨st', h1, h2, h3⟩ := once_run (tp := tp) (d := d) (ks := joinT) (by decide) (st := st) (by simp only [joinT, List.length_cons, List.length_nil] at ht ⊢; omega)
    have he : st.page.does .end_ = some (st.page.at_ st.page.row st.page.line.length) := rfl
    obtain ⟨c2, hd⟩ := down_some (g := st.page.at_ st.page.row st.page.line.length) (show st.page.row + 1 < st.page.rows.length by rw [hr, hrow]; simp)
    have hh : ((st.page.at_ st.page.row st.page.line.length).at_ ((st.page.at_ st.page.row st.page.line.length).row + 1) c2).does .home = some (st.page.at_ 1 0) := by
      show some (st.page.at_ (st.page.row + 1) 0) = _
      rw [hrow]
    have hab : (a ++ b).length ≤ 60 := by
      simp only [List.flatten_cons, List.length_append] at hl ⊢; omega
    have hrb : (st.page.at_ 1 0).does .rub = some ⟨(a ++ b) :: rest, 0, a.length, st.page.clip⟩ := by
      have hln : (st.page.at_ 1 0).line = b := by unfold Pg.line; show st.page.rows.getD 1 [] = b; rw [hr]; rfl
      have hla : st.page.rows.getD 0 [] = a := by rw [hr]; rfl
      show Pg.join (st.page.at_ 1 0) = _
      unfold Pg.join
      rw [hln]
      show (if (1 : Nat) = 0 then none else if 60 < (st.page.rows.getD 0 [] ++ b).length then none else some (Pg.mk ((st.page.at_ 1 0).others 0 2 [st.page.rows.getD 0 [] ++ b]) 0 (st.page.rows.getD 0 []).length st.page.clip)) = _
      rw [hla, if_neg (by decide), if_neg (by omega)]
      unfold Pg.others
      show some (Pg.mk (st.page.rows.take 0 ++ [a ++ b] ++ st.page.rows.drop 2) _ _ _) = _
      rw [hr]; rfl
    unfold joinT at h1 h2
    rw [runS_cons he, runS_cons hd, runS_cons hh, runS_cons hrb] at h1 h2
    rw [tillR_succ]
    have h1' : once (doK tp d) joinT st = .fin true st' := h1
    rw [h1']
    have h3' : st'.things ≤ st.things + 5 := h3
    obtain ⟨st2, q1, q2⟩ := till_join (tp := tp) (d := d) rest (a ++ b) st' N (by rw [h2]; rfl) (by rw [h2]; rfl) (by simp only [List.length_cons] at hN; omega) (by simpa using hl) (by simp only [List.length_cons] at ht; omega)
    exact ⟨st2, q1, by rw [q2]; simp⟩
end KT
set_option Elab.async false
set_option linter.all false
set_option maxRecDepth 100000
set_option maxHeartbeats 0
namespace KT
open PySem PySem.Spec PyProof.Rows L2
def top (i : Nat) : Stmt := PySem.Challenge.pw_keytape_k11_known_tapes.main.body.getD i (.Pass ⟨0, 0, 0, 0⟩)
abbrev s_Page___init__ : Stmt := inClass (top 11) 0
abbrev s_are_signs : Stmt := top 12
abbrev s_first_page : Stmt := top 13
abbrev s_line_at : Stmt := top 14
abbrev s_moved : Stmt := top 15
abbrev s_with_lines : Stmt := top 16
abbrev s_write : Stmt := top 18
abbrev s_break_row : Stmt := top 19
abbrev s_join_row : Stmt := top 20
abbrev s_rub : Stmt := top 21
abbrev s_go_left : Stmt := top 22
abbrev s_go_right : Stmt := top 23
abbrev s_go_to_row : Stmt := top 24
abbrev s_go_up : Stmt := top 25
abbrev s_go_down : Stmt := top 26
abbrev s_go_home : Stmt := top 27
abbrev s_go_end : Stmt := top 28
abbrev s_find_word : Stmt := top 29
abbrev s_take : Stmt := top 30
abbrev s_lay : Stmt := top 31
abbrev s_page_behind : Stmt := top 33
abbrev s_is_word : Stmt := top 39
abbrev s_is_number : Stmt := top 40
abbrev s_is_key : Stmt := top 41
abbrev s_check_key : Stmt := top 42
abbrev s_check_name : Stmt := top 43
abbrev s_check_keys : Stmt := top 44
abbrev s_check_each : Stmt := top 45
abbrev s_Player___init__ : Stmt := inClass (top 49) 0
abbrev s_Player_do : Stmt := inClass (top 49) 1
abbrev s_Player_play : Stmt := inClass (top 49) 2
abbrev s_Player_play_till : Stmt := inClass (top 49) 3
abbrev s_Player_play_once : Stmt := inClass (top 49) 4
abbrev s_Player_add_thing : Stmt := inClass (top 49) 5
abbrev s_Editor___init__ : Stmt := inClass (top 51) 0
abbrev s_Editor_text : Stmt := inClass (top 51) 1
abbrev s_Editor_place : Stmt := inClass (top 51) 2
abbrev s_Editor_clip : Stmt := inClass (top 51) 3
abbrev s_Editor_press : Stmt := inClass (top 51) 4
abbrev s_Editor_hand : Stmt := inClass (top 51) 5
abbrev s_Editor_tape : Stmt := inClass (top 51) 6
abbrev s_Editor_tape_of : Stmt := inClass (top 51) 7
abbrev s_Editor_record : Stmt := inClass (top 51) 8
abbrev s_Editor_stop : Stmt := inClass (top 51) 9
abbrev s_Editor_back : Stmt := inClass (top 51) 10
abbrev s_Editor_forth : Stmt := inClass (top 51) 11
abbrev s_Editor_go_to : Stmt := inClass (top 51) 12
abbrev s__law_mix : Stmt := top 53
abbrev s__law_next : Stmt := top 54
abbrev s__law_alike : Stmt := top 55
abbrev s__law_words : Stmt := top 56
abbrev s_law : Stmt := top 57
def d_Page___init__ : He.DefD := ⟨("Page", some "__init__"), "__init__", "Page.__init__", defArgs s_Page___init__, defBody s_Page___init__, defScope s_Page___init__, [], []⟩
def d_are_signs : He.DefD := ⟨("are_signs", none), "are_signs", "are_signs", defArgs s_are_signs, defBody s_are_signs, defScope s_are_signs, [], []⟩
def d_first_page : He.DefD := ⟨("first_page", none), "first_page", "first_page", defArgs s_first_page, defBody s_first_page, defScope s_first_page, [], []⟩
def d_line_at : He.DefD := ⟨("line_at", none), "line_at", "line_at", defArgs s_line_at, defBody s_line_at, defScope s_line_at, [], []⟩
def d_moved : He.DefD := ⟨("moved", none), "moved", "moved", defArgs s_moved, defBody s_moved, defScope s_moved, [], []⟩
def d_with_lines : He.DefD := ⟨("with_lines", none), "with_lines", "with_lines", defArgs s_with_lines, defBody s_with_lines, defScope s_with_lines, [], []⟩
def d_write : He.DefD := ⟨("write", none), "write", "write", defArgs s_write, defBody s_write, defScope s_write, [], []⟩
def d_break_row : He.DefD := ⟨("break_row", none), "break_row", "break_row", defArgs s_break_row, defBody s_break_row, defScope s_break_row, [], []⟩
def d_join_row : He.DefD := ⟨("join_row", none), "join_row", "join_row", defArgs s_join_row, defBody s_join_row, defScope s_join_row, [], []⟩
def d_rub : He.DefD := ⟨("rub", none), "rub", "rub", defArgs s_rub, defBody s_rub, defScope s_rub, [], []⟩
def d_go_left : He.DefD := ⟨("go_left", none), "go_left", "go_left", defArgs s_go_left, defBody s_go_left, defScope s_go_left, [], []⟩
def d_go_right : He.DefD := ⟨("go_right", none), "go_right", "go_right", defArgs s_go_right, defBody s_go_right, defScope s_go_right, [], []⟩
def d_go_to_row : He.DefD := ⟨("go_to_row", none), "go_to_row", "go_to_row", defArgs s_go_to_row, defBody s_go_to_row, defScope s_go_to_row, [], []⟩
def d_go_up : He.DefD := ⟨("go_up", none), "go_up", "go_up", defArgs s_go_up, defBody s_go_up, defScope s_go_up, [], []⟩
def d_go_down : He.DefD := ⟨("go_down", none), "go_down", "go_down", defArgs s_go_down, defBody s_go_down, defScope s_go_down, [], []⟩
def d_go_home : He.DefD := ⟨("go_home", none), "go_home", "go_home", defArgs s_go_home, defBody s_go_home, defScope s_go_home, [], []⟩
def d_go_end : He.DefD := ⟨("go_end", none), "go_end", "go_end", defArgs s_go_end, defBody s_go_end, defScope s_go_end, [], []⟩
def d_find_word : He.DefD := ⟨("find_word", none), "find_word", "find_word", defArgs s_find_word, defBody s_find_word, defScope s_find_word, [], []⟩
def d_take : He.DefD := ⟨("take", none), "take", "take", defArgs s_take, defBody s_take, defScope s_take, [], []⟩
def d_lay : He.DefD := ⟨("lay", none), "lay", "lay", defArgs s_lay, defBody s_lay, defScope s_lay, [], []⟩
def d_page_behind : He.DefD := ⟨("page_behind", none), "page_behind", "page_behind", defArgs s_page_behind, defBody s_page_behind, defScope s_page_behind, [], []⟩
def d_is_word : He.DefD := ⟨("is_word", none), "is_word", "is_word", defArgs s_is_word, defBody s_is_word, defScope s_is_word, [], []⟩
def d_is_number : He.DefD := ⟨("is_number", none), "is_number", "is_number", defArgs s_is_number, defBody s_is_number, defScope s_is_number, [], []⟩
def d_is_key : He.DefD := ⟨("is_key", none), "is_key", "is_key", defArgs s_is_key, defBody s_is_key, defScope s_is_key, [], []⟩
def d_check_key : He.DefD := ⟨("check_key", none), "check_key", "check_key", defArgs s_check_key, defBody s_check_key, defScope s_check_key, [], []⟩
def d_check_name : He.DefD := ⟨("check_name", none), "check_name", "check_name", defArgs s_check_name, defBody s_check_name, defScope s_check_name, [], []⟩
def d_check_keys : He.DefD := ⟨("check_keys", none), "check_keys", "check_keys", defArgs s_check_keys, defBody s_check_keys, defScope s_check_keys, [], []⟩
def d_check_each : He.DefD := ⟨("check_each", none), "check_each", "check_each", defArgs s_check_each, defBody s_check_each, defScope s_check_each, [], []⟩
def d_Player___init__ : He.DefD := ⟨("Player", some "__init__"), "__init__", "Player.__init__", defArgs s_Player___init__, defBody s_Player___init__, defScope s_Player___init__, [], []⟩
def d_Player_do : He.DefD := ⟨("Player", some "do"), "do", "Player.do", defArgs s_Player_do, defBody s_Player_do, defScope s_Player_do, [], []⟩
def d_Player_play : He.DefD := ⟨("Player", some "play"), "play", "Player.play", defArgs s_Player_play, defBody s_Player_play, defScope s_Player_play, [], []⟩
def d_Player_play_till : He.DefD := ⟨("Player", some "play_till"), "play_till", "Player.play_till", defArgs s_Player_play_till, defBody s_Player_play_till, defScope s_Player_play_till, [], []⟩
def d_Player_play_once : He.DefD := ⟨("Player", some "play_once"), "play_once", "Player.play_once", defArgs s_Player_play_once, defBody s_Player_play_once, defScope s_Player_play_once, [], []⟩
def d_Player_add_thing : He.DefD := ⟨("Player", some "add_thing"), "add_thing", "Player.add_thing", defArgs s_Player_add_thing, defBody s_Player_add_thing, defScope s_Player_add_thing, [], []⟩
def d_Editor___init__ : He.DefD := ⟨("Editor", some "__init__"), "__init__", "Editor.__init__", defArgs s_Editor___init__, defBody s_Editor___init__, defScope s_Editor___init__, [], []⟩
def d_Editor_text : He.DefD := ⟨("Editor", some "text"), "text", "Editor.text", defArgs s_Editor_text, defBody s_Editor_text, defScope s_Editor_text, [], []⟩
def d_Editor_place : He.DefD := ⟨("Editor", some "place"), "place", "Editor.place", defArgs s_Editor_place, defBody s_Editor_place, defScope s_Editor_place, [], []⟩
def d_Editor_clip : He.DefD := ⟨("Editor", some "clip"), "clip", "Editor.clip", defArgs s_Editor_clip, defBody s_Editor_clip, defScope s_Editor_clip, [], []⟩
def d_Editor_press : He.DefD := ⟨("Editor", some "press"), "press", "Editor.press", defArgs s_Editor_press, defBody s_Editor_press, defScope s_Editor_press, [], []⟩
def d_Editor_hand : He.DefD := ⟨("Editor", some "hand"), "hand", "Editor.hand", defArgs s_Editor_hand, defBody s_Editor_hand, defScope s_Editor_hand, [], []⟩
def d_Editor_tape : He.DefD := ⟨("Editor", some "tape"), "tape", "Editor.tape", defArgs s_Editor_tape, defBody s_Editor_tape, defScope s_Editor_tape, [], []⟩
def d_Editor_tape_of : He.DefD := ⟨("Editor", some "tape_of"), "tape_of", "Editor.tape_of", defArgs s_Editor_tape_of, defBody s_Editor_tape_of, defScope s_Editor_tape_of, [], []⟩
def d_Editor_record : He.DefD := ⟨("Editor", some "record"), "record", "Editor.record", defArgs s_Editor_record, defBody s_Editor_record, defScope s_Editor_record, [], []⟩
def d_Editor_stop : He.DefD := ⟨("Editor", some "stop"), "stop", "Editor.stop", defArgs s_Editor_stop, defBody s_Editor_stop, defScope s_Editor_stop, [], []⟩
def d_Editor_back : He.DefD := ⟨("Editor", some "back"), "back", "Editor.back", defArgs s_Editor_back, defBody s_Editor_back, defScope s_Editor_back, [], []⟩
def d_Editor_forth : He.DefD := ⟨("Editor", some "forth"), "forth", "Editor.forth", defArgs s_Editor_forth, defBody s_Editor_forth, defScope s_Editor_forth, [], []⟩
def d_Editor_go_to : He.DefD := ⟨("Editor", some "go_to"), "go_to", "Editor.go_to", defArgs s_Editor_go_to, defBody s_Editor_go_to, defScope s_Editor_go_to, [], []⟩
def d__law_mix : He.DefD := ⟨("_law_mix", none), "_law_mix", "_law_mix", defArgs s__law_mix, defBody s__law_mix, defScope s__law_mix, [], []⟩
def d__law_next : He.DefD := ⟨("_law_next", none), "_law_next", "_law_next", defArgs s__law_next, defBody s__law_next, defScope s__law_next, [], []⟩
def d__law_alike : He.DefD := ⟨("_law_alike", none), "_law_alike", "_law_alike", defArgs s__law_alike, defBody s__law_alike, defScope s__law_alike, [], []⟩
def d__law_words : He.DefD := ⟨("_law_words", none), "_law_words", "_law_words", defArgs s__law_words, defBody s__law_words, defScope s__law_words, [], []⟩
def d_law : He.DefD := ⟨("law", none), "law", "law", defArgs s_law, defBody s_law, defScope s_law, [], []⟩
def fn : List He.DefD := [d_Page___init__, d_are_signs, d_first_page, d_line_at, d_moved, d_with_lines, d_write, d_break_row, d_join_row, d_rub, d_go_left, d_go_right, d_go_to_row, d_go_up, d_go_down, d_go_home, d_go_end, d_find_word, d_take, d_lay, d_page_behind, d_is_word, d_is_number, d_is_key, d_check_key, d_check_name, d_check_keys, d_check_each, d_Player___init__, d_Player_do, d_Player_play, d_Player_play_till, d_Player_play_once, d_Player_add_thing, d_Editor___init__, d_Editor_text, d_Editor_place, d_Editor_clip, d_Editor_press, d_Editor_hand, d_Editor_tape, d_Editor_tape_of, d_Editor_record, d_Editor_stop, d_Editor_back, d_Editor_forth, d_Editor_go_to, d__law_mix, d__law_next, d__law_alike, d__law_words, d_law]
def fa : List He.Fa := [.glo "TapeError", .glo "BadText", .glo "BadKey", .glo "BadKeys", .glo "BadName", .glo "TooLong", .glo "Page", .glo "are_signs", .glo "first_page", .glo "line_at", .glo "moved", .glo "with_lines", .glo "write", .glo "break_row", .glo "join_row", .glo "rub", .glo "go_left", .glo "go_right", .glo "go_to_row", .glo "go_up", .glo "go_down", .glo "go_home", .glo "go_end", .glo "find_word", .glo "take", .glo "lay", .glo "page_behind", .glo "is_word", .glo "is_number", .glo "is_key", .glo "check_key", .glo "check_name", .glo "check_keys", .glo "check_each", .glo "Player", .glo "Editor", .glo "_law_mix", .glo "_law_next", .glo "_law_alike", .glo "_law_words", .glo "law", .glo "ACTIONS", .glo "NAMES", .free "all", .free "bool", .free "enumerate", .free "int", .free "isinstance", .free "len", .free "list", .free "max", .free "min", .free "range", .free "str", .free "super", .free "tuple", .int "MOST_ROWS" 12, .int "MOST_SIGNS" 60, .int "MOST_KEYS" 30, .int "MOST_TIMES" 9, .int "LONGEST_WORD" 4, .int "MOST_THINGS" 400, .int "MOST_AROUND" 20, .exc "BadText", .exc "BadKey", .exc "BadName", .exc "TooLong", .cls "Page", .mkr "Page", .noat "Page" "rows", .noat "Page" "row", .noat "Page" "column", .noat "Page" "clipped", .cls "Player", .mkr "Player", .noat "Player" "page", .noat "Player" "tapes", .noat "Player" "typed", .noat "Player" "things", .meth "Player" "do", .meth "Player" "play", .meth "Player" "play_till", .meth "Player" "play_once", .meth "Player" "add_thing", .cls "Editor", .mkr "Editor", .noat "Editor" "page", .noat "Editor" "tapes", .noat "Editor" "recorded", .noat "Editor" "pressed", .noat "Editor" "units", .noat "Editor" "undone", .meth "Editor" "text", .meth "Editor" "place", .meth "Editor" "clip", .meth "Editor" "press", .meth "Editor" "hand", .meth "Editor" "tape", .meth "Editor" "tape_of", .meth "Editor" "record", .meth "Editor" "stop", .meth "Editor" "back", .meth "Editor" "forth", .meth "Editor" "go_to"]
def ts : List He.Tab := [((fun K => He.ga K "ACTIONS"), ["break", "rub", "left", "right", "up", "down", "home", "end", "take", "lay"])]
def acts : List (Str × He.Dv) := [("break", .glo "break_row"), ("rub", .glo "rub"), ("left", .glo "go_left"), ("right", .glo "go_right"), ("up", .glo "go_up"), ("down", .glo "go_down"), ("home", .glo "go_home"), ("end", .glo "go_end"), ("take", .glo "take"), ("lay", .glo "lay")]
def ex (K : PySem.W.Frag) : Bool := He.tupB K "NAMES" [.str "a", .str "b", .str "c", .str "d", .str "e", .str "f", .str "g", .str "h"] && He.valsB K (He.ga K "ACTIONS") acts
def tf : List He.Defn := [("are_signs", none)]
abbrev R : PySem.W.OpenRow := PySem.W.OpenLaw.row PySem.Challenge.rw_keytape_k11_known_tapes
abbrev hk : PySem.W.Hook := He.hookX 4 fa fn ts tf ex
def ob (s : PySem.W.SharedT) : He.AlX := He.obsX 4 fa fn ts tf ex (HandSHeadRun.getT s)
theorem ob_eq (s : PySem.W.SharedT) : ob s = hk.obs s.abs := He.obsX_eq (HandSHeadRun.getT_eq s)
def lo0 : List Str := ["_wall", "__name__", "TapeError", "BadText", "BadKey", "BadKeys", "BadName", "TooLong", "MOST_ROWS", "MOST_SIGNS", "Page", "are_signs", "first_page", "line_at", "moved", "with_lines", "write", "break_row", "join_row", "rub", "go_left", "go_right", "go_to_row", "go_up", "go_down", "go_home", "go_end", "find_word", "take", "lay"]
def lo1 : List Str := ["ACTIONS", "page_behind", "NAMES", "MOST_KEYS", "MOST_TIMES", "LONGEST_WORD", "is_word", "is_number", "is_key", "check_key", "check_name", "check_keys", "check_each", "MOST_THINGS", "MOST_AROUND", "Player", "Editor", "_law_mix", "_law_next", "_law_alike", "_law_words"]
def loose : List Str := lo0 ++ lo1
structure Tx (w : World) (K : PySem.W.Frag) (mg : Str → Option Value) : Prop where
  ex : ∃ h : Heap, K.In h ∧ h.Ns mainGlobals mg ∧ He.SaysX fa fn ts tf ex w h K
abbrev Ad (K : PySem.W.Frag) (p : Str × Option Str) : Addr := He.fAd K p
def fdOf (K : PySem.W.Frag) (a : Addr) : FuncData := match K.lookup a with
  | some ⟨_, _, .func fd, _⟩ => fd
  | _ => PySem.W.fnOf "" "" ⟨[], [], none, [], [], none, []⟩ [] ⟨.function, [], false, false, []⟩ .none .none .none .none none .none .none
section
variable {w : World} {K : PySem.W.Frag} {mg : Str → Option Value}
abbrev FnT (K : PySem.W.Frag) (d : He.DefD) : Prop := FunD K d.name d.qual d.params d.body d.scope (d.dvs K) (d.kws K) (Ad K d.at_) (fdOf K (Ad K d.at_))
theorem Tx.fn (T : Tx w K mg) (i : Nat) {d : He.DefD} (h : KT.fn[i]? = some d := by rfl) : FnT K d := by
  obtain ⟨_, _, _, c⟩ := T.ex
  obtain ⟨fd, F⟩ := c.t.d.def_ i (d := d) h
  have e : fdOf K (Ad K d.at_) = fd := by
    obtain ⟨oc, od, dV, kV, doc, pm, an, cdv, ct, osl, e, lk, _⟩ := F.ex
    unfold fdOf
    rw [lk]
  unfold FnT
  rw [e]
  exact F
theorem Tx.glo (T : Tx w K mg) (i : Nat) {x : Str} (h : KT.fa[i]? = some (.glo x) := by rfl) : mg x = some (.ref (He.ga K x)) := by
  obtain ⟨_, X, G, c⟩ := T.ex
  exact He.glo_ok X G (c.t.d.fact i h)
theorem Tx.free (T : Tx w K mg) (i : Nat) {x : Str} (h : KT.fa[i]? = some (.free x) := by rfl) : mg x = none := by
  obtain ⟨_, X, G, c⟩ := T.ex
  exact He.free_ok X G (c.t.d.fact i h)
theorem Tx.int (T : Tx w K mg) (i : Nat) {x : Str} {n : Int} (h : KT.fa[i]? = some (.int x n) := by rfl) : ∃ t, mg x = some (.int n t) := by
  obtain ⟨_, X, G, c⟩ := T.ex
  exact He.int_ok X G (c.t.d.fact i h)
theorem Tx.fact (T : Tx w K mg) (i : Nat) {f : He.Fa} (h : KT.fa[i]? = some f := by rfl) : f.ok K = true := by
  obtain ⟨_, _, _, c⟩ := T.ex
  exact c.t.d.fact i h
theorem Tx.f_Page___init__ (T : Tx w K mg) : FnT K d_Page___init__ := T.fn 0
theorem Tx.f_are_signs (T : Tx w K mg) : FnT K d_are_signs := T.fn 1
theorem Tx.f_first_page (T : Tx w K mg) : FnT K d_first_page := T.fn 2
theorem Tx.f_line_at (T : Tx w K mg) : FnT K d_line_at := T.fn 3
theorem Tx.f_moved (T : Tx w K mg) : FnT K d_moved := T.fn 4
theorem Tx.f_with_lines (T : Tx w K mg) : FnT K d_with_lines := T.fn 5
theorem Tx.f_write (T : Tx w K mg) : FnT K d_write := T.fn 6
theorem Tx.f_break_row (T : Tx w K mg) : FnT K d_break_row := T.fn 7
theorem Tx.f_join_row (T : Tx w K mg) : FnT K d_join_row := T.fn 8
theorem Tx.f_rub (T : Tx w K mg) : FnT K d_rub := T.fn 9
theorem Tx.f_go_left (T : Tx w K mg) : FnT K d_go_left := T.fn 10
theorem Tx.f_go_right (T : Tx w K mg) : FnT K d_go_right := T.fn 11
theorem Tx.f_go_to_row (T : Tx w K mg) : FnT K d_go_to_row := T.fn 12
theorem Tx.f_go_up (T : Tx w K mg) : FnT K d_go_up := T.fn 13
theorem Tx.f_go_down (T : Tx w K mg) : FnT K d_go_down := T.fn 14
theorem Tx.f_go_home (T : Tx w K mg) : FnT K d_go_home := T.fn 15
theorem Tx.f_go_end (T : Tx w K mg) : FnT K d_go_end := T.fn 16
theorem Tx.f_find_word (T : Tx w K mg) : FnT K d_find_word := T.fn 17
theorem Tx.f_take (T : Tx w K mg) : FnT K d_take := T.fn 18
theorem Tx.f_lay (T : Tx w K mg) : FnT K d_lay := T.fn 19
theorem Tx.f_page_behind (T : Tx w K mg) : FnT K d_page_behind := T.fn 20
theorem Tx.f_is_word (T : Tx w K mg) : FnT K d_is_word := T.fn 21
theorem Tx.f_is_number (T : Tx w K mg) : FnT K d_is_number := T.fn 22
theorem Tx.f_is_key (T : Tx w K mg) : FnT K d_is_key := T.fn 23
theorem Tx.f_check_key (T : Tx w K mg) : FnT K d_check_key := T.fn 24
theorem Tx.f_check_name (T : Tx w K mg) : FnT K d_check_name := T.fn 25
theorem Tx.f_check_keys (T : Tx w K mg) : FnT K d_check_keys := T.fn 26
theorem Tx.f_check_each (T : Tx w K mg) : FnT K d_check_each := T.fn 27
theorem Tx.f_Player___init__ (T : Tx w K mg) : FnT K d_Player___init__ := T.fn 28
theorem Tx.f_Player_do (T : Tx w K mg) : FnT K d_Player_do := T.fn 29
theorem Tx.f_Player_play (T : Tx w K mg) : FnT K d_Player_play := T.fn 30
theorem Tx.f_Player_play_till (T : Tx w K mg) : FnT K d_Player_play_till := T.fn 31
theorem Tx.f_Player_play_once (T : Tx w K mg) : FnT K d_Player_play_once := T.fn 32
theorem Tx.f_Player_add_thing (T : Tx w K mg) : FnT K d_Player_add_thing := T.fn 33
theorem Tx.f_Editor___init__ (T : Tx w K mg) : FnT K d_Editor___init__ := T.fn 34
theorem Tx.f_Editor_text (T : Tx w K mg) : FnT K d_Editor_text := T.fn 35
theorem Tx.f_Editor_place (T : Tx w K mg) : FnT K d_Editor_place := T.fn 36
theorem Tx.f_Editor_clip (T : Tx w K mg) : FnT K d_Editor_clip := T.fn 37
theorem Tx.f_Editor_press (T : Tx w K mg) : FnT K d_Editor_press := T.fn 38
theorem Tx.f_Editor_hand (T : Tx w K mg) : FnT K d_Editor_hand := T.fn 39
theorem Tx.f_Editor_tape (T : Tx w K mg) : FnT K d_Editor_tape := T.fn 40
theorem Tx.f_Editor_tape_of (T : Tx w K mg) : FnT K d_Editor_tape_of := T.fn 41
theorem Tx.f_Editor_record (T : Tx w K mg) : FnT K d_Editor_record := T.fn 42
theorem Tx.f_Editor_stop (T : Tx w K mg) : FnT K d_Editor_stop := T.fn 43
theorem Tx.f_Editor_back (T : Tx w K mg) : FnT K d_Editor_back := T.fn 44
theorem Tx.f_Editor_forth (T : Tx w K mg) : FnT K d_Editor_forth := T.fn 45
theorem Tx.f_Editor_go_to (T : Tx w K mg) : FnT K d_Editor_go_to := T.fn 46
theorem Tx.f__law_mix (T : Tx w K mg) : FnT K d__law_mix := T.fn 47
theorem Tx.f__law_next (T : Tx w K mg) : FnT K d__law_next := T.fn 48
theorem Tx.f__law_alike (T : Tx w K mg) : FnT K d__law_alike := T.fn 49
theorem Tx.f__law_words (T : Tx w K mg) : FnT K d__law_words := T.fn 50
theorem Tx.f_law (T : Tx w K mg) : FnT K d_law := T.fn 51
theorem Tx.g_TapeError (T : Tx w K mg) : mg "TapeError" = some (.ref (He.ga K "TapeError")) := T.glo 0
theorem Tx.g_BadText (T : Tx w K mg) : mg "BadText" = some (.ref (He.ga K "BadText")) := T.glo 1
theorem Tx.g_BadKey (T : Tx w K mg) : mg "BadKey" = some (.ref (He.ga K "BadKey")) := T.glo 2
theorem Tx.g_BadKeys (T : Tx w K mg) : mg "BadKeys" = some (.ref (He.ga K "BadKeys")) := T.glo 3
theorem Tx.g_BadName (T : Tx w K mg) : mg "BadName" = some (.ref (He.ga K "BadName")) := T.glo 4
theorem Tx.g_TooLong (T : Tx w K mg) : mg "TooLong" = some (.ref (He.ga K "TooLong")) := T.glo 5
theorem Tx.g_Page (T : Tx w K mg) : mg "Page" = some (.ref (He.ga K "Page")) := T.glo 6
theorem Tx.g_are_signs (T : Tx w K mg) : mg "are_signs" = some (.ref (He.ga K "are_signs")) := T.glo 7
theorem Tx.g_first_page (T : Tx w K mg) : mg "first_page" = some (.ref (He.ga K "first_page")) := T.glo 8
theorem Tx.g_line_at (T : Tx w K mg) : mg "line_at" = some (.ref (He.ga K "line_at")) := T.glo 9
theorem Tx.g_moved (T : Tx w K mg) : mg "moved" = some (.ref (He.ga K "moved")) := T.glo 10
theorem Tx.g_with_lines (T : Tx w K mg) : mg "with_lines" = some (.ref (He.ga K "with_lines")) := T.glo 11
theorem Tx.g_write (T : Tx w K mg) : mg "write" = some (.ref (He.ga K "write")) := T.glo 12
theorem Tx.g_break_row (T : Tx w K mg) : mg "break_row" = some (.ref (He.ga K "break_row")) := T.glo 13
theorem Tx.g_join_row (T : Tx w K mg) : mg "join_row" = some (.ref (He.ga K "join_row")) := T.glo 14
theorem Tx.g_rub (T : Tx w K mg) : mg "rub" = some (.ref (He.ga K "rub")) := T.glo 15
theorem Tx.g_go_left (T : Tx w K mg) : mg "go_left" = some (.ref (He.ga K "go_left")) := T.glo 16
theorem Tx.g_go_right (T : Tx w K mg) : mg "go_right" = some (.ref (He.ga K "go_right")) := T.glo 17
theorem Tx.g_go_to_row (T : Tx w K mg) : mg "go_to_row" = some (.ref (He.ga K "go_to_row")) := T.glo 18
theorem Tx.g_go_up (T : Tx w K mg) : mg "go_up" = some (.ref (He.ga K "go_up")) := T.glo 19
theorem Tx.g_go_down (T : Tx w K mg) : mg "go_down" = some (.ref (He.ga K "go_down")) := T.glo 20
theorem Tx.g_go_home (T : Tx w K mg) : mg "go_home" = some (.ref (He.ga K "go_home")) := T.glo 21
theorem Tx.g_go_end (T : Tx w K mg) : mg "go_end" = some (.ref (He.ga K "go_end")) := T.glo 22
theorem Tx.g_find_word (T : Tx w K mg) : mg "find_word" = some (.ref (He.ga K "find_word")) := T.glo 23
theorem Tx.g_take (T : Tx w K mg) : mg "take" = some (.ref (He.ga K "take")) := T.glo 24
theorem Tx.g_lay (T : Tx w K mg) : mg "lay" = some (.ref (He.ga K "lay")) := T.glo 25
theorem Tx.g_page_behind (T : Tx w K mg) : mg "page_behind" = some (.ref (He.ga K "page_behind")) := T.glo 26
theorem Tx.g_is_word (T : Tx w K mg) : mg "is_word" = some (.ref (He.ga K "is_word")) := T.glo 27
theorem Tx.g_is_number (T : Tx w K mg) : mg "is_number" = some (.ref (He.ga K "is_number")) := T.glo 28
theorem Tx.g_is_key (T : Tx w K mg) : mg "is_key" = some (.ref (He.ga K "is_key")) := T.glo 29
theorem Tx.g_check_key (T : Tx w K mg) : mg "check_key" = some (.ref (He.ga K "check_key")) := T.glo 30
theorem Tx.g_check_name (T : Tx w K mg) : mg "check_name" = some (.ref (He.ga K "check_name")) := T.glo 31
theorem Tx.g_check_keys (T : Tx w K mg) : mg "check_keys" = some (.ref (He.ga K "check_keys")) := T.glo 32
theorem Tx.g_check_each (T : Tx w K mg) : mg "check_each" = some (.ref (He.ga K "check_each")) := T.glo 33
theorem Tx.g_Player (T : Tx w K mg) : mg "Player" = some (.ref (He.ga K "Player")) := T.glo 34
theorem Tx.g_Editor (T : Tx w K mg) : mg "Editor" = some (.ref (He.ga K "Editor")) := T.glo 35
theorem Tx.g__law_mix (T : Tx w K mg) : mg "_law_mix" = some (.ref (He.ga K "_law_mix")) := T.glo 36
theorem Tx.g__law_next (T : Tx w K mg) : mg "_law_next" = some (.ref (He.ga K "_law_next")) := T.glo 37
theorem Tx.g__law_alike (T : Tx w K mg) : mg "_law_alike" = some (.ref (He.ga K "_law_alike")) := T.glo 38
theorem Tx.g__law_words (T : Tx w K mg) : mg "_law_words" = some (.ref (He.ga K "_law_words")) := T.glo 39
theorem Tx.g_law (T : Tx w K mg) : mg "law" = some (.ref (He.ga K "law")) := T.glo 40
theorem Tx.g_ACTIONS (T : Tx w K mg) : mg "ACTIONS" = some (.ref (He.ga K "ACTIONS")) := T.glo 41
theorem Tx.g_NAMES (T : Tx w K mg) : mg "NAMES" = some (.ref (He.ga K "NAMES")) := T.glo 42
theorem Tx.n_all (T : Tx w K mg) : mg "all" = none := T.free 43
theorem Tx.n_bool (T : Tx w K mg) : mg "bool" = none := T.free 44
theorem Tx.n_enumerate (T : Tx w K mg) : mg "enumerate" = none := T.free 45
theorem Tx.n_int (T : Tx w K mg) : mg "int" = none := T.free 46
theorem Tx.n_isinstance (T : Tx w K mg) : mg "isinstance" = none := T.free 47
theorem Tx.n_len (T : Tx w K mg) : mg "len" = none := T.free 48
theorem Tx.n_list (T : Tx w K mg) : mg "list" = none := T.free 49
theorem Tx.n_max (T : Tx w K mg) : mg "max" = none := T.free 50
theorem Tx.n_min (T : Tx w K mg) : mg "min" = none := T.free 51
theorem Tx.n_range (T : Tx w K mg) : mg "range" = none := T.free 52
theorem Tx.n_str (T : Tx w K mg) : mg "str" = none := T.free 53
theorem Tx.n_super (T : Tx w K mg) : mg "super" = none := T.free 54
theorem Tx.n_tuple (T : Tx w K mg) : mg "tuple" = none := T.free 55
theorem Tx.i_MOST_ROWS (T : Tx w K mg) : ∃ t, mg "MOST_ROWS" = some (.int 12 t) := T.int 56
theorem Tx.i_MOST_SIGNS (T : Tx w K mg) : ∃ t, mg "MOST_SIGNS" = some (.int 60 t) := T.int 57
theorem Tx.i_MOST_KEYS (T : Tx w K mg) : ∃ t, mg "MOST_KEYS" = some (.int 30 t) := T.int 58
theorem Tx.i_MOST_TIMES (T : Tx w K mg) : ∃ t, mg "MOST_TIMES" = some (.int 9 t) := T.int 59
theorem Tx.i_LONGEST_WORD (T : Tx w K mg) : ∃ t, mg "LONGEST_WORD" = some (.int 4 t) := T.int 60
theorem Tx.i_MOST_THINGS (T : Tx w K mg) : ∃ t, mg "MOST_THINGS" = some (.int 400 t) := T.int 61
theorem Tx.i_MOST_AROUND (T : Tx w K mg) : ∃ t, mg "MOST_AROUND" = some (.int 20 t) := T.int 62
theorem Tx.e_BadText (T : Tx w K mg) : PySem.W.excIn K (He.ga K "BadText") He.veBase "ValueError.__new__" = true ∧ PySem.W.keepIn K (.ref (He.ga K "BadText")) = true ∧ PySem.W.subIn K (.ref (He.ga K "BadText")) (.type "BaseException") = some true ∧ PySem.W.typeIn K (.ref (He.ga K "BadText")) = some (.type "type") := He.exc_ok (T.fact 63 (f := .exc "BadText"))
theorem pmk_BadText {P : Program} {base : Heap} {N : List Str} {d : He.DefD} {cdv : Value} {A : Around} {outer : List Env} {s : Shared} {H : Hp} {E : XK} {m : Str} {j : Nat} {p p2 pos : Pos} (T : Tx w K mg) (hg : Gl (cxOf (L2.CX P w) P w K mg base N d.qual d.scope (Ad K d.at_) cdv A outer s H E) "BadText") : PMk (cxOf (L2.CX P w) P w K mg base N d.qual d.scope (Ad K d.at_) cdv A outer s H E) (.Call (.Name "BadText" p) [.Constant (.str m) j p2] [] pos) (fun _ H Q => Q (.ref (He.ga K "BadText")) none H) := pmk_own PySem.F.excBase_ValueError T.e_BadText.1 T.g_BadText T.e_BadText.2.1 (raises_own T.e_BadText.2.2.1 T.e_BadText.2.2.2) hg
theorem Tx.e_BadKey (T : Tx w K mg) : PySem.W.excIn K (He.ga K "BadKey") He.veBase "ValueError.__new__" = true ∧ PySem.W.keepIn K (.ref (He.ga K "BadKey")) = true ∧ PySem.W.subIn K (.ref (He.ga K "BadKey")) (.type "BaseException") = some true ∧ PySem.W.typeIn K (.ref (He.ga K "BadKey")) = some (.type "type") := He.exc_ok (T.fact 64 (f := .exc "BadKey"))
theorem pmk_BadKey {P : Program} {base : Heap} {N : List Str} {d : He.DefD} {cdv : Value} {A : Around} {outer : List Env} {s : Shared} {H : Hp} {E : XK} {m : Str} {j : Nat} {p p2 pos : Pos} (T : Tx w K mg) (hg : Gl (cxOf (L2.CX P w) P w K mg base N d.qual d.scope (Ad K d.at_) cdv A outer s H E) "BadKey") : PMk (cxOf (L2.CX P w) P w K mg base N d.qual d.scope (Ad K d.at_) cdv A outer s H E) (.Call (.Name "BadKey" p) [.Constant (.str m) j p2] [] pos) (fun _ H Q => Q (.ref (He.ga K "BadKey")) none H) := pmk_own PySem.F.excBase_ValueError T.e_BadKey.1 T.g_BadKey T.e_BadKey.2.1 (raises_own T.e_BadKey.2.2.1 T.e_BadKey.2.2.2) hg
theorem Tx.e_BadName (T : Tx w K mg) : PySem.W.excIn K (He.ga K "BadName") He.veBase "ValueError.__new__" = true ∧ PySem.W.keepIn K (.ref (He.ga K "BadName")) = true ∧ PySem.W.subIn K (.ref (He.ga K "BadName")) (.type "BaseException") = some true ∧ PySem.W.typeIn K (.ref (He.ga K "BadName")) = some (.type "type") := He.exc_ok (T.fact 65 (f := .exc "BadName"))
theorem pmk_BadName {P : Program} {base : Heap} {N : List Str} {d : He.DefD} {cdv : Value} {A : Around} {outer : List Env} {s : Shared} {H : Hp} {E : XK} {m : Str} {j : Nat} {p p2 pos : Pos} (T : Tx w K mg) (hg : Gl (cxOf (L2.CX P w) P w K mg base N d.qual d.scope (Ad K d.at_) cdv A outer s H E) "BadName") : PMk (cxOf (L2.CX P w) P w K mg base N d.qual d.scope (Ad K d.at_) cdv A outer s H E) (.Call (.Name "BadName" p) [.Constant (.str m) j p2] [] pos) (fun _ H Q => Q (.ref (He.ga K "BadName")) none H) := pmk_own PySem.F.excBase_ValueError T.e_BadName.1 T.g_BadName T.e_BadName.2.1 (raises_own T.e_BadName.2.2.1 T.e_BadName.2.2.2) hg
theorem Tx.e_TooLong (T : Tx w K mg) : PySem.W.excIn K (He.ga K "TooLong") He.veBase "ValueError.__new__" = true ∧ PySem.W.keepIn K (.ref (He.ga K "TooLong")) = true ∧ PySem.W.subIn K (.ref (He.ga K "TooLong")) (.type "BaseException") = some true ∧ PySem.W.typeIn K (.ref (He.ga K "TooLong")) = some (.type "type") := He.exc_ok (T.fact 66 (f := .exc "TooLong"))
theorem pmk_TooLong {P : Program} {base : Heap} {N : List Str} {d : He.DefD} {cdv : Value} {A : Around} {outer : List Env} {s : Shared} {H : Hp} {E : XK} {m : Str} {j : Nat} {p p2 pos : Pos} (T : Tx w K mg) (hg : Gl (cxOf (L2.CX P w) P w K mg base N d.qual d.scope (Ad K d.at_) cdv A outer s H E) "TooLong") : PMk (cxOf (L2.CX P w) P w K mg base N d.qual d.scope (Ad K d.at_) cdv A outer s H E) (.Call (.Name "TooLong" p) [.Constant (.str m) j p2] [] pos) (fun _ H Q => Q (.ref (He.ga K "TooLong")) none H) := pmk_own PySem.F.excBase_ValueError T.e_TooLong.1 T.g_TooLong T.e_TooLong.2.1 (raises_own T.e_TooLong.2.2.1 T.e_TooLong.2.2.2) hg
theorem Tx.c_Page (T : Tx w K mg) : Cls K (He.ga K "Page") := He.cls_ok (T.fact 67)
theorem Tx.k_Page (T : Tx w K mg) : Mk K (He.ga K "Page") (Ad K ("Page", some "__init__")) := He.mkr_ok (T.fact 68)
theorem Tx.a_Page_rows (T : Tx w K mg) : NoAttr K (He.ga K "Page") "rows" := He.noat_ok (T.fact 69)
theorem Tx.a_Page_row (T : Tx w K mg) : NoAttr K (He.ga K "Page") "row" := He.noat_ok (T.fact 70)
theorem Tx.a_Page_column (T : Tx w K mg) : NoAttr K (He.ga K "Page") "column" := He.noat_ok (T.fact 71)
theorem Tx.a_Page_clipped (T : Tx w K mg) : NoAttr K (He.ga K "Page") "clipped" := He.noat_ok (T.fact 72)
theorem Tx.c_Player (T : Tx w K mg) : Cls K (He.ga K "Player") := He.cls_ok (T.fact 73)
theorem Tx.k_Player (T : Tx w K mg) : Mk K (He.ga K "Player") (Ad K ("Player", some "__init__")) := He.mkr_ok (T.fact 74)
theorem Tx.a_Player_page (T : Tx w K mg) : NoAttr K (He.ga K "Player") "page" := He.noat_ok (T.fact 75)
theorem Tx.a_Player_tapes (T : Tx w K mg) : NoAttr K (He.ga K "Player") "tapes" := He.noat_ok (T.fact 76)
theorem Tx.a_Player_typed (T : Tx w K mg) : NoAttr K (He.ga K "Player") "typed" := He.noat_ok (T.fact 77)
theorem Tx.a_Player_things (T : Tx w K mg) : NoAttr K (He.ga K "Player") "things" := He.noat_ok (T.fact 78)
theorem Tx.m_Player_do (T : Tx w K mg) : Meth K (He.ga K "Player") "do" (Ad K ("Player", some "do")) := He.meth_ok (T.fact 79)
theorem Tx.m_Player_play (T : Tx w K mg) : Meth K (He.ga K "Player") "play" (Ad K ("Player", some "play")) := He.meth_ok (T.fact 80)
theorem Tx.m_Player_play_till (T : Tx w K mg) : Meth K (He.ga K "Player") "play_till" (Ad K ("Player", some "play_till")) := He.meth_ok (T.fact 81)
theorem Tx.m_Player_play_once (T : Tx w K mg) : Meth K (He.ga K "Player") "play_once" (Ad K ("Player", some "play_once")) := He.meth_ok (T.fact 82)
theorem Tx.m_Player_add_thing (T : Tx w K mg) : Meth K (He.ga K "Player") "add_thing" (Ad K ("Player", some "add_thing")) := He.meth_ok (T.fact 83)
theorem Tx.c_Editor (T : Tx w K mg) : Cls K (He.ga K "Editor") := He.cls_ok (T.fact 84)
theorem Tx.k_Editor (T : Tx w K mg) : Mk K (He.ga K "Editor") (Ad K ("Editor", some "__init__")) := He.mkr_ok (T.fact 85)
theorem Tx.a_Editor_page (T : Tx w K mg) : NoAttr K (He.ga K "Editor") "page" := He.noat_ok (T.fact 86)
theorem Tx.a_Editor_tapes (T : Tx w K mg) : NoAttr K (He.ga K "Editor") "tapes" := He.noat_ok (T.fact 87)
theorem Tx.a_Editor_recorded (T : Tx w K mg) : NoAttr K (He.ga K "Editor") "recorded" := He.noat_ok (T.fact 88)
theorem Tx.a_Editor_pressed (T : Tx w K mg) : NoAttr K (He.ga K "Editor") "pressed" := He.noat_ok (T.fact 89)
theorem Tx.a_Editor_units (T : Tx w K mg) : NoAttr K (He.ga K "Editor") "units" := He.noat_ok (T.fact 90)
theorem Tx.a_Editor_undone (T : Tx w K mg) : NoAttr K (He.ga K "Editor") "undone" := He.noat_ok (T.fact 91)
theorem Tx.m_Editor_text (T : Tx w K mg) : Meth K (He.ga K "Editor") "text" (Ad K ("Editor", some "text")) := He.meth_ok (T.fact 92)
theorem Tx.m_Editor_place (T : Tx w K mg) : Meth K (He.ga K "Editor") "place" (Ad K ("Editor", some "place")) := He.meth_ok (T.fact 93)
theorem Tx.m_Editor_clip (T : Tx w K mg) : Meth K (He.ga K "Editor") "clip" (Ad K ("Editor", some "clip")) := He.meth_ok (T.fact 94)
theorem Tx.m_Editor_press (T : Tx w K mg) : Meth K (He.ga K "Editor") "press" (Ad K ("Editor", some "press")) := He.meth_ok (T.fact 95)
theorem Tx.m_Editor_hand (T : Tx w K mg) : Meth K (He.ga K "Editor") "hand" (Ad K ("Editor", some "hand")) := He.meth_ok (T.fact 96)
theorem Tx.m_Editor_tape (T : Tx w K mg) : Meth K (He.ga K "Editor") "tape" (Ad K ("Editor", some "tape")) := He.meth_ok (T.fact 97)
theorem Tx.m_Editor_tape_of (T : Tx w K mg) : Meth K (He.ga K "Editor") "tape_of" (Ad K ("Editor", some "tape_of")) := He.meth_ok (T.fact 98)
theorem Tx.m_Editor_record (T : Tx w K mg) : Meth K (He.ga K "Editor") "record" (Ad K ("Editor", some "record")) := He.meth_ok (T.fact 99)
theorem Tx.m_Editor_stop (T : Tx w K mg) : Meth K (He.ga K "Editor") "stop" (Ad K ("Editor", some "stop")) := He.meth_ok (T.fact 100)
theorem Tx.m_Editor_back (T : Tx w K mg) : Meth K (He.ga K "Editor") "back" (Ad K ("Editor", some "back")) := He.meth_ok (T.fact 101)
theorem Tx.m_Editor_forth (T : Tx w K mg) : Meth K (He.ga K "Editor") "forth" (Ad K ("Editor", some "forth")) := He.meth_ok (T.fact 102)
theorem Tx.m_Editor_go_to (T : Tx w K mg) : Meth K (He.ga K "Editor") "go_to" (Ad K ("Editor", some "go_to")) := He.meth_ok (T.fact 103)
end
end KT
set_option Elab.async false
set_option linter.all false
set_option maxRecDepth 100000
set_option maxHeartbeats 4000000
namespace KT
open PySem PySem.Spec PyProof.Rows L2 GxR
/-! ### heaps -/
def noTbl : HO → Bool
  | .tbl _ => false
  | _ => true
/-- H' is H, but for what stands at the addresses of S; the tables may have grown -/
structure Kq (S : List Addr) (H H' : Hp) : Prop where
  at_ : ∀ b o, H b = some o → noTbl o = true → b ∉ S → H' b = some o
  tab : ∀ p, TabG H p → TabG H' p
  fr : ∀ b, H' b = none → H b = none
theorem Kq.refl {S : List Addr} {H : Hp} : Kq S H H := ⟨fun _ _ h _ _ => h, fun _ h => h, fun _ h => h⟩
theorem Kq.trans {S : List Addr} {H H1 H2 : Hp} (a : Kq S H H1) (b : Kq S H1 H2) : Kq S H H2 :=
  ⟨fun c o h n m => b.at_ c o (a.at_ c o h n m) n m, fun p h => b.tab p (a.tab p h), fun c h => a.fr c (b.fr c h)⟩
theorem Kq.mono {S S' : List Addr} {H H1 : Hp} (a : Kq S H H1) (h : ∀ b ∈ S, b ∈ S') : Kq S' H H1 :=
  ⟨fun c o q n m => a.at_ c o q n fun z => m (h c z), a.tab, a.fr⟩
theorem Kq.of {S : List Addr} {H H1 : Hp} (a : Kq [] H H1) : Kq S H H1 := a.mono fun b h => absurd h (by simp)
theorem Kq.get {H H1 : Hp} (a : Kq [] H H1) {b : Addr} {o : HO} (h : H b = some o) (n : noTbl o = true := by rfl) : H1 b = some o := a.at_ b o h n (by simp)
theorem Kq.gets {S : List Addr} {H H1 : Hp} (a : Kq S H H1) {b : Addr} {o : HO} (h : H b = some o) (m : b ∉ S) (n : noTbl o = true := by rfl) : H1 b = some o := a.at_ b o h n m
theorem Kq.alloc {S : List Addr} {H : Hp} {p : Addr} {o : HO} (hp : H p = none) (n : noTbl o = true := by rfl) : Kq S H (upd H p o) := by
  refine ⟨fun b u h _ _ => ?_, fun q h => ?_, fun b h => ?_⟩
  · rw [upd_ne (ne_of_none h hp)]; exact h
  · obtain ⟨ps, h1, h2⟩ := h
    exact ⟨ps, by rw [upd_ne (ne_of_none h1 hp)]; exact h1, h2⟩
  · by_cases e : b = p
    · subst e; exact hp
    · rw [upd_ne e] at h; exact h
theorem Kq.write {S : List Addr} {H : Hp} {p : Addr} {o u : HO} (hp : H p = some u) (hS : p ∈ S) (n : noTbl u = true := by rfl) : Kq S H (upd H p o) := by
  refine ⟨fun b v h _ m => ?_, fun q h => ?_, fun b h => ?_⟩
  · rw [upd_ne (fun e => m (by rw [e]; exact hS))]; exact h
  · obtain ⟨ps, h1, h2⟩ := h
    have : q ≠ p := fun e => by
      subst e
      rw [hp] at h1
      cases h1
      cases n
    exact ⟨ps, by rw [upd_ne this]; exact h1, h2⟩
  · by_cases e : b = p
    · subst e; rw [upd_same] at h; cases h
    · rw [upd_ne e] at h; exact h
theorem Kq.tabbed {S : List Addr} {H H' : Hp} {p : Addr} (t : Tabbed p H H') (hp : TabG H p) : Kq S H H' := by
  obtain ⟨t1, t2⟩ := t
  refine ⟨fun b u h n _ => ?_, fun q h => ?_, fun b h => ?_⟩
  · have : b ≠ p := fun e => by
      subst e
      obtain ⟨ps, h1, _⟩ := hp
      rw [h] at h1
      cases h1
      cases n
    rw [t2 b this]; exact h
  · by_cases e : q = p
    · subst e; exact t1
    · obtain ⟨ps, h1, h2⟩ := h
      exact ⟨ps, by rw [t2 q e]; exact h1, h2⟩
  · by_cases e : b = p
    · subst e
      obtain ⟨ps, h1, _⟩ := t1
      rw [h] at h1; cases h1
    · rw [t2 b e] at h; exact h
theorem Kq.seq {K : PySem.W.Frag} {H H1 : Hp} (a : Kq [] H H1) {l : Addr} {xs : List V} (h : SqL K H l xs) : SqL K H1 l xs := by
  rcases h with (h | ⟨o, h⟩) | h
  · exact .inl (.inl (a.get h))
  · exact .inl (.inr ⟨o, a.get h⟩)
  · exact .inr h
theorem Kq.tup {K : PySem.W.Frag} {H H1 : Hp} (a : Kq [] H H1) {l : Addr} {xs : List V} (h : SqT K H l xs) : SqT K H1 l xs := by
  rcases h with (h | ⟨o, h⟩) | h
  · exact .inl (.inl (a.get h))
  · exact .inl (.inr ⟨o, a.get h⟩)
  · exact .inr h
/-! ### defs -/
/-- the def at f keeps its promise -/
structure Fk (P : Program) (w : World) (K : PySem.W.Frag) (mg : Str → Option Value) (base : Heap) (k : Nat) (f : Addr) (ps : List Str) (sp : Sp) : Prop where
  ok : FnOk P w K mg base (L2.CX P w) k f (fdOf K f) ps sp
  b : Binds K (fdOf K f) ps []
  kp : PySem.W.keepIn K (.ref f) = true
theorem Fk.mono {P : Program} {w : World} {K : PySem.W.Frag} {mg : Str → Option Value} {base : Heap} {j k : Nat} {f : Addr} {ps : List Str} {sp : Sp} (F : Fk P w K mg base j f ps sp) (h : j ≤ k) : Fk P w K mg base k f ps sp := ⟨F.ok.mono h, F.b, F.kp⟩
section
variable {P : Program} {w : World} {K : PySem.W.Frag} {mg : Str → Option Value} {base : Heap}
abbrev CxD (P : Program) (w : World) (K : PySem.W.Frag) (mg : Str → Option Value) (base : Heap) (N : List Str) (d : He.DefD) (cdv : Value) (A : Around) (outer : List Env) (s : Shared) (H : Hp) (E : XK) : Cx :=
  cxOf (L2.CX P w) P w K mg base N d.qual d.scope (Ad K d.at_) cdv A outer s H E
theorem mkF {d : He.DefD} {N ps : List Str} {k : Nat} {sp : Sp} (F : FnT K d) (S : FnScope N ps d.scope) (hd : d.dfl = [])
    (hb : ∀ (kV doc pm : Value) (an : Option Addr) (cdv ct : Value) (us : List Value), us.length = ps.length → bindArgs (PySem.W.fnOf d.name d.qual d.params d.body d.scope .none kV doc pm an cdv ct) ⟨us, []⟩ = pure (ps.zip us))
    (len : ∀ vs H Q E, sp vs H Q E → vs.length = ps.length)
    (hbody : ∀ (cdv : Value) (A : Around) (outer : List Env) (s : Shared) (H : Hp) (vs : List V) (Q : VK) (E : XK),
      PySem.W.codeIn K cdv d.qual = true → cdv = .ref (He.codeOf K d.at_) →
      Room k (CxD P w K mg base N d cdv A outer s H E).A → sp vs H Q E →
      ∃ t, PSs (CxD P w K mg base N d cdv A outer s H E) d.body t ∧ t { nx := fun _ H' => Q .non H', rt := Q } (start N vs) H) : Fk P w K mg base (k + 1) (Ad K d.at_) ps sp := by
  have F' : FunD K d.name d.qual d.params d.body d.scope [] (d.kws K) (Ad K d.at_) (fdOf K (Ad K d.at_)) := by
    have e : d.dvs K = [] := by unfold He.DefD.dvs; rw [hd]; rfl
    have := F
    unfold FnT at this
    rw [e] at this
    exact this
  refine ⟨?_, F'.bindsN hb, F'.kp⟩
  obtain ⟨oc, od, dV, kV, doc, pm, an, cdv, ct, osl, e, lk, hcd, _, _⟩ := F'.ex
  have hcode : cdv = .ref (He.codeOf K d.at_) := by
    obtain ⟨c, hc⟩ := He.codeIn_ref hcd
    rw [hc]
    have : He.codeOf K d.at_ = c := He.codeOf_eq lk (by rw [e]; exact hc)
    rw [this]
  rw [e] at lk ⊢
  refine fn_of lk hcd S len fun A outer s H vs Q E hr hsp => ?_
  exact hbody cdv A outer s H vs Q E hcd hcode hr hsp
end
section
variable {X : Cx} {k : Nat} {f C : Addr} {ps : List Str} {sp : Sp} {E : XK} {x m : Str} {p pos apos : Pos} {e o : Expr} {es : List Expr} {ta : TE} {t : TA}
/-- f(e, ..) -/
def tCF (sp : Sp) (E : XK) (t : TA) : TE := fun σ H Q => t σ H fun vs H1 => sp vs H1 Q E
theorem pe_cF (F : Fk X.prog X.w X.K X.mg X.base k f ps sp) (hr : Room k X.A) (hm : X.mg x = some (.ref f)) (hx : Passes (L2.CX X.prog X.w) X E) (ha : PA X (e :: es) t) (hg : Gl X x := by rfl)
    (hdb : (x == ("__debug__" : Str)) = false := by decide)
    (he : starEach (e :: es) X.env = (false, eval e X.env) :: starEach es X.env := by rfl) (hpl : (backTo pos (starEach es X.env)).any (·.1) = false := by rfl) : PE X (.Call (.Name x p) (e :: es) [] pos) (tCF sp E t) := by
  have h := pe_call (p := p) (pos := pos) F.ok hr hg hm F.kp F.b .nil hx ha hdb he hpl
  refine ⟨fun pins s σ H Q I q => h.run pins s σ H Q I ?_⟩
  have e0 : (fun (vs : List V) (H1 : Hp) => sp (vs ++ []) H1 Q E) = fun vs H1 => sp vs H1 Q E := by
    funext vs H1
    rw [List.append_nil]
  show t σ H (fun vs H1 => sp (vs ++ []) H1 Q E)
  rw [e0]
  exact q
/-- o.m(e, ..) -/
def tMF (C : Addr) (m : Str) (sp : Sp) (E : XK) (ta : TE) (t : TA) : TE := fun σ H Q => ta σ H fun x H1 => ∃ a dx fs, x = .ref a ∧ H1 a = some (.ins C dx fs) ∧ fs.lookup m = none ∧ t σ H1 fun vs H2 => sp (x :: vs) H2 Q E
theorem tMF_eq (C : Addr) (m : Str) (sp : Sp) (E : XK) (ta : TE) (t : TA) : tMF C m sp E ta t = tMeth C m sp [] E ta t := by
  unfold tMF tMeth
  funext σ H Q
  simp only [List.append_nil]
theorem pe_mF (pl : Sem Bool) (he : PE X o ta) (c : Cls X.K C) (hm : Meth X.K C m f) (F : Fk X.prog X.w X.K X.mg X.base k f ps sp) (hr : Room k X.A) (hx : Passes (L2.CX X.prog X.w) X E) (ha : PA X (e :: es) t)
    (hst : starEach (e :: es) X.env = (false, eval e X.env) :: starEach es X.env := by rfl) (hpl : (backTo pos (starEach es X.env)).any (·.1) = false := by rfl)
    (ht : eval (.Call (.Attribute o m apos) (e :: es) [] pos) X.env = (do
      let ov ← eval o X.env
      standAt apos.atName
      let (f, first) ← holding [ov] (getMethod ov m pl)
      callWith pos f first (backTo pos (starEach (e :: es) X.env)) (backToKw pos (keywordEach [] X.env))) := by rfl) :
    PE X (.Call (.Attribute o m apos) (e :: es) [] pos) (tMF C m sp E ta t) := by
  rw [tMF_eq]
  exact pe_meth (pl := pl) he c hm F.ok hr F.b .nil hx ha hst hpl ht
theorem pe_mF0 (pl : Sem Bool) (he : PE X o ta) (c : Cls X.K C) (hm : Meth X.K C m f) (F : Fk X.prog X.w X.K X.mg X.base k f ps sp) (hr : Room k X.A) (hx : Passes (L2.CX X.prog X.w) X E)
    (ht : eval (.Call (.Attribute o m apos) [] [] pos) X.env = (do
      let ov ← eval o X.env
      standAt apos.atName
      let (f, first) ← holding [ov] (getMethod ov m pl)
      callWith pos f first (backTo pos (starEach [] X.env)) (backToKw pos (keywordEach [] X.env))) := by rfl) :
    PE X (.Call (.Attribute o m apos) [] [] pos) (tMF C m sp E ta tNil) := by
  rw [tMF_eq]
  exact pe_meth0 (pl := pl) he c hm F.ok hr F.b .nil hx ht
/-- C(e, ..) by what the making comes to -/
theorem pe_kF {spN : Sp} (M : Mk X.K C f) (F : Fk X.prog X.w X.K X.mg X.base k f ps sp) (hr : Room (k + 1) X.A) (hm : X.mg x = some (.ref C)) (hx : Passes (L2.CX X.prog X.w) X E)
    (imp : ∀ vs H Q, spN vs H Q E → ∀ x dx, H x = none → H dx = none → dx ≠ x → sp (.ref x :: vs) (upd (upd H dx (.own x)) x (.ins C dx [])) (fun v H2 => v = .non ∧ Q (.ref x) H2) E)
    (ha : PA X (e :: es) t) (hg : Gl X x := by rfl) (hdb : (x == ("__debug__" : Str)) = false := by decide) (he : starEach (e :: es) X.env = (false, eval e X.env) :: starEach es X.env := by rfl) (hpl : (backTo pos (starEach es X.env)).any (·.1) = false := by rfl) :
    PE X (.Call (.Name x p) (e :: es) [] pos) (tCF spN E t) := by
  refine ⟨fun pins s σ H Q I h => ?_⟩
  refine wpAny_Call_Name_kw (ld_glob I hg hm ?_ hdb)
  refine PySem.W.callWith_K (h₀ := X.base) I.ok.mod.kin M.kp (thn (ha.run pos pins s σ H _ I h) fun us s1 ⟨vs, H1, I1, r, q⟩ => ⟨I1.kIn, ?_⟩) he hpl
  exact run_make M F.ok hr F.b .nil hx I1 r (by
    rw [List.append_nil]
    exact imp vs H1 Q q)
end
section
variable {P : Program} {w : World} {K : PySem.W.Frag} {mg : Str → Option Value} {base : Heap}
/-- what a call lets out, the def lets out -/
theorem px {N : List Str} {d : He.DefD} {cdv : Value} {A : Around} {outer : List Env} {s : Shared} {H : Hp} {E : XK} : Passes (L2.CX P w) (CxD P w K mg base N d cdv A outer s H E) E :=
  passes_call (takes_of (E := E) rfl rfl rfl rfl) fun _ _ _ _ z => z
end
/-! ### tuples: one way out -/
section
variable {X : Cx}
theorem op_catU : OpR X (binaryOp .Add) (fun x y H Q => ∃ a b xs ys, x = .ref a ∧ y = .ref b ∧ SqT X.K H a xs ∧ SqT X.K H b ys ∧ xs.length + ys.length ≤ sizeLine ∧ ∀ q H', Kq [] H H' → SqT X.K H' q (xs ++ ys) → Q (.ref q) H') := by
  intro pins s σ H x y v u Q I rx ry h
  obtain ⟨a, b, xs, ys, e1, e2, ha, hb, hl, k⟩ := h
  refine op_catA pins s σ H x y v u Q I rx ry ⟨a, b, xs, ys, e1, e2, ha, hb, hl, fun e => ?_, fun _ e => ?_, fun _ _ p np => ?_⟩
  · subst e; exact k b H Kq.refl hb
  · subst e; exact k a H Kq.refl (by rw [List.append_nil]; exact ha)
  · exact k p _ (Kq.alloc np) (SqT.of upd_same)
theorem sl_tupU : SlR X (fun x lo hi H Q => ∃ a xs, x = .ref a ∧ SqT X.K H a xs ∧ ∀ q H', Kq [] H H' → SqT X.K H' q (cutV xs lo hi) → Q (.ref q) H') := by
  intro pins s σ H x v vl vu lo hi sl Q I rx hs pl pu h
  obtain ⟨a, xs, e1, ha, k⟩ := h
  refine sl_tupA pins s σ H x v vl vu lo hi sl Q I rx hs pl pu ⟨a, xs, e1, ha, fun e => k a H Kq.refl ?_, fun _ p np => k p _ (Kq.alloc np) (SqT.of upd_same)⟩
  have : cutV xs lo hi = xs := by
    unfold cutV
    rw [e.1, e.2]
    simp
  rw [this]; exact ha
end
/-! ### texts as lists of codes -/
abbrev S (l : Ln) : Str := ⟨l.toArray⟩
theorem S_tl (x : Str) : S (TL.tl x) = x := TL.mk_tl x
theorem S_len (l : Ln) : (S l).length = l.length := by simp [Str.length]
theorem S_inj {a b : Ln} (h : S a = S b) : a = b := by
  have : (S a).cps.toList = (S b).cps.toList := by rw [h]
  simpa using this
theorem S_app (a b : Ln) : S a ++ S b = S (a ++ b) := TL.ext_tl (by rw [TL.tl_append])
end KT
set_option Elab.async false
set_option linter.all false
set_option maxRecDepth 100000
set_option maxHeartbeats 4000000
namespace KT
open PySem PySem.Spec PyProof.Rows L2 GxR
/-! ### pages -/
def rowsV (ls : List Ln) : List V := ls.map fun l => V.str (S l)
theorem rowsV_len (ls : List Ln) : (rowsV ls).length = ls.length := by simp [rowsV]
theorem rowsV_app (a b : List Ln) : rowsV a ++ rowsV b = rowsV (a ++ b) := by simp [rowsV]
theorem rows_at {ls : List Ln} {n : Nat} {i : Int} (e : i = (n : Int)) (h : n < ls.length) : atI (rowsV ls) i = some (V.str (S (ls.getD n []))) := by
  refine at_of e ?_
  unfold rowsV
  rw [List.getElem?_map, List.getElem?_eq_getElem h, List.getD_eq_getElem?_getD, List.getElem?_eq_getElem h]
  rfl
def pageF (t : Addr) (g : Pg) : List (Str × V) := [("rows", .ref t), ("row", .int g.row), ("column", .int g.col), ("clipped", .str (S g.clip))]
def PageAt (K : PySem.W.Frag) (H : Hp) (p : Addr) (g : Pg) : Prop := ∃ dx t, H p = some (.ins (He.ga K "Page") dx (pageF t g)) ∧ SqT K H t (rowsV g.rows)
theorem pageF_rows (t : Addr) (g : Pg) : (pageF t g).lookup ("rows" : Str) = some (.ref t) := by kernel_rfl
theorem pageF_row (t : Addr) (g : Pg) : (pageF t g).lookup ("row" : Str) = some (.int g.row) := by kernel_rfl
theorem pageF_column (t : Addr) (g : Pg) : (pageF t g).lookup ("column" : Str) = some (.int g.col) := by kernel_rfl
theorem pageF_clipped (t : Addr) (g : Pg) : (pageF t g).lookup ("clipped" : Str) = some (.str (S g.clip)) := by kernel_rfl
theorem pageF_put (t : Addr) (a b : Int) (c : Str) : putF "clipped" (.str c) (putF "column" (.int b) (putF "row" (.int a) (putF "rows" (.ref t) []))) = ([("rows", V.ref t), ("row", V.int a), ("column", V.int b), ("clipped", V.str c)] : List (Str × V)) := by kernel_rfl
theorem Kq.page {K : PySem.W.Frag} {H H1 : Hp} (a : Kq [] H H1) {p : Addr} {g : Pg} (h : PageAt K H p g) : PageAt K H1 p g := by
  obtain ⟨dx, t, h1, h2⟩ := h
  exact ⟨dx, t, a.get h1, a.tup h2⟩
theorem iteD {c : Prop} [Decidable c] {A B : Prop} (h1 : c → A) (h2 : ¬ c → B) : if decide c = true then A else B := by
  by_cases h : c
  · rw [if_pos (decide_eq_true h)]; exact h1 h
  · rw [if_neg (by simp [h])]; exact h2 h
theorem iteN {c : Prop} [Decidable c] {A B : Prop} (h1 : ¬ c → A) (h2 : c → B) : if (!decide c) = true then A else B := by
  by_cases h : c
  · rw [if_neg (by simp [h])]; exact h2 h
  · rw [if_pos (by simp [h])]; exact h1 h
/-! ### texts cut -/
theorem line16 {n : Nat} (h : n ≤ 1000000) : n ≤ sizeLine := Nat.le_trans h (by rw [sizeLine_eq]; decide)
theorem take_min {α : Type} (l : List α) (n : Nat) : l.take (min n l.length) = l.take n := by
  by_cases h : n ≤ l.length
  · rw [Nat.min_eq_left h]
  · rw [Nat.min_eq_right (by omega), List.take_of_length_le (by omega), List.take_of_length_le (by omega)]
theorem cut_to (l : Ln) {i : Int} {n : Nat} (e : i = (n : Int)) : cutS (S l) none (some i) = S (l.take n) := by
  subst e
  unfold cutS
  rw [HT.sIx_none, HT.sIx_nat, S_len]
  simp only [List.drop_zero, Nat.sub_zero]
  rw [take_min]
theorem cut_from (l : Ln) {i : Int} {n : Nat} (e : i = (n : Int)) : cutS (S l) (some i) none = S (l.drop n) := by
  subst e
  unfold cutS
  rw [HT.sIx_none, HT.sIx_nat, S_len]
  congr 2
  by_cases h : n ≤ l.length
  · rw [Nat.min_eq_left h]
    exact List.take_of_length_le (by simp)
  · rw [Nat.min_eq_right (by omega)]
    rw [List.drop_eq_nil_of_le (by omega : l.length ≤ n)]
    simp
theorem cut_mid (l : Ln) {i j : Int} {a b : Nat} (ea : i = (a : Int)) (eb : j = (b : Int)) : cutS (S l) (some i) (some j) = S ((l.drop a).take (b - a)) := by
  subst ea eb
  unfold cutS
  have el : (S l).cps.toList = l := by simp
  rw [el]
  rw [HT.sIx_nat, HT.sIx_nat, S_len]
  congr 2
  by_cases h : a ≤ l.length
  · rw [Nat.min_eq_left h]
    by_cases hb : b ≤ l.length
    · rw [Nat.min_eq_left hb]
    · rw [Nat.min_eq_right (by omega)]
      rw [List.take_of_length_le (by rw [List.length_drop]; omega), List.take_of_length_le (by rw [List.length_drop]; omega)]
  · rw [Nat.min_eq_right (by omega : l.length ≤ a), List.drop_eq_nil_of_le (by omega : l.length ≤ a)]
    simp
theorem cutV_to {ls : List Ln} {i : Int} {n : Nat} (e : i = (n : Int)) : cutV (rowsV ls) none (some i) = rowsV (ls.take n) := by
  subst e
  unfold cutV rowsV
  rw [HT.sIx_none, HT.sIx_nat, List.length_map]
  simp only [List.drop_zero, Nat.sub_zero]
  have h := take_min ls n
  rw [← List.map_take, h]
theorem cutV_from {ls : List Ln} {i : Int} {n : Nat} (e : i = (n : Int)) : cutV (rowsV ls) (some i) none = rowsV (ls.drop n) := by
  subst e
  unfold cutV rowsV
  rw [HT.sIx_none, HT.sIx_nat, List.length_map, ← List.map_drop, ← List.map_take]
  congr 1
  by_cases h : n ≤ ls.length
  · rw [Nat.min_eq_left h]
    exact List.take_of_length_le (by simp)
  · rw [Nat.min_eq_right (by omega), List.drop_eq_nil_of_le (by omega : ls.length ≤ n)]
    simp
section
variable {P : Program} {w : World} {K : PySem.W.Frag} {mg : Str → Option Value} {base : Heap}
theorem rd_rows (T : Tx w K mg) {H : Hp} {p : Addr} {g : Pg} (hP : PageAt K H p g) {Q : V → Prop} (h : ∀ t, SqT K H t (rowsV g.rows) → Q (.ref t)) :
    ∃ a C dx fs v, V.ref p = .ref a ∧ H a = some (.ins C dx fs) ∧ Cls K C ∧ NoAttr K C "rows" ∧ fs.lookup ("rows" : Str) = some v ∧ Q v := by
  obtain ⟨dx, t, h1, h2⟩ := hP
  exact ⟨p, _, dx, _, _, rfl, h1, T.c_Page, T.a_Page_rows, pageF_rows _ _, h t h2⟩
theorem rd_row (T : Tx w K mg) {H : Hp} {p : Addr} {g : Pg} (hP : PageAt K H p g) {Q : V → Prop} (h : Q (.int g.row)) :
    ∃ a C dx fs v, V.ref p = .ref a ∧ H a = some (.ins C dx fs) ∧ Cls K C ∧ NoAttr K C "row" ∧ fs.lookup ("row" : Str) = some v ∧ Q v := by
  obtain ⟨dx, t, h1, h2⟩ := hP
  exact ⟨p, _, dx, _, _, rfl, h1, T.c_Page, T.a_Page_row, pageF_row _ _, h⟩
theorem rd_col (T : Tx w K mg) {H : Hp} {p : Addr} {g : Pg} (hP : PageAt K H p g) {Q : V → Prop} (h : Q (.int g.col)) :
    ∃ a C dx fs v, V.ref p = .ref a ∧ H a = some (.ins C dx fs) ∧ Cls K C ∧ NoAttr K C "column" ∧ fs.lookup ("column" : Str) = some v ∧ Q v := by
  obtain ⟨dx, t, h1, h2⟩ := hP
  exact ⟨p, _, dx, _, _, rfl, h1, T.c_Page, T.a_Page_column, pageF_column _ _, h⟩
theorem rd_clip (T : Tx w K mg) {H : Hp} {p : Addr} {g : Pg} (hP : PageAt K H p g) {Q : V → Prop} (h : Q (.str (S g.clip))) :
    ∃ a C dx fs v, V.ref p = .ref a ∧ H a = some (.ins C dx fs) ∧ Cls K C ∧ NoAttr K C "clipped" ∧ fs.lookup ("clipped" : Str) = some v ∧ Q v := by
  obtain ⟨dx, t, h1, h2⟩ := hP
  exact ⟨p, _, dx, _, _, rfl, h1, T.c_Page, T.a_Page_clipped, pageF_clipped _ _, h⟩
/-- Page.__init__ -/
def sp_Page___init__ (K : PySem.W.Frag) : Sp := fun vs H Q _ => ∃ (x dx t : Addr) (a b : Int) (c : Str), vs = [.ref x, .ref t, .int a, .int b, .str c] ∧ H x = some (.ins (He.ga K "Page") dx []) ∧
  Q .non (upd (upd (upd (upd H x (.ins (He.ga K "Page") dx (putF "rows" (.ref t) []))) x (.ins (He.ga K "Page") dx (putF "row" (.int a) (putF "rows" (.ref t) [])))) x
    (.ins (He.ga K "Page") dx (putF "column" (.int b) (putF "row" (.int a) (putF "rows" (.ref t) []))))) x (.ins (He.ga K "Page") dx (putF "clipped" (.str c) (putF "column" (.int b) (putF "row" (.int a) (putF "rows" (.ref t) []))))))
theorem sc_Page___init__ : FnScope ["self", "rows", "row", "column", "clipped"] ["self", "rows", "row", "column", "clipped"] (defScope s_Page___init__) := ⟨rfl, rfl, rfl, by decide +kernel, rfl, by decide +kernel, by decide +kernel⟩
theorem ok_Page___init__ (T : Tx w K mg) : Fk P w K mg base 1 (Ad K d_Page___init__.at_) ["self", "rows", "row", "column", "clipped"] (sp_Page___init__ K) := by
  refine mkF T.f_Page___init__ sc_Page___init__ rfl (fun _ _ _ _ _ _ us hl => match us, hl with | [_, _, _, _, _], _ => rfl) (fun vs H Q E h => by obtain ⟨_, _, _, _, _, _, rfl, _⟩ := h; rfl) (fun cdv A outer s H vs Q E hcd hcode hr h => ?_)
  refine ⟨_, (pss_cons (ps_fld (pv 0) (pv 1) rfl)
      (pss_cons (ps_fld (pv 0) (pv 2) rfl)
      (pss_cons (ps_fld (pv 0) (pv 3) rfl)
      (pss_one (ps_fld (pv 0) (pv 4) rfl))))), ?_⟩
  obtain ⟨x, dx, t, a, b, c, rfl, hx, k⟩ := h
  refine ⟨_, rfl, _, rfl, x, _, dx, _, rfl, hx, T.c_Page, T.a_Page_rows, (by show 0 < 1000; decide), ?_⟩
  refine ⟨_, rfl, _, rfl, x, _, dx, _, rfl, upd_same, T.c_Page, T.a_Page_row, (by show 1 < 1000; decide), ?_⟩
  refine ⟨_, rfl, _, rfl, x, _, dx, _, rfl, upd_same, T.c_Page, T.a_Page_column, (by show 2 < 1000; decide), ?_⟩
  refine ⟨_, rfl, _, rfl, x, _, dx, _, rfl, upd_same, T.c_Page, T.a_Page_clipped, (by show 3 < 1000; decide), ?_⟩
  exact k
/-- Page(rows, row, column, clipped) -/
def sp_Page (K : PySem.W.Frag) : Sp := fun vs H Q _ => ∃ (t : Addr) (i j : Int) (c : Str) (g : Pg), vs = [.ref t, .int i, .int j, .str c] ∧ i = g.row ∧ j = g.col ∧ c = S g.clip ∧ SqT K H t (rowsV g.rows) ∧
  ∀ q H', Kq [] H H' → PageAt K H' q g → Q (.ref q) H'
/-- a new instance -/
theorem Kq.made {S : List Addr} {H : Hp} {x dx C : Addr} {fs : List (Str × V)} (hx : H x = none) (hd : H dx = none) (ne : dx ≠ x) : Kq S H (upd (upd H dx (.own x)) x (.ins C dx fs)) :=
  (Kq.alloc hd).trans (Kq.alloc (by rw [upd_ne (Ne.symm ne)]; exact hx))
theorem new_Page {E : XK} : ∀ vs H Q, sp_Page K vs H Q E → ∀ x dx, H x = none → H dx = none → dx ≠ x →
    sp_Page___init__ K (.ref x :: vs) (upd (upd H dx (.own x)) x (.ins (He.ga K "Page") dx [])) (fun v H2 => v = .non ∧ Q (.ref x) H2) E := by
  rintro vs H Q ⟨t, i, j, c, g, rfl, rfl, rfl, rfl, ht, k⟩ x dx nx ndx ne
  refine ⟨x, dx, t, _, _, _, rfl, upd_same, rfl, ?_⟩
  rw [upd_upd, upd_upd, upd_upd, upd_upd, pageF_put]
  have kk : Kq [] H (upd (upd H dx (.own x)) x (.ins (He.ga K "Page") dx (pageF t g))) := Kq.made nx ndx ne
  exact k x _ kk ⟨dx, t, upd_same, kk.tup ht⟩
def sp_line_at (K : PySem.W.Frag) : Sp := fun vs H Q _ => ∃ p g, vs = [.ref p] ∧ PageAt K H p g ∧ g.row < g.rows.length ∧ Q (.str (S g.line)) H
theorem sc_line_at : FnScope ["page"] ["page"] (defScope s_line_at) := ⟨rfl, rfl, rfl, by decide +kernel, rfl, by decide +kernel, by decide +kernel⟩
theorem ok_line_at (T : Tx w K mg) : Fk P w K mg base 1 (Ad K d_line_at.at_) ["page"] (sp_line_at K) := by
  refine mkF T.f_line_at sc_line_at rfl (fun _ _ _ _ _ _ us hl => match us, hl with | [_], _ => rfl) (fun vs H Q E h => by obtain ⟨_, _, rfl, _⟩ := h; rfl) (fun cdv A outer s H vs Q E hcd hcode hr h => ?_)
  refine ⟨_, (pss_one (ps_ret (pe_ix ix_tup (pe_fld (pv 0) rfl) (pe_fld (pv 0) rfl) (fun _ _ => rfl)))), ?_⟩
  obtain ⟨p, g, rfl, hP, hr', k⟩ := h
  refine ⟨_, rfl, rd_rows T hP fun t ht => ⟨_, rfl, rd_row T hP ?_⟩⟩
  exact ⟨t, _, _, _, rfl, rfl, ht, rows_at rfl hr', k⟩
def sp_moved (K : PySem.W.Frag) : Sp := fun vs H Q _ => ∃ p g i j, ∃ r c : Nat, vs = [.ref p, .int i, .int j] ∧ i = (r : Int) ∧ j = (c : Int) ∧ PageAt K H p g ∧ ∀ q H', Kq [] H H' → PageAt K H' q (g.at_ r c) → Q (.ref q) H'
theorem sc_moved : FnScope ["page", "row", "column"] ["page", "row", "column"] (defScope s_moved) := ⟨rfl, rfl, rfl, by decide +kernel, rfl, by decide +kernel, by decide +kernel⟩
theorem ok_moved (T : Tx w K mg) : Fk P w K mg base 3 (Ad K d_moved.at_) ["page", "row", "column"] (sp_moved K) := by
  have F_Page___init__ := ok_Page___init__ (P := P) (base := base) T
  refine mkF T.f_moved sc_moved rfl (fun _ _ _ _ _ _ us hl => match us, hl with | [_, _, _], _ => rfl) (fun vs H Q E h => by obtain ⟨_, _, _, _, _, _, rfl, _⟩ := h; rfl) (fun cdv A outer s H vs Q E hcd hcode hr h => ?_)
  refine ⟨_, (pss_one (ps_ret (pe_kF (spN := sp_Page K) T.k_Page F_Page___init__ (hr.mono (by decide)) T.g_Page px new_Page (pa_cons (pe_fld (pv 0) rfl) (pa_cons (pv 1) (pa_cons (pv 2) (pa_cons (pe_fld (pv 0) rfl) pa_nil))))))), ?_⟩
  obtain ⟨p, g, i, j, r, c, rfl, rfl, rfl, hP, k⟩ := h
  refine ⟨_, rfl, rd_rows T hP fun t ht => ⟨_, rfl, _, rfl, _, rfl, rd_clip T hP ?_⟩⟩
  exact ⟨t, _, _, _, g.at_ r c, rfl, rfl, rfl, rfl, ht, k⟩
def sp_with_lines (K : PySem.W.Frag) : Sp := fun vs H Q _ => ∃ p g i m l ls, ∃ f n : Nat, vs = [.ref p, .int i, .int m, .ref l] ∧ i = (f : Int) ∧ m = (n : Int) ∧ PageAt K H p g ∧ SqT K H l (rowsV ls) ∧ f < g.rows.length ∧ 1 ≤ n ∧ g.rows.length ≤ 12 ∧ ls.length ≤ 2 ∧ ls ≠ [] ∧
  ∀ q H', Kq [] H H' → SqT K H' q (rowsV (g.others f n ls)) → Q (.ref q) H'
theorem rowsV_ne {ls : List Ln} (h : ls ≠ []) : rowsV ls ≠ [] := by
  intro e
  apply h
  have := congrArg List.length e
  rw [rowsV_len] at this
  exact List.length_eq_zero_iff.mp this
theorem rowsV_nil {ls : List Ln} (h : rowsV ls = []) : ls = [] := by
  have := congrArg List.length h
  rw [rowsV_len] at this
  exact List.length_eq_zero_iff.mp this
theorem sc_with_lines : FnScope ["page", "first", "many", "lines"] ["page", "first", "many", "lines"] (defScope s_with_lines) := ⟨rfl, rfl, rfl, by decide +kernel, rfl, by decide +kernel, by decide +kernel⟩
theorem ok_with_lines (T : Tx w K mg) : Fk P w K mg base 1 (Ad K d_with_lines.at_) ["page", "first", "many", "lines"] (sp_with_lines K) := by
  refine mkF T.f_with_lines sc_with_lines rfl (fun _ _ _ _ _ _ us hl => match us, hl with | [_, _, _, _], _ => rfl) (fun vs H Q E h => by obtain ⟨_, _, _, _, _, _, _, _, rfl, _⟩ := h; rfl) (fun cdv A outer s H vs Q E hcd hcode hr h => ?_)
  refine ⟨_, (pss_one (ps_ret (pe_op op_catU (pe_op op_catU (pe_slice sl_tupU (pe_fld (pv 0) rfl) po_none (po_some (pv 1))) (pv 3)) (pe_slice sl_tupU (pe_fld (pv 0) rfl) (po_some (pe_op op_add (pv 1) (pv 2))) po_none)))), ?_⟩
  obtain ⟨p, g, i, m, l, ls, f, n, rfl, rfl, rfl, hP, hl, hf, hn, h12, h2, hne, k⟩ := h
  refine ⟨_, rfl, rd_rows T hP fun t ht => ⟨_, rfl, _, rfl, t, _, rfl, ht, fun p1 H1 k1 a1 => ?_⟩⟩
  rw [cutV_to rfl] at a1
  refine ⟨_, rfl, p1, l, _, _, rfl, rfl, a1, k1.tup hl, ?_, fun p2 H2 k2 a2 => ?_⟩
  · rw [rowsV_len, rowsV_len, List.length_take]; exact line16 (by omega)
  rw [rowsV_app] at a2
  have k12 := k1.trans k2
  refine ⟨_, rfl, rd_rows T (k12.page hP) fun t ht => ⟨_, rfl, _, rfl, _, _, rfl, rfl, _, rfl, t, _, rfl, ht, fun p3 H3 k3 a3 => ?_⟩⟩
  rw [cutV_from (n := f + n) (by omega)] at a3
  refine ⟨p2, p3, _, _, rfl, rfl, k3.tup a2, a3, ?_, fun q H4 k4 a4 => ?_⟩
  · rw [rowsV_len, rowsV_len, List.length_append, List.length_take, List.length_drop]; exact line16 (by omega)
  rw [rowsV_app] at a4
  exact k q H4 ((k12.trans k3).trans k4) a4
end
end KT
set_option Elab.async false
set_option linter.all false
set_option maxRecDepth 100000
set_option maxHeartbeats 4000000
namespace KT
open PySem PySem.Spec PyProof.Rows L2 GxR
theorem Pg.Ok.line60 {g : Pg} (ok : g.Ok) : g.line.length ≤ 60 := by
  unfold Pg.line
  rw [List.getD_eq_getElem?_getD, List.getElem?_eq_getElem ok.row]
  exact ok.long _ (List.getElem_mem _)
theorem Pg.Ok.row60 {g : Pg} (ok : g.Ok) {i : Nat} (h : i < g.rows.length) : (g.rows.getD i []).length ≤ 60 := by
  rw [List.getD_eq_getElem?_getD, List.getElem?_eq_getElem h]
  exact ok.long _ (List.getElem_mem _)
theorem S16 {l : Ln} (h : l.length ≤ 1000) : (S l).length ≤ sizeLine := line16 (by rw [S_len]; omega)
/-- an action of no further argument -/
def spAct (K : PySem.W.Frag) (f : Pg → Option Pg) : Sp := fun vs H Q _ => ∃ p g, vs = [.ref p] ∧ PageAt K H p g ∧ g.Ok ∧ (∀ H', Kq [] H H' → f g = none → Q .non H') ∧ ∀ q H' g', Kq [] H H' → f g = some g' → PageAt K H' q g' → Q (.ref q) H'
/-- .. of a text -/
def spActS (K : PySem.W.Frag) (f : Ln → Pg → Option Pg) : Sp := fun vs H Q _ => ∃ p g s, vs = [.ref p, .str (S s)] ∧ PageAt K H p g ∧ g.Ok ∧ s.length ≤ 60 ∧ (∀ H', Kq [] H H' → f s g = none → Q .non H') ∧ ∀ q H' g', Kq [] H H' → f s g = some g' → PageAt K H' q g' → Q (.ref q) H'
section
variable {P : Program} {w : World} {K : PySem.W.Frag} {mg : Str → Option Value} {base : Heap}
theorem sc_write : FnScope ["page", "signs", "line", "written", "rows"] ["page", "signs"] (defScope s_write) := ⟨rfl, rfl, rfl, by decide +kernel, rfl, by decide +kernel, by decide +kernel⟩
theorem ok_write (T : Tx w K mg) : Fk P w K mg base 3 (Ad K d_write.at_) ["page", "signs"] (spActS K Pg.write) := by
  obtain ⟨t_MOST_SIGNS, h_MOST_SIGNS⟩ := T.i_MOST_SIGNS
  have F_Page___init__ := ok_Page___init__ (P := P) (base := base) T
  have F_line_at := ok_line_at (P := P) (base := base) T
  have F_with_lines := ok_with_lines (P := P) (base := base) T
  refine mkF T.f_write sc_write rfl (fun _ _ _ _ _ _ us hl => match us, hl with | [_, _], _ => rfl) (fun vs H Q E h => by obtain ⟨_, _, _, rfl, _⟩ := h; rfl) (fun cdv A outer s H vs Q E hcd hcode hr h => ?_)
  refine ⟨_, (pss_cons (ps_asg (pe_cF F_line_at (hr.mono (by decide)) T.g_line_at px (pa_cons (pv 0) pa_nil)) (pg_name (i := 2) sc_write.nd rfl (.inl rfl)))
      (pss_cons (ps_if (pt_cmpR op_gt (pe_op op_add (pe_callB call_len_str (by rfl) T.n_len (by decide +kernel) (pa_cons (pv 2) pa_nil)) (pe_callB call_len_str (by rfl) T.n_len (by decide +kernel) (pa_cons (pv 1) pa_nil))) (pe_glob (v := .int 60) (by rfl) h_MOST_SIGNS ⟨_, rfl⟩) (nomark _)) (pss_one (ps_ret pe_non)) pss_nil)
      (pss_cons (ps_asg (pe_op op_add_str (pe_op op_add_str (pe_slice sl_str (pv 2) po_none (po_some (pe_fld (pv 0) rfl))) (pv 1)) (pe_slice sl_str (pv 2) (po_some (pe_fld (pv 0) rfl)) po_none)) (pg_name (i := 3) sc_write.nd rfl (.inl rfl)))
      (pss_cons (ps_asg (pe_cF F_with_lines (hr.mono (by decide)) T.g_with_lines px (pa_cons (pv 0) (pa_cons (pe_fld (pv 0) rfl) (pa_cons pe_int (pa_cons (pe_tup (pa_cons (pv 3) pa_nil)) pa_nil))))) (pg_name (i := 4) sc_write.nd rfl (.inl rfl)))
      (pss_one (ps_ret (pe_kF (spN := sp_Page K) T.k_Page F_Page___init__ (hr.mono (by decide)) T.g_Page px new_Page (pa_cons (pv 4) (pa_cons (pe_fld (pv 0) rfl) (pa_cons (pe_op op_add (pe_fld (pv 0) rfl) (pe_callB call_len_str (by rfl) T.n_len (by decide +kernel) (pa_cons (pv 1) pa_nil))) (pa_cons (pe_fld (pv 0) rfl) pa_nil))))))))))), ?_⟩
  obtain ⟨p, g, ss, rfl, hP, ok, hs, kn, ks⟩ := h
  have h60 := ok.line60
  refine ⟨_, rfl, p, g, rfl, hP, ok.row, ?_⟩
  refine ⟨_, rfl, _, rfl, S16 (by omega), _, rfl, _, rfl, S16 (by omega), _, _, rfl, rfl, _, _, rfl, rfl, _, rfl, ?_⟩
  refine iteD (fun h1 => ?_) (fun h1 => ?_)
  · rw [S_len, S_len] at h1
    exact kn H Kq.refl (by unfold Pg.write; rw [if_pos (by omega)])
  rw [S_len, S_len] at h1
  refine ⟨_, rfl, _, rfl, rd_col T hP ⟨_, rfl, _, rfl, S16 (by omega), ?_⟩⟩
  rw [cut_to g.line (n := g.col) rfl]
  refine ⟨_, rfl, _, _, rfl, rfl, line16 (by rw [S_len, S_len, List.length_take]; omega), ?_⟩
  rw [S_app]
  refine ⟨_, rfl, _, rfl, rd_col T hP ⟨_, rfl, _, rfl, S16 (by omega), ?_⟩⟩
  rw [cut_from g.line (n := g.col) rfl]
  refine ⟨_, _, rfl, rfl, line16 (by rw [S_len, S_len, List.length_append, List.length_take, List.length_drop]; omega), ?_⟩
  rw [S_app]
  refine ⟨_, rfl, _, rfl, rd_row T hP ⟨_, rfl, line16 (by show 1 ≤ 1000000; decide), fun tp ntp => ?_⟩⟩
  refine ⟨p, g, _, _, tp, [_], g.row, 1, rfl, rfl, rfl, (Kq.alloc ntp).page hP, SqT.of upd_same, ok.row, by decide, ok.many, (by show 1 ≤ 2; decide), by simp, fun q H2 k2 a2 => ?_⟩
  have k12 := (Kq.alloc (S := []) (o := .tup [V.str (S (g.line.take g.col ++ ss ++ g.line.drop g.col))]) ntp).trans k2
  have hP2 := k12.page hP
  refine ⟨_, rfl, _, rfl, rd_row T hP2 ⟨_, rfl, rd_col T hP2 ⟨_, rfl, _, rfl, S16 (by omega), _, _, rfl, rfl, _, rfl, rd_clip T hP2 ?_⟩⟩⟩
  refine ⟨q, _, _, _, { rows := g.others g.row 1 [g.line.take g.col ++ ss ++ g.line.drop g.col], row := g.row, col := g.col + ss.length, clip := g.clip }, rfl, rfl, by rw [S_len]; simp, rfl, a2, fun q3 H3 k3 a3 => ?_⟩
  exact ks q3 H3 _ (k12.trans k3) (by unfold Pg.write; rw [if_neg (by omega)]) a3
theorem sc_break_row : FnScope ["page", "line", "rows"] ["page"] (defScope s_break_row) := ⟨rfl, rfl, rfl, by decide +kernel, rfl, by decide +kernel, by decide +kernel⟩
theorem ok_break_row (T : Tx w K mg) : Fk P w K mg base 3 (Ad K d_break_row.at_) ["page"] (spAct K Pg.brk) := by
  obtain ⟨t_MOST_ROWS, h_MOST_ROWS⟩ := T.i_MOST_ROWS
  have F_Page___init__ := ok_Page___init__ (P := P) (base := base) T
  have F_line_at := ok_line_at (P := P) (base := base) T
  have F_with_lines := ok_with_lines (P := P) (base := base) T
  refine mkF T.f_break_row sc_break_row rfl (fun _ _ _ _ _ _ us hl => match us, hl with | [_], _ => rfl) (fun vs H Q E h => by obtain ⟨_, _, rfl, _⟩ := h; rfl) (fun cdv A outer s H vs Q E hcd hcode hr h => ?_)
  refine ⟨_, (pss_cons (ps_if (pt_cmpR op_ge (pe_callB call_len_seq (by rfl) T.n_len (by decide +kernel) (pa_cons (pe_fld (pv 0) rfl) pa_nil)) (pe_glob (v := .int 12) (by rfl) h_MOST_ROWS ⟨_, rfl⟩) (nomark _)) (pss_one (ps_ret pe_non)) pss_nil)
      (pss_cons (ps_asg (pe_cF F_line_at (hr.mono (by decide)) T.g_line_at px (pa_cons (pv 0) pa_nil)) (pg_name (i := 1) sc_break_row.nd rfl (.inl rfl)))
      (pss_cons (ps_asg (pe_cF F_with_lines (hr.mono (by decide)) T.g_with_lines px (pa_cons (pv 0) (pa_cons (pe_fld (pv 0) rfl) (pa_cons pe_int (pa_cons (pe_tup (pa_cons (pe_slice sl_str (pv 1) po_none (po_some (pe_fld (pv 0) rfl))) (pa_cons (pe_slice sl_str (pv 1) (po_some (pe_fld (pv 0) rfl)) po_none) pa_nil))) pa_nil))))) (pg_name (i := 2) sc_break_row.nd rfl (.inl rfl)))
      (pss_one (ps_ret (pe_kF (spN := sp_Page K) T.k_Page F_Page___init__ (hr.mono (by decide)) T.g_Page px new_Page (pa_cons (pv 2) (pa_cons (pe_op op_add (pe_fld (pv 0) rfl) pe_int) (pa_cons pe_int (pa_cons (pe_fld (pv 0) rfl) pa_nil)))))))))), ?_⟩
  obtain ⟨p, g, rfl, hP, ok, kn, ks⟩ := h
  have h60 := ok.line60
  refine ⟨_, rfl, rd_rows T hP fun t ht => ⟨t, _, rfl, .inr ht, _, _, rfl, rfl, _, rfl, ?_⟩⟩
  rw [rowsV_len]
  refine iteD (fun h1 => ?_) (fun h1 => ?_)
  · exact kn H Kq.refl (by unfold Pg.brk; rw [if_pos (by omega)])
  refine ⟨_, rfl, p, g, rfl, hP, ok.row, ?_⟩
  refine ⟨_, rfl, _, rfl, rd_row T hP ⟨_, rfl, _, rfl, rd_col T hP ⟨_, rfl, _, rfl, S16 (by omega), _, rfl, _, rfl, rd_col T hP ⟨_, rfl, _, rfl, S16 (by omega), line16 (by show 2 ≤ 1000000; decide), fun tp ntp => ?_⟩⟩⟩⟩
  rw [cut_to g.line (n := g.col) rfl, cut_from g.line (n := g.col) rfl]
  refine ⟨p, g, _, _, tp, [_, _], g.row, 1, rfl, rfl, rfl, (Kq.alloc ntp).page hP, SqT.of upd_same, ok.row, by decide, ok.many, (by show 2 ≤ 2; decide), by simp, fun q H2 k2 a2 => ?_⟩
  have k12 := (Kq.alloc (S := []) (o := .tup [V.str (S (g.line.take g.col)), V.str (S (g.line.drop g.col))]) ntp).trans k2
  have hP2 := k12.page hP
  refine ⟨_, rfl, _, rfl, rd_row T hP2 ⟨_, _, rfl, rfl, _, rfl, rd_clip T hP2 ?_⟩⟩
  refine ⟨q, _, _, _, { rows := g.others g.row 1 [g.line.take g.col, g.line.drop g.col], row := g.row + 1, col := 0, clip := g.clip }, rfl, by simp, by simp, rfl, a2, fun q3 H3 k3 a3 => ?_⟩
  exact ks q3 H3 _ (k12.trans k3) (by unfold Pg.brk; rw [if_neg (by omega)]) a3
theorem sc_join_row : FnScope ["page", "above", "joined", "rows"] ["page"] (defScope s_join_row) := ⟨rfl, rfl, rfl, by decide +kernel, rfl, by decide +kernel, by decide +kernel⟩
theorem ok_join_row (T : Tx w K mg) : Fk P w K mg base 3 (Ad K d_join_row.at_) ["page"] (spAct K Pg.join) := by
  obtain ⟨t_MOST_SIGNS, h_MOST_SIGNS⟩ := T.i_MOST_SIGNS
  have F_Page___init__ := ok_Page___init__ (P := P) (base := base) T
  have F_line_at := ok_line_at (P := P) (base := base) T
  have F_with_lines := ok_with_lines (P := P) (base := base) T
  refine mkF T.f_join_row sc_join_row rfl (fun _ _ _ _ _ _ us hl => match us, hl with | [_], _ => rfl) (fun vs H Q E h => by obtain ⟨_, _, rfl, _⟩ := h; rfl) (fun cdv A outer s H vs Q E hcd hcode hr h => ?_)
  refine ⟨_, (pss_cons (ps_if (pt_cmpR op_eq (pe_fld (pv 0) rfl) pe_int (nomark _)) (pss_one (ps_ret pe_non)) pss_nil)
      (pss_cons (ps_asg (pe_ix ix_tup (pe_fld (pv 0) rfl) (pe_op op_sub (pe_fld (pv 0) rfl) pe_int) (fun _ _ => rfl)) (pg_name (i := 1) sc_join_row.nd rfl (.inl rfl)))
      (pss_cons (ps_asg (pe_op op_add_str (pv 1) (pe_cF F_line_at (hr.mono (by decide)) T.g_line_at px (pa_cons (pv 0) pa_nil))) (pg_name (i := 2) sc_join_row.nd rfl (.inl rfl)))
      (pss_cons (ps_if (pt_cmpR op_gt (pe_callB call_len_str (by rfl) T.n_len (by decide +kernel) (pa_cons (pv 2) pa_nil)) (pe_glob (v := .int 60) (by rfl) h_MOST_SIGNS ⟨_, rfl⟩) (nomark _)) (pss_one (ps_ret pe_non)) pss_nil)
      (pss_cons (ps_asg (pe_cF F_with_lines (hr.mono (by decide)) T.g_with_lines px (pa_cons (pv 0) (pa_cons (pe_op op_sub (pe_fld (pv 0) rfl) pe_int) (pa_cons pe_int (pa_cons (pe_tup (pa_cons (pv 2) pa_nil)) pa_nil))))) (pg_name (i := 3) sc_join_row.nd rfl (.inl rfl)))
      (pss_one (ps_ret (pe_kF (spN := sp_Page K) T.k_Page F_Page___init__ (hr.mono (by decide)) T.g_Page px new_Page (pa_cons (pv 3) (pa_cons (pe_op op_sub (pe_fld (pv 0) rfl) pe_int) (pa_cons (pe_callB call_len_str (by rfl) T.n_len (by decide +kernel) (pa_cons (pv 1) pa_nil)) (pa_cons (pe_fld (pv 0) rfl) pa_nil)))))))))))), ?_⟩
  obtain ⟨p, g, rfl, hP, ok, kn, ks⟩ := h
  have h60 := ok.line60
  refine ⟨_, rfl, rd_row T hP ⟨rfl, _, rfl, ?_⟩⟩
  refine iteD (fun h1 => ?_) (fun h1 => ?_)
  · have h1 : g.row = 0 := by simpa using h1
    exact kn H Kq.refl (by unfold Pg.join; rw [if_pos h1])
  have h1 : ¬ g.row = 0 := by simpa using h1
  have hrow := ok.row
  have habove : (g.rows.getD (g.row - 1) []).length ≤ 60 := ok.row60 (by omega)
  refine ⟨_, rfl, rd_rows T hP fun t ht => ⟨_, rfl, rd_row T hP ⟨_, _, rfl, rfl, t, _, _, _, rfl, rfl, ht, rows_at (n := g.row - 1) (by omega) (by omega), ?_⟩⟩⟩
  refine ⟨_, rfl, _, rfl, p, g, rfl, hP, ok.row, _, _, rfl, rfl, line16 (by rw [S_len, S_len]; omega), ?_⟩
  rw [S_app]
  refine ⟨_, rfl, _, rfl, S16 (by rw [List.length_append]; omega), _, _, rfl, rfl, _, rfl, ?_⟩
  rw [S_len]
  refine iteD (fun h2 => ?_) (fun h2 => ?_)
  · exact kn H Kq.refl (by unfold Pg.join; rw [if_neg h1, if_pos (by omega)])
  refine ⟨_, rfl, _, rfl, rd_row T hP ⟨_, _, rfl, rfl, _, rfl, line16 (by show 1 ≤ 1000000; decide), fun tp ntp => ?_⟩⟩
  refine ⟨p, g, _, _, tp, [_], g.row - 1, 2, rfl, by omega, rfl, (Kq.alloc ntp).page hP, SqT.of upd_same, by omega, by decide, ok.many, (by show 1 ≤ 2; decide), by simp, fun q H2 k2 a2 => ?_⟩
  have k12 := (Kq.alloc (S := []) (o := .tup [V.str (S (g.rows.getD (g.row - 1) [] ++ g.line))]) ntp).trans k2
  have hP2 := k12.page hP
  refine ⟨_, rfl, _, rfl, rd_row T hP2 ⟨_, _, rfl, rfl, _, rfl, _, rfl, S16 (by omega), _, rfl, rd_clip T hP2 ?_⟩⟩
  refine ⟨q, _, _, _, { rows := g.others (g.row - 1) 2 [g.rows.getD (g.row - 1) [] ++ g.line], row := g.row - 1, col := (g.rows.getD (g.row - 1) []).length, clip := g.clip }, rfl, (by show (g.row : Int) - 1 = ((g.row - 1 : Nat) : Int); omega), by rw [S_len], rfl, a2, fun q3 H3 k3 a3 => ?_⟩
  exact ks q3 H3 _ (k12.trans k3) (by unfold Pg.join; rw [if_neg h1, if_neg (by omega)]) a3
theorem sc_rub : FnScope ["page", "line", "rubbed", "rows"] ["page"] (defScope s_rub) := ⟨rfl, rfl, rfl, by decide +kernel, rfl, by decide +kernel, by decide +kernel⟩
theorem ok_rub (T : Tx w K mg) : Fk P w K mg base 4 (Ad K d_rub.at_) ["page"] (spAct K Pg.rub) := by
  have F_Page___init__ := ok_Page___init__ (P := P) (base := base) T
  have F_join_row := ok_join_row (P := P) (base := base) T
  have F_line_at := ok_line_at (P := P) (base := base) T
  have F_with_lines := ok_with_lines (P := P) (base := base) T
  refine mkF T.f_rub sc_rub rfl (fun _ _ _ _ _ _ us hl => match us, hl with | [_], _ => rfl) (fun vs H Q E h => by obtain ⟨_, _, rfl, _⟩ := h; rfl) (fun cdv A outer s H vs Q E hcd hcode hr h => ?_)
  refine ⟨_, (pss_cons (ps_if (pt_cmpR op_eq (pe_fld (pv 0) rfl) pe_int (nomark _)) (pss_one (ps_ret (pe_cF F_join_row (hr.mono (by decide)) T.g_join_row px (pa_cons (pv 0) pa_nil)))) pss_nil)
      (pss_cons (ps_asg (pe_cF F_line_at (hr.mono (by decide)) T.g_line_at px (pa_cons (pv 0) pa_nil)) (pg_name (i := 1) sc_rub.nd rfl (.inl rfl)))
      (pss_cons (ps_asg (pe_op op_add_str (pe_slice sl_str (pv 1) po_none (po_some (pe_op op_sub (pe_fld (pv 0) rfl) pe_int))) (pe_slice sl_str (pv 1) (po_some (pe_fld (pv 0) rfl)) po_none)) (pg_name (i := 2) sc_rub.nd rfl (.inl rfl)))
      (pss_cons (ps_asg (pe_cF F_with_lines (hr.mono (by decide)) T.g_with_lines px (pa_cons (pv 0) (pa_cons (pe_fld (pv 0) rfl) (pa_cons pe_int (pa_cons (pe_tup (pa_cons (pv 2) pa_nil)) pa_nil))))) (pg_name (i := 3) sc_rub.nd rfl (.inl rfl)))
      (pss_one (ps_ret (pe_kF (spN := sp_Page K) T.k_Page F_Page___init__ (hr.mono (by decide)) T.g_Page px new_Page (pa_cons (pv 3) (pa_cons (pe_fld (pv 0) rfl) (pa_cons (pe_op op_sub (pe_fld (pv 0) rfl) pe_int) (pa_cons (pe_fld (pv 0) rfl) pa_nil))))))))))), ?_⟩
  obtain ⟨p, g, rfl, hP, ok, kn, ks⟩ := h
  have h60 := ok.line60
  refine ⟨_, rfl, rd_col T hP ⟨rfl, _, rfl, ?_⟩⟩
  refine iteD (fun h1 => ?_) (fun h1 => ?_)
  · have h1 : g.col = 0 := by simpa using h1
    have e : g.rub = g.join := by unfold Pg.rub; rw [if_pos h1]
    exact ⟨_, rfl, p, g, rfl, hP, ok, fun H' k' z => kn H' k' (e.trans z), fun q H' g' k' z => ks q H' g' k' (e.trans z)⟩
  have h1 : ¬ g.col = 0 := by simpa using h1
  have hc := ok.col
  refine ⟨_, rfl, p, g, rfl, hP, ok.row, ?_⟩
  refine ⟨_, rfl, _, rfl, rd_col T hP ⟨_, _, rfl, rfl, _, rfl, _, rfl, S16 (by omega), _, rfl, _, rfl, rd_col T hP ⟨_, rfl, _, rfl, S16 (by omega), ?_⟩⟩⟩
  rw [cut_to g.line (n := g.col - 1) (by omega), cut_from g.line (n := g.col) rfl]
  refine ⟨_, _, rfl, rfl, line16 (by rw [S_len, S_len, List.length_take, List.length_drop]; omega), ?_⟩
  rw [S_app]
  refine ⟨_, rfl, _, rfl, rd_row T hP ⟨_, rfl, line16 (by show 1 ≤ 1000000; decide), fun tp ntp => ?_⟩⟩
  refine ⟨p, g, _, _, tp, [_], g.row, 1, rfl, rfl, rfl, (Kq.alloc ntp).page hP, SqT.of upd_same, ok.row, by decide, ok.many, (by show 1 ≤ 2; decide), by simp, fun q H2 k2 a2 => ?_⟩
  have k12 := (Kq.alloc (S := []) (o := .tup [V.str (S (g.line.take (g.col - 1) ++ g.line.drop g.col))]) ntp).trans k2
  have hP2 := k12.page hP
  refine ⟨_, rfl, _, rfl, rd_row T hP2 ⟨_, rfl, rd_col T hP2 ⟨_, _, rfl, rfl, _, rfl, rd_clip T hP2 ?_⟩⟩⟩
  refine ⟨q, _, _, _, { rows := g.others g.row 1 [g.line.take (g.col - 1) ++ g.line.drop g.col], row := g.row, col := g.col - 1, clip := g.clip }, rfl, rfl, (by show (g.col : Int) - 1 = ((g.col - 1 : Nat) : Int); omega), rfl, a2, fun q3 H3 k3 a3 => ?_⟩
  exact ks q3 H3 _ (k12.trans k3) (by unfold Pg.rub; rw [if_neg h1]) a3
theorem sc_go_left : FnScope ["page"] ["page"] (defScope s_go_left) := ⟨rfl, rfl, rfl, by decide +kernel, rfl, by decide +kernel, by decide +kernel⟩
theorem ok_go_left (T : Tx w K mg) : Fk P w K mg base 4 (Ad K d_go_left.at_) ["page"] (spAct K Pg.left) := by
  have F_moved := ok_moved (P := P) (base := base) T
  refine mkF T.f_go_left sc_go_left rfl (fun _ _ _ _ _ _ us hl => match us, hl with | [_], _ => rfl) (fun vs H Q E h => by obtain ⟨_, _, rfl, _⟩ := h; rfl) (fun cdv A outer s H vs Q E hcd hcode hr h => ?_)
  refine ⟨_, (pss_cons (ps_if (pt_cmpR op_gt (pe_fld (pv 0) rfl) pe_int (nomark _)) (pss_one (ps_ret (pe_cF F_moved (hr.mono (by decide)) T.g_moved px (pa_cons (pv 0) (pa_cons (pe_fld (pv 0) rfl) (pa_cons (pe_op op_sub (pe_fld (pv 0) rfl) pe_int) pa_nil)))))) pss_nil)
      (pss_cons (ps_if (pt_cmpR op_eq (pe_fld (pv 0) rfl) pe_int (nomark _)) (pss_one (ps_ret pe_non)) pss_nil)
      (pss_one (ps_ret (pe_cF F_moved (hr.mono (by decide)) T.g_moved px (pa_cons (pv 0) (pa_cons (pe_op op_sub (pe_fld (pv 0) rfl) pe_int) (pa_cons (pe_callB call_len_str (by rfl) T.n_len (by decide +kernel) (pa_cons (pe_ix ix_tup (pe_fld (pv 0) rfl) (pe_op op_sub (pe_fld (pv 0) rfl) pe_int) (fun _ _ => rfl)) pa_nil)) pa_nil)))))))), ?_⟩
  obtain ⟨p, g, rfl, hP, ok, kn, ks⟩ := h
  have hrow := ok.row
  refine ⟨_, rfl, rd_col T hP ⟨_, _, rfl, rfl, _, rfl, ?_⟩⟩
  refine iteD (fun h1 => ?_) (fun h1 => ?_)
  · refine ⟨_, rfl, _, rfl, rd_row T hP ⟨_, rfl, rd_col T hP ⟨_, _, rfl, rfl, p, g, _, _, g.row, g.col - 1, rfl, rfl, by omega, hP, fun q H' k' a' => ?_⟩⟩⟩
    exact ks q H' _ k' (by unfold Pg.left; rw [if_pos (by omega)]) a'
  refine ⟨_, rfl, rd_row T hP ⟨rfl, _, rfl, ?_⟩⟩
  refine iteD (fun h2 => ?_) (fun h2 => ?_)
  · have h2 : g.row = 0 := by simpa using h2
    exact kn H Kq.refl (by unfold Pg.left; rw [if_neg (by omega), if_pos h2])
  have h2 : ¬ g.row = 0 := by simpa using h2
  refine ⟨_, rfl, _, rfl, rd_row T hP ⟨_, _, rfl, rfl, _, rfl, rd_rows T hP fun t ht => ⟨_, rfl, rd_row T hP ⟨_, _, rfl, rfl, t, _, _, _, rfl, rfl, ht, rows_at (n := g.row - 1) (by omega) (by omega), _, rfl, S16 (Nat.le_trans (ok.row60 (by omega)) (by decide)), ?_⟩⟩⟩⟩
  refine ⟨p, g, _, _, g.row - 1, (g.rows.getD (g.row - 1) []).length, rfl, by omega, by rw [S_len], hP, fun q H' k' a' => ?_⟩
  exact ks q H' _ k' (by unfold Pg.left; rw [if_neg (by omega), if_neg h2]) a'
theorem sc_go_right : FnScope ["page"] ["page"] (defScope s_go_right) := ⟨rfl, rfl, rfl, by decide +kernel, rfl, by decide +kernel, by decide +kernel⟩
theorem ok_go_right (T : Tx w K mg) : Fk P w K mg base 4 (Ad K d_go_right.at_) ["page"] (spAct K Pg.right) := by
  have F_line_at := ok_line_at (P := P) (base := base) T
  have F_moved := ok_moved (P := P) (base := base) T
  refine mkF T.f_go_right sc_go_right rfl (fun _ _ _ _ _ _ us hl => match us, hl with | [_], _ => rfl) (fun vs H Q E h => by obtain ⟨_, _, rfl, _⟩ := h; rfl) (fun cdv A outer s H vs Q E hcd hcode hr h => ?_)
  refine ⟨_, (pss_cons (ps_if (pt_cmpR op_lt (pe_fld (pv 0) rfl) (pe_callB call_len_str (by rfl) T.n_len (by decide +kernel) (pa_cons (pe_cF F_line_at (hr.mono (by decide)) T.g_line_at px (pa_cons (pv 0) pa_nil)) pa_nil)) (nomark _)) (pss_one (ps_ret (pe_cF F_moved (hr.mono (by decide)) T.g_moved px (pa_cons (pv 0) (pa_cons (pe_fld (pv 0) rfl) (pa_cons (pe_op op_add (pe_fld (pv 0) rfl) pe_int) pa_nil)))))) pss_nil)
      (pss_cons (ps_if (pt_cmpR op_eq (pe_op op_add (pe_fld (pv 0) rfl) pe_int) (pe_callB call_len_seq (by rfl) T.n_len (by decide +kernel) (pa_cons (pe_fld (pv 0) rfl) pa_nil)) (nomark _)) (pss_one (ps_ret pe_non)) pss_nil)
      (pss_one (ps_ret (pe_cF F_moved (hr.mono (by decide)) T.g_moved px (pa_cons (pv 0) (pa_cons (pe_op op_add (pe_fld (pv 0) rfl) pe_int) (pa_cons pe_int pa_nil)))))))), ?_⟩
  obtain ⟨p, g, rfl, hP, ok, kn, ks⟩ := h
  have hrow := ok.row
  have h60 := ok.line60
  refine ⟨_, rfl, rd_col T hP ⟨_, rfl, p, g, rfl, hP, hrow, _, rfl, S16 (by omega), _, _, rfl, rfl, _, rfl, ?_⟩⟩
  rw [S_len]
  refine iteD (fun h1 => ?_) (fun h1 => ?_)
  · refine ⟨_, rfl, _, rfl, rd_row T hP ⟨_, rfl, rd_col T hP ⟨_, _, rfl, rfl, p, g, _, _, g.row, g.col + 1, rfl, rfl, by omega, hP, fun q H' k' a' => ?_⟩⟩⟩
    exact ks q H' _ k' (by unfold Pg.right; rw [if_pos (by omega)]) a'
  refine ⟨_, rfl, rd_row T hP ⟨_, _, rfl, rfl, _, rfl, rd_rows T hP fun t ht => ⟨t, _, rfl, .inr ht, rfl, _, rfl, ?_⟩⟩⟩
  rw [rowsV_len]
  refine iteD (fun h2 => ?_) (fun h2 => ?_)
  · have h2 : (g.row : Int) + 1 = (g.rows.length : Int) := by simpa using h2
    exact kn H Kq.refl (by unfold Pg.right; rw [if_neg (by omega), if_pos (by omega)])
  have h2 : ¬ (g.row : Int) + 1 = (g.rows.length : Int) := by simpa using h2
  refine ⟨_, rfl, _, rfl, rd_row T hP ⟨_, _, rfl, rfl, p, g, _, _, g.row + 1, 0, rfl, by omega, rfl, hP, fun q H' k' a' => ?_⟩⟩
  exact ks q H' _ k' (by unfold Pg.right; rw [if_neg (by omega), if_neg (by omega)]) a'
def spToRow (K : PySem.W.Frag) : Sp := fun vs H Q _ => ∃ p g i, vs = [.ref p, .int i] ∧ PageAt K H p g ∧ g.Ok ∧ (∀ H', Kq [] H H' → Pg.toRow i g = none → Q .non H') ∧ ∀ q H' g', Kq [] H H' → Pg.toRow i g = some g' → PageAt K H' q g' → Q (.ref q) H'
theorem sc_go_to_row : FnScope ["page", "row"] ["page", "row"] (defScope s_go_to_row) := ⟨rfl, rfl, rfl, by decide +kernel, rfl, by decide +kernel, by decide +kernel⟩
theorem ok_go_to_row (T : Tx w K mg) : Fk P w K mg base 4 (Ad K d_go_to_row.at_) ["page", "row"] (spToRow K) := by
  have F_moved := ok_moved (P := P) (base := base) T
  refine mkF T.f_go_to_row sc_go_to_row rfl (fun _ _ _ _ _ _ us hl => match us, hl with | [_, _], _ => rfl) (fun vs H Q E h => by obtain ⟨_, _, _, rfl, _⟩ := h; rfl) (fun cdv A outer s H vs Q E hcd hcode hr h => ?_)
  refine ⟨_, (pss_cons (ps_if ((pw_or (pt_cmpR op_lt (pv 1) pe_int (nomark _)) (pw_or1 (pt_cmpR op_ge (pv 1) (pe_callB call_len_seq (by rfl) T.n_len (by decide +kernel) (pa_cons (pe_fld (pv 0) rfl) pa_nil)) (nomark _))))).pt (pss_one (ps_ret pe_non)) pss_nil)
      (pss_one (ps_ret (pe_cF F_moved (hr.mono (by decide)) T.g_moved px (pa_cons (pv 0) (pa_cons (pv 1) (pa_cons (pe_callB (call_min2 rfl) (by rfl) T.n_min (by decide +kernel) (pa_cons (pe_fld (pv 0) rfl) (pa_cons (pe_callB call_len_str (by rfl) T.n_len (by decide +kernel) (pa_cons (pe_ix ix_tup (pe_fld (pv 0) rfl) (pv 1) (fun _ _ => rfl)) pa_nil)) pa_nil))) pa_nil))))))), ?_⟩
  obtain ⟨p, g, i, rfl, hP, ok, kn, ks⟩ := h
  refine ⟨_, rfl, _, _, rfl, rfl, _, rfl, ?_⟩
  refine iteD (fun h1 => iteT ?_) (fun h1 => ?_)
  · exact kn H Kq.refl (by unfold Pg.toRow; rw [if_pos (Or.inl h1)])
  refine ⟨_, rfl, _, rfl, rd_rows T hP fun t ht => ⟨t, _, rfl, .inr ht, _, _, rfl, rfl, _, rfl, ?_⟩⟩
  rw [rowsV_len]
  refine iteD (fun h2 => ?_) (fun h2 => ?_)
  · exact kn H Kq.refl (by unfold Pg.toRow; rw [if_pos (Or.inr h2)])
  obtain ⟨n, rfl⟩ : ∃ n : Nat, i = (n : Int) := ⟨i.toNat, by omega⟩
  refine ⟨_, rfl, _, rfl, _, rfl, rd_col T hP ⟨_, rfl, rd_rows T hP fun t ht => ⟨_, rfl, t, _, _, _, rfl, rfl, ht, rows_at (n := n) rfl (by omega), _, rfl, S16 (Nat.le_trans (ok.row60 (by omega)) (by decide)), _, _, rfl, ?_⟩⟩⟩
  rw [S_len]
  refine ⟨p, g, _, _, n, min g.col (g.rows.getD n []).length, rfl, rfl, ?_, hP, fun q H' k' a' => ?_⟩
  · split <;> omega
  exact ks q H' _ k' (by unfold Pg.toRow; rw [if_neg (by omega)]; rfl) a'
theorem sc_go_up : FnScope ["page"] ["page"] (defScope s_go_up) := ⟨rfl, rfl, rfl, by decide +kernel, rfl, by decide +kernel, by decide +kernel⟩
theorem ok_go_up (T : Tx w K mg) : Fk P w K mg base 5 (Ad K d_go_up.at_) ["page"] (spAct K Pg.up) := by
  have F_go_to_row := ok_go_to_row (P := P) (base := base) T
  refine mkF T.f_go_up sc_go_up rfl (fun _ _ _ _ _ _ us hl => match us, hl with | [_], _ => rfl) (fun vs H Q E h => by obtain ⟨_, _, rfl, _⟩ := h; rfl) (fun cdv A outer s H vs Q E hcd hcode hr h => ?_)
  refine ⟨_, (pss_one (ps_ret (pe_cF F_go_to_row (hr.mono (by decide)) T.g_go_to_row px (pa_cons (pv 0) (pa_cons (pe_op op_sub (pe_fld (pv 0) rfl) pe_int) pa_nil))))), ?_⟩
  obtain ⟨p, g, rfl, hP, ok, kn, ks⟩ := h
  exact ⟨_, rfl, _, rfl, rd_row T hP ⟨_, _, rfl, rfl, p, g, _, rfl, hP, ok, fun H' k' z => kn H' k' z, fun q H' g' k' z => ks q H' g' k' z⟩⟩
theorem sc_go_down : FnScope ["page"] ["page"] (defScope s_go_down) := ⟨rfl, rfl, rfl, by decide +kernel, rfl, by decide +kernel, by decide +kernel⟩
theorem ok_go_down (T : Tx w K mg) : Fk P w K mg base 5 (Ad K d_go_down.at_) ["page"] (spAct K Pg.down) := by
  have F_go_to_row := ok_go_to_row (P := P) (base := base) T
  refine mkF T.f_go_down sc_go_down rfl (fun _ _ _ _ _ _ us hl => match us, hl with | [_], _ => rfl) (fun vs H Q E h => by obtain ⟨_, _, rfl, _⟩ := h; rfl) (fun cdv A outer s H vs Q E hcd hcode hr h => ?_)
  refine ⟨_, (pss_one (ps_ret (pe_cF F_go_to_row (hr.mono (by decide)) T.g_go_to_row px (pa_cons (pv 0) (pa_cons (pe_op op_add (pe_fld (pv 0) rfl) pe_int) pa_nil))))), ?_⟩
  obtain ⟨p, g, rfl, hP, ok, kn, ks⟩ := h
  exact ⟨_, rfl, _, rfl, rd_row T hP ⟨_, _, rfl, rfl, p, g, _, rfl, hP, ok, fun H' k' z => kn H' k' z, fun q H' g' k' z => ks q H' g' k' z⟩⟩
theorem sc_go_home : FnScope ["page"] ["page"] (defScope s_go_home) := ⟨rfl, rfl, rfl, by decide +kernel, rfl, by decide +kernel, by decide +kernel⟩
theorem ok_go_home (T : Tx w K mg) : Fk P w K mg base 4 (Ad K d_go_home.at_) ["page"] (spAct K Pg.home) := by
  have F_moved := ok_moved (P := P) (base := base) T
  refine mkF T.f_go_home sc_go_home rfl (fun _ _ _ _ _ _ us hl => match us, hl with | [_], _ => rfl) (fun vs H Q E h => by obtain ⟨_, _, rfl, _⟩ := h; rfl) (fun cdv A outer s H vs Q E hcd hcode hr h => ?_)
  refine ⟨_, (pss_one (ps_ret (pe_cF F_moved (hr.mono (by decide)) T.g_moved px (pa_cons (pv 0) (pa_cons (pe_fld (pv 0) rfl) (pa_cons pe_int pa_nil)))))), ?_⟩
  obtain ⟨p, g, rfl, hP, ok, kn, ks⟩ := h
  exact ⟨_, rfl, _, rfl, rd_row T hP ⟨p, g, _, _, g.row, 0, rfl, rfl, rfl, hP, fun q H' k' a' => ks q H' _ k' rfl a'⟩⟩
theorem sc_go_end : FnScope ["page"] ["page"] (defScope s_go_end) := ⟨rfl, rfl, rfl, by decide +kernel, rfl, by decide +kernel, by decide +kernel⟩
theorem ok_go_end (T : Tx w K mg) : Fk P w K mg base 4 (Ad K d_go_end.at_) ["page"] (spAct K Pg.end_) := by
  have F_line_at := ok_line_at (P := P) (base := base) T
  have F_moved := ok_moved (P := P) (base := base) T
  refine mkF T.f_go_end sc_go_end rfl (fun _ _ _ _ _ _ us hl => match us, hl with | [_], _ => rfl) (fun vs H Q E h => by obtain ⟨_, _, rfl, _⟩ := h; rfl) (fun cdv A outer s H vs Q E hcd hcode hr h => ?_)
  refine ⟨_, (pss_one (ps_ret (pe_cF F_moved (hr.mono (by decide)) T.g_moved px (pa_cons (pv 0) (pa_cons (pe_fld (pv 0) rfl) (pa_cons (pe_callB call_len_str (by rfl) T.n_len (by decide +kernel) (pa_cons (pe_cF F_line_at (hr.mono (by decide)) T.g_line_at px (pa_cons (pv 0) pa_nil)) pa_nil)) pa_nil)))))), ?_⟩
  obtain ⟨p, g, rfl, hP, ok, kn, ks⟩ := h
  have h60 := ok.line60
  exact ⟨_, rfl, _, rfl, rd_row T hP ⟨_, rfl, p, g, rfl, hP, ok.row, _, rfl, S16 (by omega), p, g, _, _, g.row, g.line.length, rfl, rfl, by rw [S_len], hP, fun q H' k' a' => ks q H' _ k' rfl a'⟩⟩
theorem sc_lay : FnScope ["page"] ["page"] (defScope s_lay) := ⟨rfl, rfl, rfl, by decide +kernel, rfl, by decide +kernel, by decide +kernel⟩
theorem ok_lay (T : Tx w K mg) : Fk P w K mg base 4 (Ad K d_lay.at_) ["page"] (spAct K Pg.lay) := by
  have F_write := ok_write (P := P) (base := base) T
  refine mkF T.f_lay sc_lay rfl (fun _ _ _ _ _ _ us hl => match us, hl with | [_], _ => rfl) (fun vs H Q E h => by obtain ⟨_, _, rfl, _⟩ := h; rfl) (fun cdv A outer s H vs Q E hcd hcode hr h => ?_)
  refine ⟨_, (pss_cons (ps_if (pt_cmpR op_eq (pe_fld (pv 0) rfl) pe_str (nomark _)) (pss_one (ps_ret pe_non)) pss_nil)
      (pss_one (ps_ret (pe_cF F_write (hr.mono (by decide)) T.g_write px (pa_cons (pv 0) (pa_cons (pe_fld (pv 0) rfl) pa_nil)))))), ?_⟩
  obtain ⟨p, g, rfl, hP, ok, kn, ks⟩ := h
  refine ⟨_, rfl, rd_clip T hP ⟨rfl, _, rfl, ?_⟩⟩
  refine iteD (fun h1 => ?_) (fun h1 => ?_)
  · have h1 : g.clip = [] := S_inj (V.str.inj h1)
    exact kn H Kq.refl (by unfold Pg.lay; rw [if_pos h1])
  have h1 : ¬ g.clip = [] := fun e => h1 (by rw [e]; rfl)
  have e : g.lay = g.write g.clip := by unfold Pg.lay; rw [if_neg h1]
  exact ⟨_, rfl, _, rfl, rd_clip T hP ⟨p, g, g.clip, rfl, hP, ok, ok.clip, fun H' k' z => kn H' k' (e.trans z), fun q H' g' k' z => ks q H' g' k' (e.trans z)⟩⟩
end
end KT
set_option Elab.async false
set_option linter.all false
set_option maxRecDepth 100000
set_option maxHeartbeats 4000000
namespace KT
open PySem PySem.Spec PyProof.Rows L2 GxR
/-! ### the next place of a word -/
theorem stands_at (w l : Ln) (c : Nat) : StrLaws.At (S l) (S w) (S l).length c ↔ stands w l c = true := by
  unfold StrLaws.At stands
  rw [StrLaws.subAt_eq, S_len, S_len]
  have e1 : (S l).cps.toList = l := by simp
  have e2 : (S w).cps.toList = w := by simp
  rw [e1, e2]
  simp
theorem firstAt_none {w l : Ln} : ∀ {n c : Nat}, firstAt w l c n = none ↔ ∀ i, c ≤ i → i < c + n → stands w l i = false
  | 0, c => by simp [firstAt]; intro i h1 h2; omega
  | n + 1, c => by
    unfold firstAt
    by_cases h : stands w l c = true
    · rw [if_pos h]
      constructor
      · intro e; cases e
      · intro e; rw [e c (Nat.le_refl _) (by omega)] at h; cases h
    · rw [if_neg h, firstAt_none]
      constructor
      · intro e i h1 h2
        by_cases hi : i = c
        · subst hi; simpa using h
        · exact e i (by omega) (by omega)
      · intro e i h1 h2; exact e i (by omega) (by omega)
theorem firstAt_some {w l : Ln} {j : Nat} : ∀ {n c : Nat}, firstAt w l c n = some j ↔ c ≤ j ∧ j < c + n ∧ stands w l j = true ∧ ∀ i, c ≤ i → i < j → stands w l i = false
  | 0, c => by simp [firstAt]; intro h1 h2; omega
  | n + 1, c => by
    unfold firstAt
    by_cases h : stands w l c = true
    · rw [if_pos h]
      constructor
      · intro e; cases e; exact ⟨Nat.le_refl _, by omega, h, fun i h1 h2 => by omega⟩
      · rintro ⟨h1, h2, h3, h4⟩
        by_cases hj : c = j
        · rw [hj]
        · rw [h4 c (Nat.le_refl _) (by omega)] at h; cases h
    · rw [if_neg h, firstAt_some]
      constructor
      · rintro ⟨h1, h2, h3, h4⟩
        refine ⟨by omega, by omega, h3, fun i h5 h6 => ?_⟩
        by_cases hi : i = c
        · subst hi; simpa using h
        · exact h4 i (by omega) h6
      · rintro ⟨h1, h2, h3, h4⟩
        have : c ≠ j := fun e => by subst e; exact h h3
        exact ⟨by omega, by omega, h3, fun i h5 h6 => h4 i (by omega) h6⟩
theorem seek_cons (w l : Ln) (r : List Ln) (k c : Nat) : seek w (l :: r) k c = match findL w l c with | some j => some (k, j) | none => seek w r (k + 1) 0 := rfl
theorem find3_eq (l w : Ln) (c : Nat) : Txt.find3 (S l) (S w) (c : Int) = match findL w l c with | some j => (j : Int) | none => -1 := by
  unfold Txt.find3
  have ec : fromIndex (S l).length (c : Int) = c := by
    unfold fromIndex
    rw [if_neg (by omega)]
    omega
  rw [ec, StrLaws.occ_eq]
  rcases StrLaws.occ_first (S l) (S w) (S l).length 1 (Nat.le_refl _) (List.range' c ((S l).length + 1 - c)) c (fun i hi => by rw [List.mem_range'] at hi; obtain ⟨k, _, rfl⟩ := hi; omega) with ⟨h0, hn⟩ | ⟨pre, a, post, e, h0, ha, hn⟩
  · rw [h0]
    have : findL w l c = none := by
      unfold findL
      rw [firstAt_none]
      intro i h1 h2
      have := hn i (by rw [List.mem_range']; exact ⟨i - c, by rw [S_len]; omega, by omega⟩)
      rw [stands_at] at this
      simpa using this
    rw [this]
  · have hp : ∀ i, c ≤ i → i < a → i ∈ pre := by
      have hL : ((S l).length + 1 - c) = pre.length + (post.length + 1) := by
        have := congrArg List.length e
        simpa using this
      have hlen : c + pre.length = a := by
        have h1 : (List.range' c ((S l).length + 1 - c))[pre.length]? = some a := by rw [e]; simp
        rw [List.getElem?_range' (by omega)] at h1
        simpa using h1
      intro i h1 h2
      have h3 : (List.range' c ((S l).length + 1 - c))[i - c]? = pre[i - c]? := by rw [e, List.getElem?_append_left (by omega)]
      rw [List.getElem?_range' (by omega)] at h3
      have : pre[i - c]? = some i := by rw [← h3]; congr 1; omega
      exact List.mem_of_getElem? this
    have hmem : a ∈ List.range' c ((S l).length + 1 - c) := by rw [e]; simp
    rw [List.mem_range'] at hmem
    obtain ⟨k, hk, ea⟩ := hmem
    have : findL w l c = some a := by
      unfold findL
      rw [firstAt_some]
      refine ⟨by omega, by rw [S_len] at hk; omega, (stands_at w l a).mp ha, fun i h1 h2 => ?_⟩
      have := hn i (hp i h1 h2)
      rw [stands_at] at this
      simpa using this
    rw [this]
    generalize (forIn (List.range' c ((S l).length + 1 - c)) ((#[] : Array Nat), c) (StrLaws.occBody (S l) (S w) (S l).length 1)).run.fst = arr at h0
    have h1 : arr.toList[0]? = some a := by simpa using h0
    cases hL : arr.toList with
    | nil => rw [hL] at h1; cases h1
    | cons b r => rw [hL] at h1; cases h1; rfl
theorem one_lt (a b : Nat) : ([a] < [b]) ↔ a < b := by
  constructor
  · intro h
    cases h with
    | rel h => exact h
    | cons h => cases h
  · intro h
    exact List.Lex.rel h
theorem sign_lo (c : Nat) : ((⟨#[c]⟩ : Str).cps.toList < (Str.ofString "a").cps.toList) ↔ c < 97 := by
  rw [show (Str.ofString "a").cps.toList = [97] by decide +kernel]
  exact one_lt c 97
theorem sign_hi (c : Nat) : ((Str.ofString "z").cps.toList < (⟨#[c]⟩ : Str).cps.toList) ↔ 122 < c := by
  rw [show (Str.ofString "z").cps.toList = [122] by decide +kernel]
  exact one_lt 122 c
theorem takeWhile_len {α : Type} (q : α → Bool) (d : α) : ∀ (l : List α) (n : Nat), n ≤ l.length → (∀ i, i < n → q (l.getD i d) = true) → (n = l.length ∨ q (l.getD n d) = false) → (l.takeWhile q).length = n
  | [], n, h, _, _ => by simp at h; subst h; rfl
  | a :: r, 0, _, _, h2 => by
    rcases h2 with h2 | h2
    · simp at h2
    · have : q a = false := by simpa using h2
      rw [List.takeWhile_cons, this]; rfl
  | a :: r, n + 1, h, h1, h2 => by
    have ha : q a = true := by simpa using h1 0 (by omega)
    rw [List.takeWhile_cons, ha]
    show (r.takeWhile q).length + 1 = n + 1
    rw [takeWhile_len q d r n (by simpa using h) (fun i hi => by simpa using h1 (i + 1) (by omega)) (by simpa using h2)]
theorem lets_eq {l : Ln} {c e : Nat} (h : ∀ i, c ≤ i → i < e → isLet (l.getD i 0) = true) (h1 : c ≤ e) (h2 : e ≤ l.length) (h3 : e = l.length ∨ isLet (l.getD e 0) = false) : lets (l.drop c) = e - c := by
  unfold lets
  have g : ∀ i, (l.drop c).getD i 0 = l.getD (c + i) 0 := fun i => by rw [List.getD_eq_getElem?_getD, List.getElem?_drop, List.getD_eq_getElem?_getD]
  refine takeWhile_len isLet 0 (l.drop c) (e - c) (by rw [List.length_drop]; omega) (fun i hi => ?_) ?_
  · rw [g]; exact h _ (by omega) (by omega)
  · rw [g, List.length_drop, show c + (e - c) = e by omega]
    rcases h3 with h3 | h3
    · left; omega
    · right; exact h3
section
variable {P : Program} {w : World} {K : PySem.W.Frag} {mg : Str → Option Value} {base : Heap}
theorem sc_find_word : FnScope ["page", "word", "start", "row", "column"] ["page", "word"] (defScope s_find_word) := ⟨rfl, rfl, rfl, by decide +kernel, rfl, by decide +kernel, by decide +kernel⟩
theorem ok_find_word (T : Tx w K mg) : Fk P w K mg base 4 (Ad K d_find_word.at_) ["page", "word"] (spActS K Pg.find) := by
  have F_moved := ok_moved (P := P) (base := base) T
  refine mkF T.f_find_word sc_find_word rfl (fun _ _ _ _ _ _ us hl => match us, hl with | [_, _], _ => rfl) (fun vs H Q E h => by obtain ⟨_, _, _, rfl, _⟩ := h; rfl) (fun cdv A outer s H vs Q E hcd hcode hr h => ?_)
  have po : PassesOwn (model P w) (CxD P w K mg base ["page", "word", "start", "row", "column"] d_find_word cdv A outer s H E).A (CxD P w K mg base ["page", "word", "start", "row", "column"] d_find_word cdv A outer s H E).env (CxD P w K mg base ["page", "word", "start", "row", "column"] d_find_word cdv A outer s H E).xe := passes_of rfl
  refine ⟨_, (pss_cons (ps_asg (pe_op op_add (pe_fld (pv 0) rfl) pe_int) (pg_name (i := 2) sc_find_word.nd rfl (.inl rfl)))
      (pss_cons (ps_for po rfl (pi_range2 (by rfl) T.n_range (pa_cons (pe_fld (pv 0) rfl) (pa_cons (pe_callB call_len_seq (by rfl) T.n_len (by decide +kernel) (pa_cons (pe_fld (pv 0) rfl) pa_nil)) pa_nil))) (pg_name (i := 3) sc_find_word.nd rfl (.inl rfl)) (pss_cons (ps_asg (pe_bm PySem.F.plainAttrs_str PySem.F.slot_str_find PySem.F.type_str_find mt_find3 (pe_ix ix_tup (pe_fld (pv 0) rfl) (pv 3) (fun _ _ => rfl)) (pa_cons (pv 1) (pa_cons (pv 2) pa_nil))) (pg_name (i := 4) sc_find_word.nd rfl (.inl rfl)))
      (pss_cons (ps_if (pt_cmpR op_ge (pv 4) pe_int (nomark _)) (pss_one (ps_ret (pe_cF F_moved (hr.mono (by decide)) T.g_moved px (pa_cons (pv 0) (pa_cons (pv 3) (pa_cons (pv 4) pa_nil)))))) pss_nil)
      (pss_one (ps_asg pe_int (pg_name (i := 2) sc_find_word.nd rfl (.inl rfl)))))))
      (pss_one (ps_ret pe_non)))), ?_⟩
  obtain ⟨p, g, ws, rfl, hP, ok, hs, kn, ks⟩ := h
  have hrow := ok.row
  have hm := ok.many
  refine ⟨_, rfl, rd_col T hP ⟨_, _, rfl, rfl, ?_⟩⟩
  refine ⟨_, rfl, rd_row T hP ⟨_, rfl, rd_rows T hP fun t ht => ⟨t, _, rfl, .inr ht, (g.row : Int), _, rfl, ⟨by omega, by omega, by omega, by rw [rowsV_len]; omega⟩, ?_⟩⟩⟩
  rw [rowsV_len]
  refine for_range (lo := (g.row : Int)) (n := ((g.rows.length : Int) - (g.row : Int)).toNat) (fun i σ H' => H' = H ∧ ∃ (st : Nat) (v3 v4 : Option V), σ = [some (.ref p), some (.str (S ws)), some (.int (st : Int)), v3, v4] ∧
    seek ws (g.rows.drop g.row) g.row (g.col + 1) = seek ws (g.rows.drop (g.row + i)) (g.row + i) st) ⟨rfl, g.col + 1, none, none, rfl, rfl⟩ ?_ ?_
  · rintro i σ H' hi ⟨rfl, st, v3, v4, rfl, hs4⟩
    have hi2 : g.row + i < g.rows.length := by omega
    refine ⟨_, rfl, rd_rows T hP fun t ht => ⟨_, rfl, t, _, _, _, rfl, rfl, ht, rows_at (n := g.row + i) (by omega) hi2, rfl, _, rfl, _, rfl, _, _, _, rfl, rfl, ?_⟩⟩
    rw [find3_eq]
    rw [List.drop_eq_getElem_cons hi2] at hs4
    have el : g.rows[g.row + i] = g.rows.getD (g.row + i) [] := by rw [List.getD_eq_getElem?_getD, List.getElem?_eq_getElem hi2]; rfl
    rw [el] at hs4
    rw [seek_cons] at hs4
    cases hf : findL ws (g.rows.getD (g.row + i) []) st with
    | some j =>
      rw [hf] at hs4
      refine ⟨_, rfl, _, _, rfl, rfl, _, rfl, ?_⟩
      refine iteD (fun h1 => ?_) (fun h1 => absurd (by show (0 : Int) ≤ (j : Int); omega) h1)
      refine ⟨_, rfl, _, rfl, _, rfl, p, g, _, _, g.row + i, j, rfl, by omega, rfl, hP, fun q H2 k2 a2 => ?_⟩
      exact ks q H2 _ k2 (by unfold Pg.find; rw [hs4]; rfl) a2
    | none =>
      rw [hf] at hs4
      refine ⟨_, rfl, _, _, rfl, rfl, _, rfl, ?_⟩
      refine iteD (fun h1 => absurd (show (0 : Int) ≤ -1 from h1) (by decide)) (fun h1 => ?_)
      exact ⟨rfl, 0, _, _, rfl, hs4⟩
  · rintro σ H' ⟨rfl, st, v3, v4, rfl, hs4⟩
    refine kn H' Kq.refl ?_
    unfold Pg.find
    rw [hs4, List.drop_eq_nil_of_le (by omega)]
    rfl
theorem sc_take : FnScope ["page", "line", "end", "rows"] ["page"] (defScope s_take) := ⟨rfl, rfl, rfl, by decide +kernel, rfl, by decide +kernel, by decide +kernel⟩
theorem ok_take (T : Tx w K mg) : Fk P w K mg base 3 (Ad K d_take.at_) ["page"] (spAct K Pg.take) := by
  have F_Page___init__ := ok_Page___init__ (P := P) (base := base) T
  have F_line_at := ok_line_at (P := P) (base := base) T
  have F_with_lines := ok_with_lines (P := P) (base := base) T
  refine mkF T.f_take sc_take rfl (fun _ _ _ _ _ _ us hl => match us, hl with | [_], _ => rfl) (fun vs H Q E h => by obtain ⟨_, _, rfl, _⟩ := h; rfl) (fun cdv A outer s H vs Q E hcd hcode hr h => ?_)
  have po : PassesOwn (model P w) (CxD P w K mg base ["page", "line", "end", "rows"] d_take cdv A outer s H E).A (CxD P w K mg base ["page", "line", "end", "rows"] d_take cdv A outer s H E).env (CxD P w K mg base ["page", "line", "end", "rows"] d_take cdv A outer s H E).xe := passes_of rfl
  refine ⟨_, (pss_cons (ps_asg (pe_cF F_line_at (hr.mono (by decide)) T.g_line_at px (pa_cons (pv 0) pa_nil)) (pg_name (i := 1) sc_take.nd rfl (.inl rfl)))
      (pss_cons (ps_asg (pe_fld (pv 0) rfl) (pg_name (i := 2) sc_take.nd rfl (.inl rfl)))
      (pss_cons (ps_while po ((pw_and (pt_cmpR op_lt (pv 2) (pe_callB call_len_str (by rfl) T.n_len (by decide +kernel) (pa_cons (pv 1) pa_nil)) (nomark _)) (pw_and1 (pt_chain op_le_str op_le_str pe_str (pe_ix ix_str (pv 1) (pv 2) (fun _ _ => rfl)) pe_str)))).pt (pss_one (ps_aug (i := 2) sc_take.nd rfl (.inl rfl) pe_int ip_add)))
      (pss_cons (ps_if (pt_cmpR op_eq (pv 2) (pe_fld (pv 0) rfl) (nomark _)) (pss_one (ps_ret pe_non)) pss_nil)
      (pss_cons (ps_asg (pe_cF F_with_lines (hr.mono (by decide)) T.g_with_lines px (pa_cons (pv 0) (pa_cons (pe_fld (pv 0) rfl) (pa_cons pe_int (pa_cons (pe_tup (pa_cons (pe_op op_add_str (pe_slice sl_str (pv 1) po_none (po_some (pe_fld (pv 0) rfl))) (pe_slice sl_str (pv 1) (po_some (pv 2)) po_none)) pa_nil)) pa_nil))))) (pg_name (i := 3) sc_take.nd rfl (.inl rfl)))
      (pss_one (ps_ret (pe_kF (spN := sp_Page K) T.k_Page F_Page___init__ (hr.mono (by decide)) T.g_Page px new_Page (pa_cons (pv 3) (pa_cons (pe_fld (pv 0) rfl) (pa_cons (pe_fld (pv 0) rfl) (pa_cons (pe_slice sl_str (pv 1) (po_some (pe_fld (pv 0) rfl)) (po_some (pv 2))) pa_nil)))))))))))), ?_⟩
  obtain ⟨p, g, rfl, hP, ok, kn, ks⟩ := h
  have h60 := ok.line60
  have hcol := ok.col
  refine ⟨_, rfl, p, g, rfl, hP, ok.row, ?_⟩
  refine ⟨_, rfl, rd_col T hP ?_⟩
  refine ⟨fun m σ H' => H' = H ∧ ∃ e : Nat, σ = [some (.ref p), some (.str (S g.line)), some (.int (e : Int)), none] ∧ g.col ≤ e ∧ e ≤ g.line.length ∧ (∀ i, g.col ≤ i → i < e → isLet (g.line.getD i 0) = true) ∧ m = g.line.length - e,
    ⟨_, rfl, g.col, rfl, Nat.le_refl _, hcol, fun i h1 h2 => by omega, rfl⟩, ?_⟩
  rintro m σ H' ⟨rfl, e, rfl, he1, he2, hlet, rfl⟩
  refine ⟨_, rfl, _, rfl, _, rfl, S16 (by omega), _, _, rfl, rfl, _, rfl, ?_⟩
  rw [S_len]
  -- what follows the loop
  have fin : e = g.line.length ∨ isLet (g.line.getD e 0) = false → lets (g.line.drop g.col) = e - g.col := fun hend => lets_eq hlet he1 he2 hend
  have after : lets (g.line.drop g.col) = e - g.col → tSeq (tIfS (tTest (tOp rEq (tVar 2) (tFld K (tVar 0) "column"))) (tRet (tC .non)) tNext)
      (tSeq (tAsg (tCF (sp_with_lines K) E (tCons (tVar 0) (tCons (tFld K (tVar 0) "row") (tCons (tC (.int 1)) (tCons (tTup (tCons (tOp (fun x y H Q => ∃ i j, x = .str i ∧ y = .str j ∧ i.length + j.length ≤ sizeLine ∧ Q (.str (i ++ j)) H)
        (tSl rSlS (tVar 1) tNoPart (tPart (tFld K (tVar 0) "column"))) (tSl rSlS (tVar 1) (tPart (tVar 2)) tNoPart)) tNil)) tNil))))) (gName 3))
      (tRet (tCF (sp_Page K) E (tCons (tVar 3) (tCons (tFld K (tVar 0) "row") (tCons (tFld K (tVar 0) "column") (tCons (tSl rSlS (tVar 1) (tPart (tFld K (tVar 0) "column")) (tPart (tVar 2))) tNil)))))))
      { nx := fun _ H' => Q .non H', rt := Q } [some (.ref p), some (.str (S g.line)), some (.int (e : Int)), none] H' := by
    intro hl
    refine ⟨_, rfl, _, rfl, rd_col T hP ⟨rfl, _, rfl, ?_⟩⟩
    refine iteD (fun h1 => ?_) (fun h1 => ?_)
    · have h1 : (e : Int) = (g.col : Int) := V.int.inj h1
      exact kn H' Kq.refl (by unfold Pg.take; simp only [hl]; rw [if_pos (by omega)])
    have h1 : ¬ (e : Int) = (g.col : Int) := fun z => h1 (by rw [z])
    refine ⟨_, rfl, _, rfl, rd_row T hP ⟨_, rfl, _, rfl, rd_col T hP ⟨_, rfl, _, rfl, S16 (by omega), _, rfl, _, rfl, _, rfl, _, rfl, S16 (by omega), ?_⟩⟩⟩
    rw [cut_to g.line (n := g.col) rfl, cut_from g.line (n := e) rfl]
    refine ⟨_, _, rfl, rfl, line16 (by rw [S_len, S_len, List.length_take, List.length_drop]; omega), ?_⟩
    rw [S_app]
    refine ⟨line16 (by show 1 ≤ 1000000; decide), fun tp ntp => ?_⟩
    refine ⟨p, g, _, _, tp, [_], g.row, 1, rfl, rfl, rfl, (Kq.alloc ntp).page hP, SqT.of upd_same, ok.row, by decide, ok.many, (by show 1 ≤ 2; decide), by simp, fun q H2 k2 a2 => ?_⟩
    have k12 := (Kq.alloc (S := []) (o := .tup [V.str (S (g.line.take g.col ++ g.line.drop e))]) ntp).trans k2
    have hP2 := k12.page hP
    refine ⟨_, rfl, _, rfl, rd_row T hP2 ⟨_, rfl, rd_col T hP2 ⟨_, rfl, _, rfl, rd_col T hP2 ⟨_, rfl, _, rfl, _, rfl, _, rfl, S16 (by omega), ?_⟩⟩⟩⟩
    rw [cut_mid g.line (a := g.col) (b := e) rfl rfl]
    refine ⟨q, _, _, _, { rows := g.others g.row 1 [g.line.take g.col ++ g.line.drop e], row := g.row, col := g.col, clip := (g.line.drop g.col).take (e - g.col) }, rfl, rfl, rfl, rfl, a2, fun q3 H3 k3 a3 => ?_⟩
    refine ks q3 H3 _ (k12.trans k3) ?_ a3
    unfold Pg.take
    simp only [hl]
    rw [if_neg (by omega), show g.col + (e - g.col) = e by omega]
  refine iteD (fun h1 => ?_) (fun h1 => ?_)
  · have h1 : e < g.line.length := by omega
    have eg : g.line[e]? = some (g.line.getD e 0) := by rw [List.getElem?_eq_getElem h1, List.getD_eq_getElem?_getD, List.getElem?_eq_getElem h1]; rfl
    refine ⟨_, rfl, _, rfl, _, _, g.line.getD e 0, rfl, rfl, S16 (by omega), (by rw [show (S g.line).cps.toList = g.line by simp]; exact atI_nat eg), _, _, rfl, rfl, _, rfl, ?_⟩
    refine iteN (fun h2 => ?_) (fun h2 => ?_)
    · rw [sign_lo] at h2
      refine ⟨_, _, rfl, rfl, _, rfl, ?_⟩
      refine iteN (fun h3 => ?_) (fun h3 => ?_)
      · rw [sign_hi] at h3
        refine ⟨fun σ' H2 => H2 = H' ∧ σ' = [some (.ref p), some (.str (S g.line)), some (.int ((e + 1 : Nat) : Int)), none], fun σ' H2 ⟨e1, e2⟩ => ⟨g.line.length - (e + 1), by omega, e1, e + 1, e2, by omega, h1, fun i hi1 hi2 => ?_, rfl⟩, ?_⟩
        · by_cases hi : i = e
          · subst hi
            show (decide (97 ≤ g.line.getD i 0) && decide (g.line.getD i 0 ≤ 122)) = true
            simp only [Bool.and_eq_true, decide_eq_true_eq]
            omega
          · exact hlet i hi1 (by omega)
        · exact ⟨_, rfl, _, _, rfl, rfl, rfl, rfl⟩
      · rw [sign_hi] at h3
        exact after (fin (Or.inr (by show (decide (97 ≤ g.line.getD e 0) && decide (g.line.getD e 0 ≤ 122)) = false; simp only [Bool.and_eq_false_iff, decide_eq_false_iff_not]; omega)))
    · rw [sign_lo] at h2
      refine ⟨_, rfl, ?_⟩
      exact after (fin (Or.inr (by show (decide (97 ≤ g.line.getD e 0) && decide (g.line.getD e 0 ≤ 122)) = false; simp only [Bool.and_eq_false_iff, decide_eq_false_iff_not]; omega)))
  · exact after (fin (Or.inl (by omega)))
end
end KT
set_option Elab.async false
set_option linter.all false
set_option maxRecDepth 100000
set_option maxHeartbeats 4000000
namespace KT
open PySem PySem.Spec PyProof.Rows L2 GxR
/-! ### keys in the heap -/
def nameS (n : Nat) : Str := S [97 + n]
def keyV : Ky → List V
  | .put s => [.str "put", .str (S s)]
  | .find s => [.str "find", .str (S s)]
  | .brk => [.str "break"]
  | .rub => [.str "rub"]
  | .left => [.str "left"]
  | .right => [.str "right"]
  | .up => [.str "up"]
  | .down => [.str "down"]
  | .home => [.str "home"]
  | .end_ => [.str "end"]
  | .take => [.str "take"]
  | .lay => [.str "lay"]
  | .play n m => [.str "play", .str (nameS n), .int m]
  | .till n => [.str "till", .str (nameS n)]
def KeyAt (K : PySem.W.Frag) (H : Hp) (a : Addr) (k : Ky) : Prop := SqT K H a (keyV k)
theorem Kq.key {K : PySem.W.Frag} {H H1 : Hp} (a : Kq [] H H1) {p : Addr} {k : Ky} (h : KeyAt K H p k) : KeyAt K H1 p k := a.tup h
section
variable {X : Cx} {k i : Nat} {f : Addr} {ps : List Str} {sp : Sp} {E : XK} {x : Str} {p pos : Pos} {e : Expr} {es : List Expr} {t : TA}
/-- f(e, ..), f a name of the def that holds one of several defs -/
def tCallV (P : Program) (w : World) (K : PySem.W.Frag) (mg : Str → Option Value) (base : Heap) (k i : Nat) (E : XK) (t : TA) : TE := fun σ H Q => ∃ f ps sp, σ[i]? = some (some (.ref f)) ∧ Fk P w K mg base k f ps sp ∧ t σ H fun vs H1 => sp vs H1 Q E
theorem pe_callV (hr : Room k X.A) (hx : Passes (L2.CX X.prog X.w) X E) (ha : PA X (e :: es) t) (hN : X.N[i]? = some x := by rfl) (hv : Vis X.env.scope x := by exact Or.inl rfl)
    (hdb : (x == ("__debug__" : Str)) = false := by decide) (hcd : (x == ("__classdict__" : Str)) = false := by decide)
    (he : starEach (e :: es) X.env = (false, eval e X.env) :: starEach es X.env := by rfl) (hpl : (backTo pos (starEach es X.env)).any (·.1) = false := by rfl) : PE X (.Call (.Name x p) (e :: es) [] pos) (tCallV X.prog X.w X.K X.mg X.base k i E t) := by
  refine ⟨fun pins s σ H Q I h => ?_⟩
  obtain ⟨f, ps, sp, hs, F, ht⟩ := h
  refine wpAny_Call_Name_kw (thn ((pe_var (pos := p) hN hv hdb hcd).run pins s σ H (fun v H1 => v = .ref f ∧ H1 = H) I ⟨.ref f, hs, rfl, rfl⟩) fun u s1 ⟨v, H1, I1, r1, q1⟩ => ?_)
  obtain ⟨rfl, rfl⟩ := q1
  cases r1
  refine PySem.W.callWith_K (h₀ := X.base) I.ok.mod.kin F.kp (thn (ha.run pos pins s1 σ _ _ I1 ht) fun us s2 ⟨vs, H2, I2, r, q⟩ => ⟨I2.kIn, ?_⟩) he hpl
  have q' : sp (vs ++ []) H2 Q E := by rw [List.append_nil]; exact q
  exact run_fn F.ok hr F.b .nil hx I2 r q'
end
section
variable {P : Program} {w : World} {K : PySem.W.Frag} {mg : Str → Option Value} {base : Heap}
theorem Tx.tab (T : Tx w K mg) : ∃ es n, KDict K w (He.ga K "ACTIONS") es n := by
  obtain ⟨_, _, _, c⟩ := T.ex
  exact c.t.tab 0
theorem Tx.vals (T : Tx w K mg) {q : Str × He.Dv} (h : q ∈ acts) : ∃ u, PySem.W.nsIn K (He.ga K "ACTIONS") q.1 = some (some u) ∧ RelV (q.2.v K) u := by
  obtain ⟨_, _, _, c⟩ := T.ex
  have := c.more
  unfold ex at this
  exact He.valsB_ok (He.ba this).2 h
theorem Tx.act (T : Tx w K mg) {x f : Str} (h : (x, He.Dv.glo f) ∈ acts) : KDct K w (He.ga K "ACTIONS") x (.ref (He.ga K f)) := by
  obtain ⟨es, n, D⟩ := T.tab
  obtain ⟨u, h1, h2⟩ := T.vals h
  exact ⟨es, n, u, D.at_, D.lit, h1, h2⟩
def sp_page_behind (K : PySem.W.Frag) : Sp := fun vs H Q _ => ∃ p a g ky, vs = [.ref p, .ref a] ∧ PageAt K H p g ∧ g.Ok ∧ KeyAt K H a ky ∧ ky.Ok ∧ ky.single = true ∧ (∀ H', Kq [] H H' → g.does ky = none → Q .non H') ∧ ∀ q H' g', Kq [] H H' → g.does ky = some g' → PageAt K H' q g' → Q (.ref q) H'
theorem sc_page_behind : FnScope ["page", "key", "action"] ["page", "key"] (defScope s_page_behind) := ⟨rfl, rfl, rfl, by decide +kernel, rfl, by decide +kernel, by decide +kernel⟩
theorem ok_page_behind (T : Tx w K mg) : Fk P w K mg base 6 (Ad K d_page_behind.at_) ["page", "key"] (sp_page_behind K) := by
  have F_break_row := ok_break_row (P := P) (base := base) T
  have F_find_word := ok_find_word (P := P) (base := base) T
  have F_go_down := ok_go_down (P := P) (base := base) T
  have F_go_end := ok_go_end (P := P) (base := base) T
  have F_go_home := ok_go_home (P := P) (base := base) T
  have F_go_left := ok_go_left (P := P) (base := base) T
  have F_go_right := ok_go_right (P := P) (base := base) T
  have F_go_up := ok_go_up (P := P) (base := base) T
  have F_lay := ok_lay (P := P) (base := base) T
  have F_rub := ok_rub (P := P) (base := base) T
  have F_take := ok_take (P := P) (base := base) T
  have F_write := ok_write (P := P) (base := base) T
  refine mkF T.f_page_behind sc_page_behind rfl (fun _ _ _ _ _ _ us hl => match us, hl with | [_, _], _ => rfl) (fun vs H Q E h => by obtain ⟨_, _, _, _, rfl, _⟩ := h; rfl) (fun cdv A outer s H vs Q E hcd hcode hr h => ?_)
  refine ⟨_, (pss_cons (ps_if (pt_cmpR op_eq (pe_ix ix_tup (pv 1) pe_int (fun _ _ => rfl)) pe_str (nomark _)) (pss_one (ps_ret (pe_cF F_write (hr.mono (by decide)) T.g_write px (pa_cons (pv 0) (pa_cons (pe_ix ix_tup (pv 1) pe_int (fun _ _ => rfl)) pa_nil))))) pss_nil)
      (pss_cons (ps_if (pt_cmpR op_eq (pe_ix ix_tup (pv 1) pe_int (fun _ _ => rfl)) pe_str (nomark _)) (pss_one (ps_ret (pe_cF F_find_word (hr.mono (by decide)) T.g_find_word px (pa_cons (pv 0) (pa_cons (pe_ix ix_tup (pv 1) pe_int (fun _ _ => rfl)) pa_nil))))) pss_nil)
      (pss_cons (ps_asg (pe_ix ix_kdict (pe_glob (v := .ref (He.ga K "ACTIONS")) rfl T.g_ACTIONS rfl) (pe_ix ix_tup (pv 1) pe_int (fun _ _ => rfl)) (fun _ _ => rfl)) (pg_name (i := 2) sc_page_behind.nd rfl (.inl rfl)))
      (pss_one (ps_ret (pe_callV (i := 2) hr px (pa_cons (pv 0) pa_nil))))))), ?_⟩
  obtain ⟨p, a, g, ky, rfl, hP, ok, hk, kok, hsg, kn, ks⟩ := h
  cases ky with
  | put s =>
    refine ⟨_, rfl, a, _, _, _, rfl, rfl, hk, rfl, rfl, _, rfl, iteD (fun _ => ?_) (fun h => absurd rfl h)⟩
    have h1 : s.length = 1 := kok.1
    exact ⟨_, rfl, _, rfl, a, _, _, _, rfl, rfl, hk, rfl, p, g, s, rfl, hP, ok, by omega, kn, ks⟩
  | find s =>
    refine ⟨_, rfl, a, _, _, _, rfl, rfl, hk, rfl, rfl, _, rfl, iteD (fun h => absurd h (by decide +kernel)) (fun _ => ?_)⟩
    refine ⟨_, rfl, a, _, _, _, rfl, rfl, hk, rfl, rfl, _, rfl, iteD (fun _ => ?_) (fun h => absurd rfl h)⟩
    have h1 : s.length ≤ 4 := kok.2.1
    exact ⟨_, rfl, _, rfl, a, _, _, _, rfl, rfl, hk, rfl, p, g, s, rfl, hP, ok, by omega, kn, ks⟩
  | play n m => exact absurd hsg (by simp [Ky.single])
  | till n => exact absurd hsg (by simp [Ky.single])
  | brk =>
    refine ⟨_, rfl, a, _, _, _, rfl, rfl, hk, rfl, rfl, _, rfl, iteD (fun h => absurd h (by decide +kernel)) (fun _ => ?_)⟩
    refine ⟨_, rfl, a, _, _, _, rfl, rfl, hk, rfl, rfl, _, rfl, iteD (fun h => absurd h (by decide +kernel)) (fun _ => ?_)⟩
    refine ⟨_, rfl, a, _, _, _, rfl, rfl, hk, rfl, _, _, _, rfl, rfl, T.act (f := "break_row") (List.mem_of_getElem? (i := 0) rfl), ?_⟩
    exact ⟨_, _, _, rfl, F_break_row.mono (by decide), _, rfl, p, g, rfl, hP, ok, kn, ks⟩
  | rub =>
    refine ⟨_, rfl, a, _, _, _, rfl, rfl, hk, rfl, rfl, _, rfl, iteD (fun h => absurd h (by decide +kernel)) (fun _ => ?_)⟩
    refine ⟨_, rfl, a, _, _, _, rfl, rfl, hk, rfl, rfl, _, rfl, iteD (fun h => absurd h (by decide +kernel)) (fun _ => ?_)⟩
    refine ⟨_, rfl, a, _, _, _, rfl, rfl, hk, rfl, _, _, _, rfl, rfl, T.act (f := "rub") (List.mem_of_getElem? (i := 1) rfl), ?_⟩
    exact ⟨_, _, _, rfl, F_rub.mono (by decide), _, rfl, p, g, rfl, hP, ok, kn, ks⟩
  | left =>
    refine ⟨_, rfl, a, _, _, _, rfl, rfl, hk, rfl, rfl, _, rfl, iteD (fun h => absurd h (by decide +kernel)) (fun _ => ?_)⟩
    refine ⟨_, rfl, a, _, _, _, rfl, rfl, hk, rfl, rfl, _, rfl, iteD (fun h => absurd h (by decide +kernel)) (fun _ => ?_)⟩
    refine ⟨_, rfl, a, _, _, _, rfl, rfl, hk, rfl, _, _, _, rfl, rfl, T.act (f := "go_left") (List.mem_of_getElem? (i := 2) rfl), ?_⟩
    exact ⟨_, _, _, rfl, F_go_left.mono (by decide), _, rfl, p, g, rfl, hP, ok, kn, ks⟩
  | right =>
    refine ⟨_, rfl, a, _, _, _, rfl, rfl, hk, rfl, rfl, _, rfl, iteD (fun h => absurd h (by decide +kernel)) (fun _ => ?_)⟩
    refine ⟨_, rfl, a, _, _, _, rfl, rfl, hk, rfl, rfl, _, rfl, iteD (fun h => absurd h (by decide +kernel)) (fun _ => ?_)⟩
    refine ⟨_, rfl, a, _, _, _, rfl, rfl, hk, rfl, _, _, _, rfl, rfl, T.act (f := "go_right") (List.mem_of_getElem? (i := 3) rfl), ?_⟩
    exact ⟨_, _, _, rfl, F_go_right.mono (by decide), _, rfl, p, g, rfl, hP, ok, kn, ks⟩
  | up =>
    refine ⟨_, rfl, a, _, _, _, rfl, rfl, hk, rfl, rfl, _, rfl, iteD (fun h => absurd h (by decide +kernel)) (fun _ => ?_)⟩
    refine ⟨_, rfl, a, _, _, _, rfl, rfl, hk, rfl, rfl, _, rfl, iteD (fun h => absurd h (by decide +kernel)) (fun _ => ?_)⟩
    refine ⟨_, rfl, a, _, _, _, rfl, rfl, hk, rfl, _, _, _, rfl, rfl, T.act (f := "go_up") (List.mem_of_getElem? (i := 4) rfl), ?_⟩
    exact ⟨_, _, _, rfl, F_go_up.mono (by decide), _, rfl, p, g, rfl, hP, ok, kn, ks⟩
  | down =>
    refine ⟨_, rfl, a, _, _, _, rfl, rfl, hk, rfl, rfl, _, rfl, iteD (fun h => absurd h (by decide +kernel)) (fun _ => ?_)⟩
    refine ⟨_, rfl, a, _, _, _, rfl, rfl, hk, rfl, rfl, _, rfl, iteD (fun h => absurd h (by decide +kernel)) (fun _ => ?_)⟩
    refine ⟨_, rfl, a, _, _, _, rfl, rfl, hk, rfl, _, _, _, rfl, rfl, T.act (f := "go_down") (List.mem_of_getElem? (i := 5) rfl), ?_⟩
    exact ⟨_, _, _, rfl, F_go_down.mono (by decide), _, rfl, p, g, rfl, hP, ok, kn, ks⟩
  | home =>
    refine ⟨_, rfl, a, _, _, _, rfl, rfl, hk, rfl, rfl, _, rfl, iteD (fun h => absurd h (by decide +kernel)) (fun _ => ?_)⟩
    refine ⟨_, rfl, a, _, _, _, rfl, rfl, hk, rfl, rfl, _, rfl, iteD (fun h => absurd h (by decide +kernel)) (fun _ => ?_)⟩
    refine ⟨_, rfl, a, _, _, _, rfl, rfl, hk, rfl, _, _, _, rfl, rfl, T.act (f := "go_home") (List.mem_of_getElem? (i := 6) rfl), ?_⟩
    exact ⟨_, _, _, rfl, F_go_home.mono (by decide), _, rfl, p, g, rfl, hP, ok, kn, ks⟩
  | end_ =>
    refine ⟨_, rfl, a, _, _, _, rfl, rfl, hk, rfl, rfl, _, rfl, iteD (fun h => absurd h (by decide +kernel)) (fun _ => ?_)⟩
    refine ⟨_, rfl, a, _, _, _, rfl, rfl, hk, rfl, rfl, _, rfl, iteD (fun h => absurd h (by decide +kernel)) (fun _ => ?_)⟩
    refine ⟨_, rfl, a, _, _, _, rfl, rfl, hk, rfl, _, _, _, rfl, rfl, T.act (f := "go_end") (List.mem_of_getElem? (i := 7) rfl), ?_⟩
    exact ⟨_, _, _, rfl, F_go_end.mono (by decide), _, rfl, p, g, rfl, hP, ok, kn, ks⟩
  | take =>
    refine ⟨_, rfl, a, _, _, _, rfl, rfl, hk, rfl, rfl, _, rfl, iteD (fun h => absurd h (by decide +kernel)) (fun _ => ?_)⟩
    refine ⟨_, rfl, a, _, _, _, rfl, rfl, hk, rfl, rfl, _, rfl, iteD (fun h => absurd h (by decide +kernel)) (fun _ => ?_)⟩
    refine ⟨_, rfl, a, _, _, _, rfl, rfl, hk, rfl, _, _, _, rfl, rfl, T.act (f := "take") (List.mem_of_getElem? (i := 8) rfl), ?_⟩
    exact ⟨_, _, _, rfl, F_take.mono (by decide), _, rfl, p, g, rfl, hP, ok, kn, ks⟩
  | lay =>
    refine ⟨_, rfl, a, _, _, _, rfl, rfl, hk, rfl, rfl, _, rfl, iteD (fun h => absurd h (by decide +kernel)) (fun _ => ?_)⟩
    refine ⟨_, rfl, a, _, _, _, rfl, rfl, hk, rfl, rfl, _, rfl, iteD (fun h => absurd h (by decide +kernel)) (fun _ => ?_)⟩
    refine ⟨_, rfl, a, _, _, _, rfl, rfl, hk, rfl, _, _, _, rfl, rfl, T.act (f := "lay") (List.mem_of_getElem? (i := 9) rfl), ?_⟩
    exact ⟨_, _, _, rfl, F_lay.mono (by decide), _, rfl, p, g, rfl, hP, ok, kn, ks⟩
end
end KT
set_option Elab.async false
set_option linter.all false
set_option maxRecDepth 100000
set_option maxHeartbeats 4000000
namespace KT
open PySem PySem.Spec PyProof.Rows L2 GxR
/-! ### signs -/
theorem elt_range {prog : Program} {w : World} {scope : Scope} {x lo hi : Str} {j j' : Nat} {p1 p2 p3 p4 : Pos} (hk : scope.kind = .function) (hl : scope.names.lookup x = some .local) (hd : (x == ("__debug__" : Str)) = false := by decide) :
    EltP prog w scope x (.Compare (.Constant (.str lo) j p1) [.LtE, .LtE] [.Name x p2, .Constant (.str hi) j' p3] p4) (fun c => !decide ([c] < lo.cps.toList) && !decide (hi.cps.toList < [c])) := by
  intro cenv A' E' c t s₂ m₂ hs hn hm
  refine Compare_chain (Calls.Constant_str (chain_link ?_))
  refine wpAny_Name (wpAny_loadName_local (by rw [hs]; exact hk) (show cenv.scope.names.lookup x = some .local by rw [hs]; exact hl) hn hm ?_) hd
  refine PySem.P.le_str (wpAny_truthy_bool ?_)
  have e : (⟨#[c]⟩ : Str).cps.toList = [c] := rfl
  rw [e]
  by_cases h : [c] < lo.cps.toList
  · rw [decide_eq_true h]
    exact ite_ff ⟨congrArg Value.bool (by show _ = (!decide ([c] < lo.cps.toList) && _); rw [decide_eq_true h]; rfl), keeps_tok _ _⟩
  · rw [decide_eq_false h]
    refine ite_tt (chain_last (Calls.Constant_str (PySem.P.le_str ⟨congrArg Value.bool (by show _ = (!decide ([c] < lo.cps.toList) && _); rw [decide_eq_false h]; rfl), keeps_tok _ _⟩)))
/-- are_signs, in Lean -/
def signB (c : Nat) : Bool := !decide ([c] < (Str.ofString " ").cps.toList) && !decide ((Str.ofString "~").cps.toList < [c])
theorem signB_eq (c : Nat) : signB c = decide (okSign c) := by
  unfold signB okSign
  rw [show (Str.ofString " ").cps.toList = [32] by decide +kernel, show (Str.ofString "~").cps.toList = [126] by decide +kernel]
  have h1 := one_lt c 32
  have h2 := one_lt 126 c
  by_cases a : c < 32
  · rw [decide_eq_true (h1.mpr a)]
    simp; omega
  · rw [decide_eq_false (fun z => a (h1.mp z))]
    by_cases b : 126 < c
    · rw [decide_eq_true (h2.mpr b)]
      simp; omega
    · rw [decide_eq_false (fun z => b (h2.mp z))]
      simp; omega
/-- the table of are_signs -/
abbrev cS (K : PySem.W.Frag) : Addr := He.codeOf K ("are_signs", none)
abbrev tS (K : PySem.W.Frag) : Addr := He.tabOf K (cS K)
section
variable {P : Program} {w : World} {K : PySem.W.Frag} {mg : Str → Option Value} {base : Heap}
def sp_are_signs (K : PySem.W.Frag) : Sp := fun vs H Q _ => ∃ l, vs = [.str (S l)] ∧ TabG H (tS K) ∧ ∀ H', Kq [] H H' → Q (.bl (l.all signB)) H'
theorem sc_are_signs : FnScope ["text"] ["text"] (defScope s_are_signs) := ⟨rfl, rfl, rfl, by decide +kernel, rfl, by decide +kernel, by decide +kernel⟩
theorem ok_are_signs (T : Tx w K mg) (B : TabB base mg (cS K) (tS K)) : Fk P w K mg base 1 (Ad K d_are_signs.at_) ["text"] (sp_are_signs K) := by
  refine mkF T.f_are_signs sc_are_signs rfl (fun _ _ _ _ _ _ us hl => match us, hl with | [_], _ => rfl) (fun vs H Q E h => by obtain ⟨_, rfl, _⟩ := h; rfl) (fun cdv A outer s H vs Q E hcd hcode hr h => ?_)
  refine ⟨_, (pss_one (ps_ret (pe_allS (c := cS K) (P := tS K) hr rfl T.n_all (by decide +kernel) B hcode ⟨rfl, rfl, by decide +kernel, by decide +kernel, by decide +kernel, fun y hy e => absurd e ((by decide +kernel : ∀ y ∈ _, y.2 ≠ .free) y hy)⟩ (pv 0) (elt_range rfl (by decide +kernel)) (fun _ => rfl)))), ?_⟩
  obtain ⟨l, rfl, hT, k⟩ := h
  refine ⟨_, rfl, _, rfl, hT, fun H2 hH => ?_⟩
  exact k H2 (Kq.tabbed hH hT)
end
end KT
set_option Elab.async false
set_option linter.all false
set_option maxRecDepth 100000
set_option maxHeartbeats 4000000
namespace KT
open PySem PySem.Spec PyProof.Rows L2 GxR
/-! ### match: a tuple against sequences of texts and names -/
inductive PatI where
  | lit (z : Str) | cap (i : Nat)
/-- what may be held against a text -/
def flatS : V → Bool
  | .int _ => true
  | .str _ => true
  | .bl _ => true
  | .non => true
  | _ => false
theorem scal_flat {x : V} {z : Str} (h : flatS x = true) : scal x (.str z) = true := by
  cases x <;> first | rfl | cases h
def patHit : List PatI → List V → Bool
  | [], [] => true
  | .lit z :: ds, x :: xs => decide (x = .str z) && patHit ds xs
  | .cap _ :: ds, _ :: xs => patHit ds xs
  | _, _ => false
def patBind : List PatI → List V → L2.St → L2.St
  | .lit _ :: ds, _ :: xs, σ => patBind ds xs σ
  | .cap i :: ds, x :: xs, σ => patBind ds xs (σ.set i (some x))
  | _, _, σ => σ
section
variable {X : Cx} {pins : List (Addr × Obj)} {σ : L2.St} {H : Hp} {s : Shared}
inductive PsOk (X : Cx) : List Pattern → List PatI → Prop where
  | nil : PsOk X [] []
  | lit {z : Str} {j : Nat} {p1 p2 : Pos} {ps : List Pattern} {ds : List PatI} (h : PsOk X ps ds) : PsOk X (.MatchValue (.Constant (.str z) j p1) p2 :: ps) (.lit z :: ds)
  | cap {x : Str} {i : Nat} {p : Pos} {ps : List Pattern} {ds : List PatI} (hN : X.N[i]? = some x) (hl : Loc X.env.scope x) (hf : X.fn x = true ∨ X.env.scope.names.lookup x = some .local) (h : PsOk X ps ds) : PsOk X (.MatchAs none (some x) p :: ps) (.cap i :: ds)
theorem PsOk.len {ps : List Pattern} {ds : List PatI} (h : PsOk X ps ds) : ps.length = ds.length := by
  induction h with
  | nil => rfl
  | lit _ ih => simp [ih]
  | cap _ _ _ _ ih => simp [ih]
/-- the names and values that are bound -/
inductive Bs (X : Cx) : List PatI → List V → List (Str × Value) → Prop where
  | nil : Bs X [] [] []
  | lit {z : Str} {x : V} {ds : List PatI} {xs : List V} {bs : List (Str × Value)} (h : Bs X ds xs bs) : Bs X (.lit z :: ds) (x :: xs) bs
  | cap {n : Str} {i : Nat} {x : V} {u : Value} {ds : List PatI} {xs : List V} {bs : List (Str × Value)} (hN : X.N[i]? = some n) (hl : Loc X.env.scope n) (hf : X.fn n = true ∨ X.env.scope.names.lookup n = some .local) (r : RelV x u) (h : Bs X ds xs bs) : Bs X (.cap i :: ds) (x :: xs) ((n, u) :: bs)
theorem each_ok {ps : List Pattern} {ds : List PatI} (h : PsOk X ps ds) : ∀ {xs : List V} {us : List Value} {s : Shared} {Q : Option (List (Str × Value)) → Shared → Prop}, Vals xs us → xs.length = ds.length → (∀ x ∈ xs, flatS x = true) → Inv X pins σ H s →
    (∀ s', Inv X pins σ H s' → (patHit ds xs = false → Q none s') ∧ (patHit ds xs = true → ∀ bs, Bs X ds xs bs → Q (some bs) s')) → wpAny (model X.prog X.w) X.A (matchEach ps X.env us) Q X.xe s := by
  induction h with
  | nil =>
    intro xs us s Q r hl hf I k
    cases r with
    | nil => exact wpAny_matchEach_nil ((k s I).2 rfl [] .nil)
    | cons _ _ => simp at hl
  | @lit z j p1 p2 ps ds h ih =>
    intro xs us s Q r hl hf I k
    cases r with
    | nil => simp at hl
    | @cons x u xs us rx r =>
      refine wpAny_matchEach_cons ?_ rfl
      refine wpAny_matchPattern_Value (Calls.Constant_str ?_)
      refine thn (op_eq pins _ σ H x (.str z) u _ (fun v H' => v = .bl (decide (x = .str z)) ∧ H' = H) (I.tok _) rx ⟨_, rfl⟩ ⟨scal_flat (hf x (by simp)), rfl, rfl⟩) fun c s2 hc => ?_
      obtain ⟨v, H', I2, rc, ev, eH⟩ := hc
      subst ev eH
      cases rc
      refine wpAny_truthy_bool ?_
      by_cases e : x = .str z
      · rw [decide_eq_true e]
        show wpAny _ _ (matchEach ps X.env us) _ _ s2
        refine ih r (by simpa using hl) (fun y hy => hf y (by simp [hy])) I2 fun s3 I3 => ?_
        have h1 : patHit (.lit z :: ds) (x :: xs) = patHit ds xs := by
          show (decide (x = .str z) && patHit ds xs) = _
          rw [decide_eq_true e]; rfl
        have k3 := k s3 I3
        rw [h1] at k3
        exact ⟨fun e => k3.1 e, fun e bs hb => k3.2 e _ (.lit hb)⟩
      · rw [decide_eq_false e]
        show Q none s2
        refine (k s2 I2).1 ?_
        show (decide (x = .str z) && patHit ds xs) = false
        rw [decide_eq_false e]; rfl
  | @cap n i p ps ds hN hloc hfn h ih =>
    intro xs us s Q r hl hf I k
    cases r with
    | nil => simp at hl
    | @cons x u xs us rx r =>
      refine wpAny_matchEach_cons ?_ rfl
      refine wpAny_matchPattern_Capture ?_
      show wpAny _ _ (matchEach ps X.env us) _ _ s
      refine ih r (by simpa using hl) (fun y hy => hf y (by simp [hy])) I fun s3 I3 => ?_
      have k3 := k s3 I3
      exact ⟨fun e => k3.1 e, fun e bs hb => k3.2 e _ (.cap hN hloc hfn rx hb)⟩
theorem bind_ok (hnd : X.N.Nodup) {ds : List PatI} {xs : List V} {bs : List (Str × Value)} (h : Bs X ds xs bs) : ∀ {σ : L2.St} {s : Shared} {Q : Unit → Shared → Prop}, Inv X pins σ H s → (∀ s', Inv X pins (patBind ds xs σ) H s' → Q () s') →
    wpAny (model X.prog X.w) X.A (assignInOrder (bs.map fun (n, _) => bindName X.env n) (bs.map (·.2))) Q X.xe s := by
  induction h with
  | nil => intro σ s Q I k; exact wpAny_assignInOrder_none (k s I)
  | lit _ ih => intro σ s Q I k; exact ih I k
  | cap hN hl hf r _ ih =>
    intro σ s Q I k
    refine wpAny_assignInOrder_more (bindName_ (store_ok I hnd hN hl r (fun s' I' => ?_) hf))
    exact ih I' k
/-- the cases: a sequence, or whatever there is -/
inductive CaseD where
  | seq (ds : List PatI) (t : TS)
  | any (t : TS)
def tCases : List CaseD → List V → TS
  | [], _ => fun D σ H => D.nx σ H
  | .seq ds t :: r, xs => fun D σ H => if (decide (ds.length = xs.length) && patHit ds xs) = true then t D (patBind ds xs σ) H else tCases r xs D σ H
  | .any t :: _, _ => t
def tMatch (K : PySem.W.Frag) (te : TE) (cs : List CaseD) : TS := fun D σ H => te σ H fun v H1 => ∃ a xs, v = .ref a ∧ SqT K H1 a xs ∧ (∀ x ∈ xs, flatS x = true) ∧ tCases cs xs D σ H1
inductive CsOk (X : Cx) : List MatchCase → List CaseD → Prop where
  | nil : CsOk X [] []
  | seq {ps : List Pattern} {pos : Pos} {ds : List PatI} {t : TS} {body : List Stmt} {cs : List MatchCase} {dd : List CaseD} (hp : PsOk X ps ds) (hb : PSs X body t) (h : CsOk X cs dd)
    (hstar : ps.findIdx? (·.isStar) = none := by rfl) (hwild : (ps.all fun p => p.isWildcard || (p.isStar && p.names.isEmpty)) = false := by rfl) : CsOk X (⟨.MatchSequence ps pos, none, body⟩ :: cs) (.seq ds t :: dd)
  | any {pos : Pos} {t : TS} {body : List Stmt} {cs : List MatchCase} (hb : PSs X body t) : CsOk X (⟨.MatchAs none none pos, none, body⟩ :: cs) [.any t]
theorem cases_ok (hc : X.calm = true) (hnd : X.N.Nodup) {cs : List MatchCase} {dd : List CaseD} (h : CsOk X cs dd) : ∀ {a : Addr} {xs : List V} {s : Shared} {D : Ends} (first : Bool), Inv X pins σ H s → SqT X.K H a xs → (∀ x ∈ xs, flatS x = true) → tCases dd xs D σ H →
    wpAny (model X.prog X.w) X.A (matchCases cs X.env (.ref a) first) (SP X pins D) X.xe s := by
  induction h with
  | nil =>
    intro a xs s D first I ht hf k
    exact wpAny_matchCases_nil ⟨σ, H, I, k⟩
  | @seq ps pos ds t body cs dd hp hb h hstar hwild ih =>
    intro a xs s D first I ht hf k
    refine wpAny_matchCases_cons ?_
    obtain ⟨its, r, pl, hz⟩ := I.tuple ht
    have hlen := r.length
    have hl := hp.len
    have hsz : sizeLine = 16777216 := sizeLine_eq
    have hfit : (its.toArray.size : Int) < 2 ^ 63 := by simp only [List.size_toArray]; omega
    have k : if (decide (ds.length = xs.length) && patHit ds xs) = true then t D (patBind ds xs σ) H else tCases dd xs D σ H := k
    by_cases e : its.toArray.size = ps.length
    · refine matchSeq_tuple_hit pl hfit e ?_ hstar hwild
      have e2 : xs.length = ds.length := by simp only [List.size_toArray] at e; omega
      rw [← e]
      refine unpackItems_tuple (I.ok.hd hc) (s := { s with toks := s.toks + 1 + 1 }) pl fun h' hx => ?_
      have I2 : Inv X pins σ H { s with heap := h', toks := s.toks + 1 + 1 } := I.kept fun b u q => by
        exact hx b u (Nat.ne_of_lt (Heap.lt_size q)) q
      refine each_ok hp r e2 hf I2 fun s3 I3 => ⟨fun hn => ?_, fun hh bs hbs => ?_⟩
      · show wpAny _ _ (matchCases cs X.env (.ref a) false) _ _ s3
        refine ih false I3 ht hf ?_
        rw [hn, Bool.and_false, if_neg (by simp)] at k
        exact k
      · show wpAny _ _ (assignInOrder (bs.map fun (n, _) => bindName X.env n) (bs.map (·.2))) _ _ s3
        refine bind_ok hnd hbs I3 fun s4 I4 => ?_
        rw [hh, Bool.and_true, if_pos (by simp [e2])] at k
        exact hb.run pins s4 _ H D I4 k
    · refine matchSeq_tuple_miss pl hfit e ?_ hstar hwild
      show wpAny _ _ (matchCases cs X.env (.ref a) false) _ _ _
      refine ih false ((I.tok _)) ht hf ?_
      have e2 : ¬ ds.length = xs.length := by simp only [List.size_toArray] at e; omega
      rw [decide_eq_false e2, Bool.false_and, if_neg (by simp)] at k
      exact k
  | @any pos t body cs hb =>
    intro a xs s D first I ht hf k
    refine wpAny_matchCases_cons ?_
    refine wpAny_matchPattern_Capture ?_
    show wpAny _ _ (assignInOrder [] []) _ _ s
    refine wpAny_assignInOrder_none ?_
    exact hb.run pins s σ H D I k
theorem ps_match {subject : Expr} {te : TE} {cs : List MatchCase} {dd : List CaseD} {pos : Pos} (hc : X.calm = true) (hnd : X.N.Nodup) (he : PE X subject te) (h : CsOk X cs dd) : PS X (.Match subject cs pos) (tMatch X.K te dd) := by
  refine ⟨fun pins s σ H D I q => ?_⟩
  refine wpAny_Match (thn (he.run pins s σ H _ I q) fun v s1 hv => ?_)
  obtain ⟨x, H1, I1, r1, a, xs, ex, ht, hf, k⟩ := hv
  subst ex
  cases r1
  exact cases_ok hc hnd h true I1 ht hf k
end
end KT
set_option Elab.async false
set_option linter.all false
set_option maxRecDepth 100000
set_option maxHeartbeats 4000000
namespace KT
open PySem PySem.Spec PyProof.Rows L2 GxR
/-! ### what is a key -/
theorem tyx_tup {K : PySem.W.Frag} {H : Hp} {a : Addr} {xs : List V} (h : SqT K H a xs) : TyX K H (.ref a) (.type "tuple") := by
  rcases h with (h | ⟨o, h⟩) | ⟨o, its, n, hk, hc, _⟩
  · exact .base (.tup h)
  · exact .fTuple h
  · exact .kTuple hk hc
def wordB (n : Nat) : V → Bool
  | .str z => decide (1 ≤ z.length) && (decide (z.length ≤ n) && z.cps.toList.all signB)
  | _ => false
def timesB : V → Bool
  | .int i => decide (1 ≤ i) && decide (i ≤ 9)
  | _ => false
def namesV : List V := [.str "a", .str "b", .str "c", .str "d", .str "e", .str "f", .str "g", .str "h"]
def nameB (v : V) : Bool := inV v namesV
/-- whether a tuple of these is a key; act: what stands alone -/
def keyB (act : V → Bool) : List V → Bool
  | [k, x] => if k = .str "put" then wordB 1 x else if k = .str "find" then wordB 4 x else if k = .str "till" then nameB x else false
  | [k, x, m] => if k = .str "play" then nameB x && timesB m else false
  | [k] => act k
  | _ => false
/-- a text or a number, not too long -/
def smallV : V → Prop
  | .str z => z.length ≤ 1000
  | .int _ => True
  | _ => False
theorem flatS_small {v : V} (h : smallV v) : flatS v = true := by
  cases v <;> first | rfl | exact h.elim
theorem flatV_small {v : V} (h : smallV v) : flatV v = true := by
  cases v <;> first | rfl | exact h.elim
theorem ite_lit2 {z : Str} {i : Nat} {x y : V} {A B : Prop} (h1 : x = .str z → A) (h2 : ¬ x = .str z → B) : if (decide ([PatI.lit z, PatI.cap i].length = [x, y].length) && patHit [.lit z, .cap i] [x, y]) = true then A else B := by
  by_cases e : x = .str z
  · have : (decide ([PatI.lit z, PatI.cap i].length = [x, y].length) && patHit [.lit z, .cap i] [x, y]) = true := by simp [patHit, e]
    rw [if_pos this]; exact h1 e
  · have : ¬ (decide ([PatI.lit z, PatI.cap i].length = [x, y].length) && patHit [.lit z, .cap i] [x, y]) = true := by simp [patHit, e]
    rw [if_neg this]; exact h2 e
theorem ite_lit3 {z : Str} {i j : Nat} {x y u : V} {A B : Prop} (h1 : x = .str z → A) (h2 : ¬ x = .str z → B) : if (decide ([PatI.lit z, PatI.cap i, PatI.cap j].length = [x, y, u].length) && patHit [.lit z, .cap i, .cap j] [x, y, u]) = true then A else B := by
  by_cases e : x = .str z
  · have : (decide ([PatI.lit z, PatI.cap i, PatI.cap j].length = [x, y, u].length) && patHit [.lit z, .cap i, .cap j] [x, y, u]) = true := by simp [patHit, e]
    rw [if_pos this]; exact h1 e
  · have : ¬ (decide ([PatI.lit z, PatI.cap i, PatI.cap j].length = [x, y, u].length) && patHit [.lit z, .cap i, .cap j] [x, y, u]) = true := by simp [patHit, e]
    rw [if_neg this]; exact h2 e
section
variable {P : Program} {w : World} {K : PySem.W.Frag} {mg : Str → Option Value} {base : Heap}
theorem Tx.names (T : Tx w K mg) (H : Hp) : SqT K H (He.ga K "NAMES") namesV := by
  obtain ⟨_, _, _, c⟩ := T.ex
  have := c.more
  unfold ex at this
  exact He.tupB_ok (He.ba this).1 H
/-- how a word that stands alone is looked up -/
def ActIs (K : PySem.W.Frag) (k : V) (b : Bool) : Prop := ∃ z r, k = .str z ∧ PySem.W.nsIn K (He.ga K "ACTIONS") z = some r ∧ b = r.isSome
def sp_is_word (K : PySem.W.Frag) : Sp := fun vs H Q _ => ∃ v n, vs = [v, .int (n : Nat)] ∧ smallV v ∧ TabG H (tS K) ∧ ∀ H', Kq [] H H' → Q (.bl (wordB n v)) H'
theorem sc_is_word : FnScope ["word", "longest"] ["word", "longest"] (defScope s_is_word) := ⟨rfl, rfl, rfl, by decide +kernel, rfl, by decide +kernel, by decide +kernel⟩
theorem ok_is_word (T : Tx w K mg) (B : TabB base mg (cS K) (tS K)) : Fk P w K mg base 2 (Ad K d_is_word.at_) ["word", "longest"] (sp_is_word K) := by
  have F_are_signs := ok_are_signs (P := P) (base := base) T B
  refine mkF T.f_is_word sc_is_word rfl (fun _ _ _ _ _ _ us hl => match us, hl with | [_, _], _ => rfl) (fun vs H Q E h => by obtain ⟨_, _, rfl, _⟩ := h; rfl) (fun cdv A outer s H vs Q E hcd hcode hr h => ?_)
  refine ⟨_, (pss_one (ps_ret (pe_and (pe_callB call_isi (by rfl) T.n_isinstance (by decide +kernel) (pa_cons (pv 0) (pa_cons (pe_bltn (v := .ty "str") (by rfl) T.n_str (by decide +kernel) rfl) pa_nil))) (pe_and (pe_chain op_le op_le pe_int (pe_callB call_len_str (by rfl) T.n_len (by decide +kernel) (pa_cons (pv 0) pa_nil)) (pv 1)) (pe_one (pe_cF F_are_signs (hr.mono (by decide)) T.g_are_signs px (pa_cons (pv 0) pa_nil))))))), ?_⟩
  obtain ⟨v, n, rfl, hs, hT, k⟩ := h
  cases v with
  | str z =>
    have hz : z.length ≤ 1000 := hs
    refine ⟨_, rfl, _, _, _, _, true, rfl, .ty _, .base (.str _), kit_ty (by decide +kernel), _, rfl, iteT ?_⟩
    refine ⟨_, rfl, _, rfl, line16 (by omega), _, _, rfl, rfl, _, rfl, iteD (fun h1 => ?_) (fun h1 => ?_)⟩
    · refine ⟨_, rfl, _, _, rfl, rfl, _, rfl, iteD (fun h2 => ?_) (fun h2 => ?_)⟩
      · refine ⟨_, rfl, z.cps.toList, by rw [show S z.cps.toList = z from S_tl z], hT, fun H' k' => ?_⟩
        have e : wordB n (.str z) = z.cps.toList.all signB := by
          show (decide (1 ≤ z.length) && (decide (z.length ≤ n) && z.cps.toList.all signB)) = _
          rw [decide_eq_true (by omega), decide_eq_true (by omega)]; rfl
        rw [← e]
        exact k H' k'
      · have e : wordB n (.str z) = false := by
          show (decide (1 ≤ z.length) && (decide (z.length ≤ n) && z.cps.toList.all signB)) = _
          rw [decide_eq_false (show ¬ z.length ≤ n by omega)]; simp
        rw [← e]
        exact k H Kq.refl
    · refine ⟨_, rfl, iteF ?_⟩
      have e : wordB n (.str z) = false := by
        show (decide (1 ≤ z.length) && (decide (z.length ≤ n) && z.cps.toList.all signB)) = _
        rw [decide_eq_false (show ¬ 1 ≤ z.length by omega)]; simp
      rw [← e]
      exact k H Kq.refl
  | int i =>
    exact ⟨_, rfl, _, _, _, _, false, rfl, .ty _, .base (.int _), kit_ty (by decide +kernel), _, rfl, iteF (k H Kq.refl)⟩
  | _ => exact hs.elim
def numB (lo hi : Int) : V → Bool
  | .int i => decide (lo ≤ i) && decide (i ≤ hi)
  | _ => false
theorem numB_times (v : V) : numB 1 9 v = timesB v := by cases v <;> rfl
def sp_is_number : Sp := fun vs H Q _ => ∃ v lo hi, vs = [v, .int lo, .int hi] ∧ flatV v = true ∧ (∀ b, v ≠ .bl b) ∧ Q (.bl (numB lo hi v)) H
theorem sc_is_number : FnScope ["number", "least", "most"] ["number", "least", "most"] (defScope s_is_number) := ⟨rfl, rfl, rfl, by decide +kernel, rfl, by decide +kernel, by decide +kernel⟩
theorem ok_is_number (T : Tx w K mg) : Fk P w K mg base 1 (Ad K d_is_number.at_) ["number", "least", "most"] sp_is_number := by
  refine mkF T.f_is_number sc_is_number rfl (fun _ _ _ _ _ _ us hl => match us, hl with | [_, _, _], _ => rfl) (fun vs H Q E h => by obtain ⟨_, _, _, rfl, _⟩ := h; rfl) (fun cdv A outer s H vs Q E hcd hcode hr h => ?_)
  refine ⟨_, (pss_one (ps_ret (pe_and (pe_callB call_isi (by rfl) T.n_isinstance (by decide +kernel) (pa_cons (pv 0) (pa_cons (pe_bltn (v := .ty "int") (by rfl) T.n_int (by decide +kernel) rfl) pa_nil))) (pe_and (pe_not (pe_callB call_isi (by rfl) T.n_isinstance (by decide +kernel) (pa_cons (pv 0) (pa_cons (pe_bltn (v := .ty "bool") (by rfl) T.n_bool (by decide +kernel) rfl) pa_nil)))) (pe_one (pe_chain op_le op_le (pv 1) (pv 0) (pv 2))))))), ?_⟩
  obtain ⟨v, lo, hi, rfl, hs, hb, k⟩ := h
  cases v with
  | str z =>
    exact ⟨_, rfl, _, _, _, _, false, rfl, .ty _, .base (.str _), kit_ty (by decide +kernel), _, rfl, iteF k⟩
  | int i =>
    refine ⟨_, rfl, _, _, _, _, true, rfl, .ty _, .base (.int _), kit_ty (by decide +kernel), _, rfl, iteT ?_⟩
    refine ⟨_, rfl, _, _, _, _, false, rfl, .ty _, .base (.int _), kit_ty (by decide +kernel), _, rfl, _, rfl, iteT ?_⟩
    refine ⟨_, rfl, _, rfl, _, _, rfl, rfl, _, rfl, iteD (fun h1 => ?_) (fun h1 => ?_)⟩
    · refine ⟨_, rfl, _, _, rfl, rfl, ?_⟩
      have e : numB lo hi (.int i) = decide (i ≤ hi) := by
        show (decide (lo ≤ i) && decide (i ≤ hi)) = _
        rw [decide_eq_true h1]; rfl
      rw [e] at k
      exact k
    · have e : numB lo hi (.int i) = false := by
        show (decide (lo ≤ i) && decide (i ≤ hi)) = _
        rw [decide_eq_false h1]; rfl
      rw [← e]
      exact k
  | bl b => exact absurd rfl (hb b)
  | non => exact ⟨_, rfl, _, _, _, _, false, rfl, .ty _, .base .non, kit_ty (by decide +kernel), _, rfl, iteF k⟩
  | _ => exact (Bool.noConfusion (show false = true from hs))
theorem small_noB {v : V} (h : smallV v) : ∀ b, v ≠ .bl b := by
  rintro b rfl
  exact h.elim
def sp_is_key (K : PySem.W.Frag) : Sp := fun vs H Q _ => ∃ a xs act, vs = [.ref a] ∧ SqT K H a xs ∧ (∀ x ∈ xs, smallV x) ∧ TabG H (tS K) ∧ (∀ k, xs = [k] → ActIs K k (act k)) ∧ ∀ H', Kq [] H H' → Q (.bl (keyB act xs)) H'
theorem sc_is_key : FnScope ["key", "sign", "word", "name", "many", "kind"] ["key"] (defScope s_is_key) := ⟨rfl, rfl, rfl, by decide +kernel, rfl, by decide +kernel, by decide +kernel⟩
theorem ok_is_key (T : Tx w K mg) (B : TabB base mg (cS K) (tS K)) : Fk P w K mg base 3 (Ad K d_is_key.at_) ["key"] (sp_is_key K) := by
  obtain ⟨t_LONGEST_WORD, h_LONGEST_WORD⟩ := T.i_LONGEST_WORD
  obtain ⟨t_MOST_TIMES, h_MOST_TIMES⟩ := T.i_MOST_TIMES
  have F_is_number := ok_is_number (P := P) (base := base) T
  have F_is_word := ok_is_word (P := P) (base := base) T B
  refine mkF T.f_is_key sc_is_key rfl (fun _ _ _ _ _ _ us hl => match us, hl with | [_], _ => rfl) (fun vs H Q E h => by obtain ⟨_, _, _, rfl, _⟩ := h; rfl) (fun cdv A outer s H vs Q E hcd hcode hr h => ?_)
  obtain ⟨_, _, DA⟩ := T.tab
  refine ⟨_, (pss_cons (ps_if (pt_not (pt_val (pe_callB call_isi (by rfl) T.n_isinstance (by decide +kernel) (pa_cons (pv 0) (pa_cons (pe_bltn (v := .ty "tuple") (by rfl) T.n_tuple (by decide +kernel) rfl) pa_nil))))) (pss_one (ps_ret pe_bl)) pss_nil)
      (pss_one (ps_match rfl sc_is_key.nd (pv 0) (.seq (.lit (.cap (i := 1) rfl (.inl rfl) (.inl rfl) .nil)) (pss_one (ps_ret (pe_cF F_is_word (hr.mono (by decide)) T.g_is_word px (pa_cons (pv 1) (pa_cons pe_int pa_nil))))) (.seq (.lit (.cap (i := 2) rfl (.inl rfl) (.inl rfl) .nil)) (pss_one (ps_ret (pe_cF F_is_word (hr.mono (by decide)) T.g_is_word px (pa_cons (pv 2) (pa_cons (pe_glob (v := .int 4) (by rfl) h_LONGEST_WORD ⟨_, rfl⟩) pa_nil))))) (.seq (.lit (.cap (i := 3) rfl (.inl rfl) (.inl rfl) (.cap (i := 4) rfl (.inl rfl) (.inl rfl) .nil))) (pss_one (ps_ret (pe_and (pe_cmpR op_in_seq (pv 3) (pe_glob (v := .ref (He.ga K "NAMES")) rfl T.g_NAMES rfl) (by rfl)) (pe_one (pe_cF F_is_number (hr.mono (by decide)) T.g_is_number px (pa_cons (pv 4) (pa_cons pe_int (pa_cons (pe_glob (v := .int 9) (by rfl) h_MOST_TIMES ⟨_, rfl⟩) pa_nil)))))))) (.seq (.lit (.cap (i := 3) rfl (.inl rfl) (.inl rfl) .nil)) (pss_one (ps_ret (pe_cmpR op_in_seq (pv 3) (pe_glob (v := .ref (He.ga K "NAMES")) rfl T.g_NAMES rfl) (by rfl)))) (.seq (.cap (i := 5) rfl (.inl rfl) (.inl rfl) .nil) (pss_one (ps_ret (pe_cmpR (op_in_kd DA) (pv 5) (pe_glob (v := .ref (He.ga K "ACTIONS")) rfl T.g_ACTIONS rfl) (by rfl)))) (.any (pss_one (ps_ret pe_bl))))))))))), ?_⟩
  obtain ⟨a, xs, act, rfl, ht, hs, hT, hact, k⟩ := h
  refine ⟨_, rfl, _, _, _, _, true, rfl, .ty _, tyx_tup ht, kit_ty (by decide +kernel), _, rfl, iteF ?_⟩
  refine ⟨_, rfl, a, xs, rfl, ht, fun x hx => flatS_small (hs x hx), ?_⟩
  have k0 : ∀ b, keyB act xs = b → ∀ H', Kq [] H H' → Q (.bl b) H' := fun b e H' k' => e ▸ k H' k'
  match xs, ht, hs, hact, k0 with
  | [], _, _, _, k0 => exact k0 false rfl H Kq.refl
  | [x0], _, hs, hact, k0 =>
    obtain ⟨z, r, e1, e2, e3⟩ := hact x0 rfl
    subst e1
    exact ⟨_, rfl, z, r, rfl, rfl, e2, k0 _ e3 H Kq.refl⟩
  | [x0, x1], _, hs, _, k0 =>
    have h1 : smallV x1 := hs x1 (by simp)
    refine ite_lit2 (fun e => ?_) (fun n1 => ite_lit2 (fun e => ?_) (fun n2 => ite_lit2 (fun e => ?_) (fun n3 => ?_)))
    · exact ⟨_, rfl, x1, 1, rfl, h1, hT, fun H' k' => k0 _ (by show (if x0 = .str "put" then _ else _) = _; rw [if_pos e]) H' k'⟩
    · exact ⟨_, rfl, x1, 4, rfl, h1, hT, fun H' k' => k0 _ (by show (if x0 = .str "put" then _ else if x0 = .str "find" then _ else _) = _; rw [if_neg n1, if_pos e]) H' k'⟩
    · exact ⟨_, rfl, _, _, rfl, .inr (T.names H), flatV_small h1, by decide +kernel, k0 _ (by show (if x0 = .str "put" then _ else if x0 = .str "find" then _ else if x0 = .str "till" then _ else _) = _; rw [if_neg n1, if_neg n2, if_pos e]; rfl) H Kq.refl⟩
    · exact k0 false (by show (if x0 = .str "put" then _ else if x0 = .str "find" then _ else if x0 = .str "till" then _ else _) = _; rw [if_neg n1, if_neg n2, if_neg n3]) H Kq.refl
  | [x0, x1, x2], _, hs, _, k0 =>
    have h1 : smallV x1 := hs x1 (by simp)
    have h2 : smallV x2 := hs x2 (by simp)
    refine ite_lit3 (fun e => ?_) (fun n1 => ?_)
    · refine ⟨_, rfl, _, _, rfl, .inr (T.names H), flatV_small h1, by decide +kernel, ?_⟩
      have e0 : keyB act [x0, x1, x2] = (nameB x1 && timesB x2) := by show (if x0 = .str "play" then _ else _) = _; rw [if_pos e]
      cases hn : inV x1 namesV with
      | true => exact ⟨_, rfl, iteT ⟨_, rfl, x2, 1, 9, rfl, flatV_small h2, small_noB h2, k0 _ (e0.trans (by show (inV x1 namesV && timesB x2) = _; rw [hn, numB_times]; rfl)) H Kq.refl⟩⟩
      | false => exact ⟨_, rfl, iteF (k0 _ (e0.trans (by show (inV x1 namesV && timesB x2) = _; rw [hn]; rfl)) H Kq.refl)⟩
    · exact k0 false (by show (if x0 = .str "play" then _ else _) = _; rw [if_neg n1]) H Kq.refl
  | _ :: _ :: _ :: _ :: _, _, _, _, k0 => exact k0 false rfl H Kq.refl
end
end KT
set_option Elab.async false
set_option linter.all false
set_option maxRecDepth 100000
set_option maxHeartbeats 4000000
namespace KT
open PySem PySem.Spec PyProof.Rows L2 GxR
/-! ### what may be written: lists, dicts, instances but pages -/
def mutO : HO → Bool
  | .lst _ => true
  | .dK _ => true
  | .ins _ _ ((k, _) :: _) => !decide (k = "rows")
  | _ => false
structure Kf (S : List Addr) (H H' : Hp) : Prop where
  q : Kq S H H'
  w : ∀ b ∈ S, ∃ o, H b = some o ∧ mutO o = true
  w' : ∀ b ∈ S, ∃ o, H' b = some o ∧ mutO o = true
section
variable {S S' : List Addr} {H H1 H2 : Hp} {K : PySem.W.Frag}
theorem mut_noTbl {o : HO} (h : mutO o = true) : noTbl o = true := by
  cases o <;> first | rfl | cases h
theorem Kf.refl (w : ∀ b ∈ S, ∃ o, H b = some o ∧ mutO o = true) : Kf S H H := ⟨Kq.refl, w, w⟩
theorem Kf.trans (a : Kf S H H1) (b : Kf S H1 H2) : Kf S H H2 := ⟨a.q.trans b.q, a.w, b.w'⟩
theorem Kf.kq (a : Kf S H H1) (b : Kq [] H1 H2) : Kf S H H2 := ⟨a.q.trans b.of, a.w, fun c hc => by
  obtain ⟨o, h1, h2⟩ := a.w' c hc
  exact ⟨o, b.get h1 (mut_noTbl h2), h2⟩⟩
theorem Kf.of (b : Kq [] H H1) (w : ∀ b ∈ S, ∃ o, H b = some o ∧ mutO o = true) : Kf S H H1 := (Kf.refl w).kq b
theorem Kf.cat (b : Kq [] H H1) (a : Kf S H1 H2) (w : ∀ b ∈ S, ∃ o, H b = some o ∧ mutO o = true) : Kf S H H2 := (Kf.of b w).trans a
theorem Kf.not (a : Kf S H H1) {b : Addr} {o : HO} (h : H b = some o) (n : mutO o = false) : b ∉ S := fun hb => by
  obtain ⟨u, h1, h2⟩ := a.w b hb
  rw [h] at h1
  cases h1
  rw [n] at h2
  cases h2
theorem Kf.get (a : Kf S H H1) {b : Addr} {o : HO} (h : H b = some o) (n : mutO o = false) (t : noTbl o = true := by rfl) : H1 b = some o := a.q.at_ b o h t (a.not h n)
theorem Kf.tup (a : Kf S H H1) {l : Addr} {xs : List V} (h : SqT K H l xs) : SqT K H1 l xs := by
  rcases h with (h | ⟨o, h⟩) | h
  · exact .inl (.inl (a.get h rfl))
  · exact .inl (.inr ⟨o, a.get h rfl⟩)
  · exact .inr h
theorem Kf.key (a : Kf S H H1) {p : Addr} {k : Ky} (h : KeyAt K H p k) : KeyAt K H1 p k := a.tup h
theorem Kf.page (a : Kf S H H1) {p : Addr} {g : Pg} (h : PageAt K H p g) : PageAt K H1 p g := by
  obtain ⟨dx, t, h1, h2⟩ := h
  exact ⟨dx, t, a.get h1 (by show (!decide (("rows" : Str) = "rows")) = false; simp), a.tup h2⟩
theorem Kf.write {p : Addr} {o u : HO} (hp : H p = some u) (hS : p ∈ S) (hm : mutO o = true) (w : ∀ b ∈ S, ∃ o, H b = some o ∧ mutO o = true) : Kf S H (upd H p o) :=
  ⟨Kq.write hp hS (by obtain ⟨o', h1, h2⟩ := w p hS; rw [hp] at h1; cases h1; exact mut_noTbl h2), w, fun b hb => by
    by_cases e : b = p
    · rw [e, upd_same]; exact ⟨o, rfl, hm⟩
    · rw [upd_ne e]; exact w b hb⟩
/-- a list of keys, by their addresses -/
inductive KeysAt (K : PySem.W.Frag) (H : Hp) : List Addr → List Ky → Prop where
  | nil : KeysAt K H [] []
  | cons {a : Addr} {k : Ky} {as : List Addr} {ks : List Ky} (h : KeyAt K H a k) (r : KeysAt K H as ks) : KeysAt K H (a :: as) (k :: ks)
theorem KeysAt.imp {as : List Addr} {ks : List Ky} (f : ∀ a k, KeyAt K H a k → KeyAt K H1 a k) (h : KeysAt K H as ks) : KeysAt K H1 as ks := by
  induction h with
  | nil => exact .nil
  | cons h _ ih => exact .cons (f _ _ h) ih
theorem Kf.keys (a : Kf S H H1) {as : List Addr} {ks : List Ky} (h : KeysAt K H as ks) : KeysAt K H1 as ks := h.imp fun _ _ z => a.key z
theorem Kq.keys (a : Kq [] H H1) {as : List Addr} {ks : List Ky} (h : KeysAt K H as ks) : KeysAt K H1 as ks := h.imp fun _ _ z => a.key z
theorem KeysAt.snoc {as : List Addr} {ks : List Ky} {a : Addr} {k : Ky} (h : KeysAt K H as ks) (hk : KeyAt K H a k) : KeysAt K H (as ++ [a]) (ks ++ [k]) := by
  induction h with
  | nil => exact .cons hk .nil
  | cons h _ ih => exact .cons h ih
theorem KeysAt.at_ {as : List Addr} {ks : List Ky} (h : KeysAt K H as ks) : ∀ {i : Nat} (h1 : i < as.length) (h2 : i < ks.length), KeyAt K H as[i] ks[i] := by
  induction h with
  | nil => intro i h1 h2; simp at h1
  | cons h _ ih =>
    intro i h1 h2
    cases i with
    | zero => exact h
    | succ i => exact ih (by simpa using h1) (by simpa using h2)
theorem KeysAt.len {as : List Addr} {ks : List Ky} (h : KeysAt K H as ks) : as.length = ks.length := by
  induction h with
  | nil => rfl
  | cons _ _ ih => simp [ih]
end
end KT
set_option Elab.async false
set_option linter.all false
set_option maxRecDepth 100000
set_option maxHeartbeats 4000000
namespace KT
open PySem PySem.Spec PyProof.Rows L2 GxR
/-! ### keys refused -/
theorem keyV_small {ky : Ky} (h : ky.Ok) : ∀ x ∈ keyV ky, smallV x := by
  have kw : ∀ z : Str, z.length ≤ 1000 → smallV (.str z) := fun z h => h
  have lit : ∀ x, x ∈ ([.str "put", .str "find", .str "break", .str "rub", .str "left", .str "right", .str "up", .str "down", .str "home", .str "end", .str "take", .str "lay", .str "play", .str "till"] : List V) → smallV x := by
    intro x hx
    simp only [List.mem_cons, List.not_mem_nil, or_false] at hx
    rcases hx with rfl | rfl | rfl | rfl | rfl | rfl | rfl | rfl | rfl | rfl | rfl | rfl | rfl | rfl <;> exact kw _ (by decide +kernel)
  have nm : ∀ n, smallV (.str (nameS n)) := fun n => by show (nameS n).length ≤ 1000; unfold nameS; rw [S_len]; simp
  cases ky with
  | put s => intro x hx; simp only [keyV, List.mem_cons, List.not_mem_nil, or_false] at hx; rcases hx with rfl | rfl; exact lit _ (by simp); exact kw _ (by rw [S_len]; have := h.1; omega)
  | find s => intro x hx; simp only [keyV, List.mem_cons, List.not_mem_nil, or_false] at hx; rcases hx with rfl | rfl; exact lit _ (by simp); exact kw _ (by rw [S_len]; have := h.2.1; omega)
  | play n m => intro x hx; simp only [keyV, List.mem_cons, List.not_mem_nil, or_false] at hx; rcases hx with rfl | rfl | rfl; exact lit _ (by simp); exact nm n; exact True.intro
  | till n => intro x hx; simp only [keyV, List.mem_cons, List.not_mem_nil, or_false] at hx; rcases hx with rfl | rfl; exact lit _ (by simp); exact nm n
  | _ => intro x hx; simp only [keyV, List.mem_cons, List.not_mem_nil, or_false] at hx; subst hx; exact lit _ (by simp)
theorem signs_ok {s : Ln} (h : ∀ c ∈ s, okSign c) : s.all signB = true := by
  rw [List.all_eq_true]
  intro c hc
  rw [signB_eq]
  exact decide_eq_true (h c hc)
theorem nameB_ok {n : Nat} (h : n < 8) : nameB (.str (nameS n)) = true := by
  have : ∀ n, n < 8 → nameB (.str (nameS n)) = true := by decide +kernel
  exact this n h
theorem keyB2 (act : V → Bool) (k x : V) : keyB act [k, x] = if k = .str "put" then wordB 1 x else if k = .str "find" then wordB 4 x else if k = .str "till" then nameB x else false := rfl
theorem keyB3 (act : V → Bool) (k x m : V) : keyB act [k, x, m] = if k = .str "play" then nameB x && timesB m else false := rfl
theorem keyB_ok {ky : Ky} (h : ky.Ok) : keyB (fun _ => true) (keyV ky) = true := by
  have put : ¬ ((.str "find" : V) = .str "put") := by decide +kernel
  have t1 : ¬ ((.str "till" : V) = .str "put") := by decide +kernel
  have t2 : ¬ ((.str "till" : V) = .str "find") := by decide +kernel
  cases ky with
  | put s =>
    obtain ⟨h1, h2⟩ := h
    show keyB _ [.str "put", .str (S s)] = true
    rw [keyB2, if_pos rfl]
    show (decide (1 ≤ (S s).length) && (decide ((S s).length ≤ 1) && (S s).cps.toList.all signB)) = true
    rw [S_len, show (S s).cps.toList = s by simp, signs_ok h2, h1]; rfl
  | find s =>
    obtain ⟨h0, h1, h2⟩ := h
    show keyB _ [.str "find", .str (S s)] = true
    rw [keyB2, if_neg put, if_pos rfl]
    show (decide (1 ≤ (S s).length) && (decide ((S s).length ≤ 4) && (S s).cps.toList.all signB)) = true
    rw [S_len, show (S s).cps.toList = s by simp, signs_ok h2, decide_eq_true h0, decide_eq_true h1]; rfl
  | play n m =>
    obtain ⟨h0, h1, h2⟩ := h
    show keyB _ [.str "play", .str (nameS n), .int m] = true
    rw [keyB3, if_pos rfl, nameB_ok h0]
    show (true && (decide (1 ≤ (m : Int)) && decide ((m : Int) ≤ 9))) = true
    rw [decide_eq_true (by omega), decide_eq_true (by omega)]; rfl
  | till n =>
    show keyB _ [.str "till", .str (nameS n)] = true
    rw [keyB2, if_neg t1, if_neg t2, if_pos rfl]
    exact nameB_ok h
  | _ => rfl
section
variable {P : Program} {w : World} {K : PySem.W.Frag} {mg : Str → Option Value} {base : Heap}
theorem act_ok (T : Tx w K mg) {ky : Ky} : ∀ k, keyV ky = [k] → ActIs K k true := by
  have a : ∀ (i : Nat) (q : Str × He.Dv), acts[i]? = some q → ActIs K (.str q.1) true := fun i q h => by
    obtain ⟨u, h1, h2⟩ := T.vals (List.mem_of_getElem? h)
    exact ⟨_, _, rfl, h1, rfl⟩
  intro k h
  cases ky <;> first | (cases h; done) | (injection h with h1 _; subst h1; first | exact a 0 _ rfl | exact a 1 _ rfl | exact a 2 _ rfl | exact a 3 _ rfl | exact a 4 _ rfl | exact a 5 _ rfl | exact a 6 _ rfl | exact a 7 _ rfl | exact a 8 _ rfl | exact a 9 _ rfl)
def sp_check_key (K : PySem.W.Frag) : Sp := fun vs H Q E => ∃ a xs act, vs = [.ref a] ∧ SqT K H a xs ∧ (∀ x ∈ xs, smallV x) ∧ TabG H (tS K) ∧ (∀ k, xs = [k] → ActIs K k (act k)) ∧
  (keyB act xs = true → ∀ H', Kq [] H H' → Q .non H') ∧ (keyB act xs = false → ∀ H', Kq [] H H' → E (.ref (He.ga K "BadKey")) none H')
theorem sc_check_key : FnScope ["key"] ["key"] (defScope s_check_key) := ⟨rfl, rfl, rfl, by decide +kernel, rfl, by decide +kernel, by decide +kernel⟩
theorem ok_check_key (T : Tx w K mg) (B : TabB base mg (cS K) (tS K)) : Fk P w K mg base 4 (Ad K d_check_key.at_) ["key"] (sp_check_key K) := by
  have F_is_key := ok_is_key (P := P) (base := base) T B
  refine mkF T.f_check_key sc_check_key rfl (fun _ _ _ _ _ _ us hl => match us, hl with | [_], _ => rfl) (fun vs H Q E h => by obtain ⟨_, _, _, rfl, _⟩ := h; rfl) (fun cdv A outer s H vs Q E hcd hcode hr h => ?_)
  have tk : Takes (CxD P w K mg base ["key"] d_check_key cdv A outer s H E) (fun cls d _ H => E cls d H) := takes_of rfl rfl rfl rfl
  refine ⟨_, (pss_one (ps_if (pt_not (pt_val (pe_cF F_is_key (hr.mono (by decide)) T.g_is_key px (pa_cons (pv 0) pa_nil)))) (pss_one (ps_raise rfl tk (pmk_BadKey T rfl))) pss_nil)), ?_⟩
  obtain ⟨a, xs, act, rfl, ht, hs, hT, hact, kt, kf⟩ := h
  refine ⟨_, rfl, a, xs, act, rfl, ht, hs, hT, hact, fun H' k' => ⟨_, rfl, ?_⟩⟩
  cases hb : keyB act xs with
  | true => exact iteF (kt hb H' k')
  | false => exact iteT (kf hb H' k')
/-- a key of the program is let by -/
theorem check_ok (T : Tx w K mg) {a : Addr} {ky : Ky} {H : Hp} {Q : VK} {E : XK} (hk : KeyAt K H a ky) (ok : ky.Ok) (hT : TabG H (tS K)) (k : ∀ H', Kq [] H H' → Q .non H') : sp_check_key K [.ref a] H Q E :=
  ⟨a, keyV ky, fun _ => true, rfl, hk, keyV_small ok, hT, fun x e => act_ok T x e, fun _ => k, fun e => absurd ((keyB_ok ok).symm.trans e) (by simp)⟩
/-! ### tapes -/
def TapeAt (K : PySem.W.Frag) (H : Hp) (a : Addr) (ks : List Ky) : Prop := ∃ as : List Addr, SqT K H a (as.map V.ref) ∧ KeysAt K H as ks
def names8 : List Key := [.inr (nameS 0), .inr (nameS 1), .inr (nameS 2), .inr (nameS 3), .inr (nameS 4), .inr (nameS 5), .inr (nameS 6), .inr (nameS 7)]
/-- a dict of the eight tapes stands at t -/
def TapesAt (K : PySem.W.Frag) (H : Hp) (t : Addr) (tp : Nat → List Ky) : Prop := ∃ kvs : List (Key × V), H t = some (.dK kvs) ∧ kvs.map (·.1) = names8 ∧ ∀ n, n < 8 → ∃ a, valV kvs (.inr (nameS n)) = some (.ref a) ∧ TapeAt K H a (tp n)
structure TpOk (tp : Nat → List Ky) : Prop where
  len : ∀ n, n < 8 → (tp n).length ≤ 30
  ok : ∀ n, n < 8 → ∀ k ∈ tp n, k.Ok
theorem Kf.tape {S : List Addr} {H H1 : Hp} {a : Addr} {ks : List Ky} (k : Kf S H H1) (h : TapeAt K H a ks) : TapeAt K H1 a ks := by
  obtain ⟨as, h1, h2⟩ := h
  exact ⟨as, k.tup h1, k.keys h2⟩
theorem Kf.tapes {S : List Addr} {H H1 : Hp} {t : Addr} {tp : Nat → List Ky} (k : Kf S H H1) (h : TapesAt K H t tp) (n : t ∉ S) : TapesAt K H1 t tp := by
  obtain ⟨kvs, h1, h2, h3⟩ := h
  refine ⟨kvs, k.q.at_ t _ h1 rfl n, h2, fun n hn => ?_⟩
  obtain ⟨a, h4, h5⟩ := h3 n hn
  exact ⟨a, h4, k.tape h5⟩
theorem Kq.tape {H H1 : Hp} {a : Addr} {ks : List Ky} (k : Kq [] H H1) (h : TapeAt K H a ks) : TapeAt K H1 a ks := by
  obtain ⟨as, h1, h2⟩ := h
  exact ⟨as, k.tup h1, k.keys h2⟩
theorem Kq.tapes {H H1 : Hp} {t : Addr} {tp : Nat → List Ky} (k : Kq [] H H1) (h : TapesAt K H t tp) : TapesAt K H1 t tp := (Kf.of (S := []) k (fun b hb => absurd hb (by simp))).tapes h (by simp)
/-! ### the player -/
def playerF (p t y : Addr) (n : Nat) : List (Str × V) := [("page", .ref p), ("tapes", .ref t), ("typed", .ref y), ("things", .int n)]
theorem playerF_page (p t y : Addr) (n : Nat) : (playerF p t y n).lookup ("page" : Str) = some (.ref p) := by kernel_rfl
theorem playerF_tapes (p t y : Addr) (n : Nat) : (playerF p t y n).lookup ("tapes" : Str) = some (.ref t) := by kernel_rfl
theorem playerF_typed (p t y : Addr) (n : Nat) : (playerF p t y n).lookup ("typed" : Str) = some (.ref y) := by kernel_rfl
theorem playerF_things (p t y : Addr) (n : Nat) : (playerF p t y n).lookup ("things" : Str) = some (.int n) := by kernel_rfl
theorem playerF_put_things (p t y : Addr) (n : Nat) (m : Nat) : putF "things" (.int m) (playerF p t y n) = playerF p t y m := by kernel_rfl
theorem playerF_put_page (p t y q : Addr) (n : Nat) : putF "page" (.ref q) (playerF p t y n) = playerF q t y n := by kernel_rfl
theorem playerF_make (p t y : Addr) : putF "things" (.int 0) (putF "typed" (.ref y) (putF "tapes" (.ref t) (putF "page" (.ref p) []))) = playerF p t y 0 := by kernel_rfl
theorem playerF_no_add (p t y : Addr) (n : Nat) : (playerF p t y n).lookup ("add_thing" : Str) = none := by kernel_rfl
theorem playerF_no_do (p t y : Addr) (n : Nat) : (playerF p t y n).lookup ("do" : Str) = none := by kernel_rfl
theorem playerF_no_play (p t y : Addr) (n : Nat) : (playerF p t y n).lookup ("play" : Str) = none := by kernel_rfl
theorem playerF_no_till (p t y : Addr) (n : Nat) : (playerF p t y n).lookup ("play_till" : Str) = none := by kernel_rfl
theorem playerF_no_once (p t y : Addr) (n : Nat) : (playerF p t y n).lookup ("play_once" : Str) = none := by kernel_rfl
theorem mut_player (C dx p t y : Addr) (n : Nat) : mutO (.ins C dx (playerF p t y n)) = true := by kernel_rfl
/-- a player stands at x, its list of keys at y, over the tapes at t -/
structure PlAt (K : PySem.W.Frag) (H : Hp) (x t y : Addr) (tp : Nat → List Ky) (st : PSt) : Prop where
  ex : ∃ dx p as, H x = some (.ins (He.ga K "Player") dx (playerF p t y st.things)) ∧ PageAt K H p st.page ∧ H y = some (.lst (as.map V.ref)) ∧ KeysAt K H as st.typed
  tapes : TapesAt K H t tp
  tok : TpOk tp
  sign : TabG H (tS K)
  ok : st.page.Ok
  small : st.typed.length ≤ st.things
  low : st.things ≤ 401
theorem PlAt.wr {H : Hp} {x t y : Addr} {tp : Nat → List Ky} {st : PSt} (h : PlAt K H x t y tp st) : ∀ b ∈ [x, y], ∃ o, H b = some o ∧ mutO o = true := by
  obtain ⟨dx, p, as, h1, _, h3, _⟩ := h.ex
  intro b hb
  simp only [List.mem_cons, List.not_mem_nil, or_false] at hb
  rcases hb with rfl | rfl
  · exact ⟨_, h1, mut_player _ _ _ _ _ _⟩
  · exact ⟨_, h3, rfl⟩
theorem PlAt.nt {H : Hp} {x t y : Addr} {tp : Nat → List Ky} {st : PSt} (h : PlAt K H x t y tp st) : t ∉ [x, y] := by
  obtain ⟨dx, p, as, h1, _, h3, _⟩ := h.ex
  obtain ⟨kvs, h4, _⟩ := h.tapes
  intro hb
  simp only [List.mem_cons, List.not_mem_nil, or_false] at hb
  rcases hb with rfl | rfl
  · rw [h1] at h4; cases h4
  · rw [h3] at h4; cases h4
theorem PlAt.kq {H H' : Hp} {x t y : Addr} {tp : Nat → List Ky} {st : PSt} (h : PlAt K H x t y tp st) (k : Kq [] H H') : PlAt K H' x t y tp st := by
  obtain ⟨dx, p, as, h1, h2, h3, h4⟩ := h.ex
  exact ⟨⟨dx, p, as, k.get h1, k.page h2, k.get h3, k.keys h4⟩, k.tapes h.tapes, h.tok, k.tab _ h.sign, h.ok, h.small, h.low⟩
def sp_add_thing (K : PySem.W.Frag) : Sp := fun vs H Q E => ∃ x t y tp st, vs = [.ref x] ∧ PlAt K H x t y tp st ∧ st.things ≤ 400 ∧
  (∀ st' H', addT st = some st' → Kf [x, y] H H' → PlAt K H' x t y tp st' → Q .non H') ∧ (∀ H', addT st = none → Kf [x, y] H H' → E (.ref (He.ga K "TooLong")) none H')
theorem sc_Player_add_thing : FnScope ["self"] ["self"] (defScope s_Player_add_thing) := ⟨rfl, rfl, rfl, by decide +kernel, rfl, by decide +kernel, by decide +kernel⟩
theorem ok_Player_add_thing (T : Tx w K mg) : Fk P w K mg base 1 (Ad K d_Player_add_thing.at_) ["self"] (sp_add_thing K) := by
  obtain ⟨t_MOST_THINGS, h_MOST_THINGS⟩ := T.i_MOST_THINGS
  refine mkF T.f_Player_add_thing sc_Player_add_thing rfl (fun _ _ _ _ _ _ us hl => match us, hl with | [_], _ => rfl) (fun vs H Q E h => by obtain ⟨_, _, _, _, _, rfl, _⟩ := h; rfl) (fun cdv A outer s H vs Q E hcd hcode hr h => ?_)
  have tk : Takes (CxD P w K mg base ["self"] d_Player_add_thing cdv A outer s H E) (fun cls d _ H => E cls d H) := takes_of rfl rfl rfl rfl
  refine ⟨_, (pss_cons (ps_fldaug (pv 0) pe_int in_add)
      (pss_one (ps_if (pt_cmpR op_gt (pe_fld (pv 0) rfl) (pe_glob (v := .int 400) (by rfl) h_MOST_THINGS ⟨_, rfl⟩) (nomark _)) (pss_one (ps_raise rfl tk (pmk_TooLong T rfl))) pss_nil))), ?_⟩
  obtain ⟨x, t, y, tp, st, rfl, hP, h4, kt, kf⟩ := h
  obtain ⟨dx, p, as, h1, h2, h3, h5⟩ := hP.ex
  refine ⟨_, rfl, x, _, dx, _, _, rfl, h1, T.c_Player, T.a_Player_things, playerF_things _ _ _ _, _, _, rfl, rfl, dx, _, h1, (by show 4 < 1000; decide), ?_⟩
  rw [show ((st.things : Int) + 1) = ((st.things + 1 : Nat) : Int) by omega, playerF_put_things]
  have kw := Kf.write (S := [x, y]) (o := .ins (He.ga K "Player") dx (playerF p t y (st.things + 1))) h1 (by simp) (mut_player _ _ _ _ _ _) hP.wr
  have nyx : y ≠ x := fun e => by rw [e, h1] at h3; cases h3
  have hP' : PlAt K (upd H x (.ins (He.ga K "Player") dx (playerF p t y (st.things + 1)))) x t y tp { st with things := st.things + 1 } :=
    ⟨⟨dx, p, as, upd_same, kw.page h2, (upd_ne nyx).trans h3, kw.keys h5⟩, kw.tapes hP.tapes hP.nt, hP.tok, kw.q.tab _ hP.sign, hP.ok, Nat.le_succ_of_le hP.small, by show st.things + 1 ≤ 401; omega⟩
  refine ⟨_, rfl, x, _, dx, _, _, rfl, upd_same, T.c_Player, T.a_Player_things, playerF_things _ _ _ _, _, _, rfl, rfl, _, rfl, ?_⟩
  refine iteD (fun h => kf _ (by unfold addT; rw [if_neg (by omega)]) kw) (fun h => kt _ _ (by unfold addT; rw [if_pos (by omega)]) kw hP')
end
end KT
set_option Elab.async false
set_option linter.all false
set_option maxRecDepth 100000
set_option maxHeartbeats 4000000
namespace KT
open PySem PySem.Spec PyProof.Rows L2 GxR
section
variable {P : Program} {w : World} {K : PySem.W.Frag} {mg : Str → Option Value} {base : Heap}
/-- what a def of the player that plays comes to: long, or whether all fits -/
def spRes (K : PySem.W.Frag) (H : Hp) (x t y : Addr) (tp : Nat → List Ky) (r : Res) (Q : VK) (E : XK) : Prop :=
  (r = .long → ∀ H', Kf [x, y] H H' → E (.ref (He.ga K "TooLong")) none H') ∧ ∀ b st' H', r = .fin b st' → Kf [x, y] H H' → PlAt K H' x t y tp st' → st'.things ≤ 400 → Q (.bl b) H'
theorem spRes.pre {H H1 : Hp} {x t y : Addr} {tp : Nat → List Ky} {r : Res} {Q : VK} {E : XK} (h : spRes K H x t y tp r Q E) (k : Kf [x, y] H H1) : spRes K H1 x t y tp r Q E :=
  ⟨fun e H' k' => h.1 e H' (k.trans k'), fun b st' H' e k' a l => h.2 b st' H' e (k.trans k') a l⟩
theorem spRes.eq {H : Hp} {x t y : Addr} {tp : Nat → List Ky} {r r' : Res} {Q : VK} {E : XK} (h : spRes K H x t y tp r Q E) (e : r = r') : spRes K H x t y tp r' Q E := e ▸ h
def sp_do (K : PySem.W.Frag) (d : Nat) : Sp := fun vs H Q E => ∃ x t y tp st a ky, vs = [.ref x, .ref a, .int ((20 : Int) - (d : Int))] ∧ PlAt K H x t y tp st ∧ st.things ≤ 400 ∧ d ≤ 20 ∧ KeyAt K H a ky ∧ ky.Ok ∧ spRes K H x t y tp (doK tp d ky st) Q E
/-- the def under a play at d others -/
def sp_once (K : PySem.W.Frag) : Nat → Sp
  | 0 => fun _ _ _ _ => False
  | d + 1 => fun vs H Q E => ∃ x t y tp st n, vs = [.ref x, .str (nameS n), .int ((20 : Int) - (d : Int))] ∧ n < 8 ∧ PlAt K H x t y tp st ∧ st.things ≤ 400 ∧ d ≤ 20 ∧ spRes K H x t y tp (once (doK tp d) (tp n) st) Q E
def sp_play (K : PySem.W.Frag) (d : Nat) : Sp := fun vs H Q E => ∃ x t y tp st n m, vs = [.ref x, .str (nameS n), .int (m : Nat), .int ((20 : Int) - (d : Int))] ∧ n < 8 ∧ m ≤ 9 ∧ PlAt K H x t y tp st ∧ st.things ≤ 400 ∧ d ≤ 20 ∧ spRes K H x t y tp (playR tp (under tp d) (.play n m) st) Q E
def sp_till (K : PySem.W.Frag) (d : Nat) : Sp := fun vs H Q E => ∃ x t y tp st n, vs = [.ref x, .str (nameS n), .int ((20 : Int) - (d : Int))] ∧ n < 8 ∧ PlAt K H x t y tp st ∧ st.things ≤ 400 ∧ d ≤ 20 ∧ spRes K H x t y tp (playR tp (under tp d) (.till n) st) Q E
theorem sc_Player_do : FnScope ["self", "key", "around", "behind"] ["self", "key", "around"] (defScope s_Player_do) := ⟨rfl, rfl, rfl, by decide +kernel, rfl, by decide +kernel, by decide +kernel⟩
theorem ok_Player_do (T : Tx w K mg) {d k : Nat} (hk : 6 ≤ k) (F_Player_play : Fk P w K mg base k (Ad K d_Player_play.at_) ["self", "name", "many", "around"] (sp_play K d)) (F_Player_play_till : Fk P w K mg base k (Ad K d_Player_play_till.at_) ["self", "name", "around"] (sp_till K d)) : Fk P w K mg base (k + 1) (Ad K d_Player_do.at_) ["self", "key", "around"] (sp_do K d) := by
  have F_Player_add_thing := ok_Player_add_thing (P := P) (base := base) T
  have F_page_behind := ok_page_behind (P := P) (base := base) T
  refine mkF T.f_Player_do sc_Player_do rfl (fun _ _ _ _ _ _ us hl => match us, hl with | [_, _, _], _ => rfl) (fun vs H Q E h => by obtain ⟨_, _, _, _, _, _, _, rfl, _⟩ := h; rfl) (fun cdv A outer s H vs Q E hcd hcode hr h => ?_)
  refine ⟨_, (pss_cons (ps_expr (pe_mF0 _ (pv 0) T.c_Player T.m_Player_add_thing F_Player_add_thing (hr.mono (by omega)) px))
      (pss_cons (ps_if (pt_cmpR op_eq (pe_ix ix_tup (pv 1) pe_int (fun _ _ => rfl)) pe_str (nomark _)) (pss_one (ps_ret (pe_mF _ (pv 0) T.c_Player T.m_Player_play F_Player_play hr px (pa_cons (pe_ix ix_tup (pv 1) pe_int (fun _ _ => rfl)) (pa_cons (pe_ix ix_tup (pv 1) pe_int (fun _ _ => rfl)) (pa_cons (pv 2) pa_nil)))))) pss_nil)
      (pss_cons (ps_if (pt_cmpR op_eq (pe_ix ix_tup (pv 1) pe_int (fun _ _ => rfl)) pe_str (nomark _)) (pss_one (ps_ret (pe_mF _ (pv 0) T.c_Player T.m_Player_play_till F_Player_play_till hr px (pa_cons (pe_ix ix_tup (pv 1) pe_int (fun _ _ => rfl)) (pa_cons (pv 2) pa_nil))))) pss_nil)
      (pss_cons (ps_asg (pe_cF F_page_behind (hr.mono (by omega)) T.g_page_behind px (pa_cons (pe_fld (pv 0) rfl) (pa_cons (pv 1) pa_nil))) (pg_name (i := 3) sc_Player_do.nd rfl (.inl rfl)))
      (pss_cons (ps_if (pt_cmpR op_isN (pv 3) pe_non (nomark _)) (pss_one (ps_ret pe_bl)) pss_nil)
      (pss_cons (ps_fld (pv 0) (pv 3) rfl)
      (pss_cons (ps_expr (pe_bm PySem.F.plainAttrs_list PySem.F.slot_list_append PySem.F.type_list_append mt_append (pe_fld (pv 0) rfl) (pa_cons (pv 1) pa_nil)))
      (pss_one (ps_ret pe_bl))))))))), ?_⟩
  obtain ⟨x, t, y, tp, st, a, ky, rfl, hP, h4, hd, hk', kok, hres⟩ := h
  rw [doK_eq] at hres
  obtain ⟨dx0, p0, as0, g1, _⟩ := hP.ex
  refine ⟨_, rfl, x, _, _, rfl, g1, playerF_no_add _ _ _ _, x, t, y, tp, st, rfl, hP, h4, fun st1 H1 e1 k1 hP1 => ?_, fun H1 e1 k1 => ?_⟩
  rotate_left
  · rw [e1] at hres
    exact hres.1 rfl H1 k1
  rw [e1] at hres
  obtain ⟨ep, et, en, e400⟩ := addT_some e1
  have hka := k1.key hk'
  have hres1 : spRes K H1 x t y tp (playR tp (under tp d) ky st1) Q E := hres.pre k1
  obtain ⟨dx1, p1, as1, g2, gp, gy, gk⟩ := hP1.ex
  -- what a single key comes to
  have single : ky.single = true → playR tp (under tp d) ky st1 = singleR ky st1 → tSeq (tAsg (tCF (sp_page_behind K) E (tCons (tFld K (tVar 0) "page") (tCons (tVar 1) tNil))) (gName 3))
      (tSeq (tIfS (tTest (tOp (fun x y H Q => y = V.non ∧ Q (.bl (decide (x = .non))) H) (tVar 3) (tC .non))) (tRet (tC (.bl false))) tNext)
        (tSeq (sFld K (tVar 0) (tVar 3) "page") (tSeq (tDrop (tBM K "list" rAppend (tFld K (tVar 0) "typed") (tCons (tVar 1) tNil))) (tRet (tC (.bl true))))))
      { nx := fun _ H' => Q .non H', rt := Q } [some (.ref x), some (.ref a), some (.int ((20 : Int) - (d : Int))), none] H1 := by
    intro hsg hpr
    rw [hpr] at hres1
    refine ⟨_, rfl, x, _, dx1, _, _, rfl, g2, T.c_Player, T.a_Player_page, playerF_page _ _ _ _, _, rfl, p1, a, st1.page, ky, rfl, gp, hP1.ok, hka, kok, hsg, fun H2 k2 e2 => ?_, fun q H2 g' k2 e2 hq => ?_⟩
    · refine ⟨_, rfl, rfl, _, rfl, iteT ?_⟩
      refine hres1.2 false st1 H2 ?_ (Kf.of k2 hP1.wr) (hP1.kq k2) (by omega)
      unfold singleR; rw [e2]
    · refine ⟨_, rfl, rfl, _, rfl, iteF ?_⟩
      have hP2 := hP1.kq k2
      have hw2 := hP2.wr
      have g3 := k2.get g2
      have gy3 := k2.get gy
      have nyx : y ≠ x := fun e => by rw [e, g3] at gy3; cases gy3
      refine ⟨_, rfl, _, rfl, x, _, dx1, _, rfl, g3, T.c_Player, T.a_Player_page, (by show 4 < 1000; decide), ?_⟩
      rw [playerF_put_page]
      have kw := Kf.write (S := [x, y]) (o := .ins (He.ga K "Player") dx1 (playerF q t y st1.things)) g3 (by simp) (mut_player _ _ _ _ _ _) hw2
      have g4 : (upd H2 x (.ins (He.ga K "Player") dx1 (playerF q t y st1.things))) x = some (.ins (He.ga K "Player") dx1 (playerF q t y st1.things)) := upd_same
      have gy4 : (upd H2 x (.ins (He.ga K "Player") dx1 (playerF q t y st1.things))) y = some (.lst (as1.map V.ref)) := (upd_ne nyx).trans gy3
      generalize (upd H2 x (.ins (He.ga K "Player") dx1 (playerF q t y st1.things))) = H3 at kw g4 gy4 ⊢
      refine ⟨_, rfl, x, _, dx1, _, _, rfl, g4, T.c_Player, T.a_Player_typed, playerF_typed _ _ _ _, .inl ⟨rfl, _, SqL.of gy4⟩, _, rfl, y, _, _, rfl, rfl, gy4, ?_, ?_⟩
      · have := gk.len
        have h1 := hP1.small
        have h2 := hP1.low
        rw [List.length_map]
        exact small1000 (by omega)
      have kw2 := Kf.write (S := [x, y]) (o := .lst (as1.map V.ref ++ [V.ref a])) gy4 (by simp) rfl kw.w'
      have kk : Kf [x, y] H1 (upd H3 y (.lst (as1.map V.ref ++ [V.ref a]))) := (Kf.of k2 hP1.wr).trans (kw.trans kw2)
      refine hres1.2 true ⟨g', st1.typed ++ [ky], st1.things⟩ _ ?_ kk ⟨⟨dx1, q, as1 ++ [a], (upd_ne (Ne.symm nyx)).trans g4, (kw.trans kw2).page hq, ?_, (kk.keys gk).snoc (kk.key hka)⟩, kk.tapes hP1.tapes hP1.nt, hP1.tok, kk.q.tab _ hP1.sign, does_ok hP1.ok kok e2, ?_, hP1.low⟩ (by show st1.things ≤ 400; omega)
      · unfold singleR; rw [e2]
      · rw [upd_same, List.map_append]; rfl
      · show (st1.typed ++ [ky]).length ≤ st1.things
        rw [List.length_append, et]
        have := hP.small
        simp only [List.length_cons, List.length_nil]
        omega
  cases ky with
  | play n m =>
    refine ⟨_, rfl, a, _, _, _, rfl, rfl, hka, rfl, rfl, _, rfl, iteD (fun _ => ?_) (fun h => absurd rfl h)⟩
    have h1 : n < 8 := kok.1
    have h2 : m ≤ 9 := kok.2.2
    exact ⟨_, rfl, x, _, _, rfl, g2, playerF_no_play _ _ _ _, _, rfl, a, _, _, _, rfl, rfl, hka, rfl, _, rfl, a, _, _, _, rfl, rfl, hka, rfl, _, rfl, x, t, y, tp, st1, n, m, rfl, h1, h2, hP1, by omega, hd, hres1⟩
  | till n =>
    refine ⟨_, rfl, a, _, _, _, rfl, rfl, hka, rfl, rfl, _, rfl, iteD (fun h => absurd h (by decide +kernel)) (fun _ => ?_)⟩
    refine ⟨_, rfl, a, _, _, _, rfl, rfl, hka, rfl, rfl, _, rfl, iteD (fun _ => ?_) (fun h => absurd rfl h)⟩
    exact ⟨_, rfl, x, _, _, rfl, g2, playerF_no_till _ _ _ _, _, rfl, a, _, _, _, rfl, rfl, hka, rfl, _, rfl, x, t, y, tp, st1, n, rfl, kok, hP1, by omega, hd, hres1⟩
  | _ =>
    refine ⟨_, rfl, a, _, _, _, rfl, rfl, hka, rfl, rfl, _, rfl, iteD (fun h => absurd h (by decide +kernel)) (fun _ => ?_)⟩
    refine ⟨_, rfl, a, _, _, _, rfl, rfl, hka, rfl, rfl, _, rfl, iteD (fun h => absurd h (by decide +kernel)) (fun _ => ?_)⟩
    exact single rfl rfl
theorem sc_Player_play_once : FnScope ["self", "name", "around", "key"] ["self", "name", "around"] (defScope s_Player_play_once) := ⟨rfl, rfl, rfl, by decide +kernel, rfl, by decide +kernel, by decide +kernel⟩
theorem ok_Player_play_once (T : Tx w K mg) {d k : Nat} (hk : 6 ≤ k) (F_Player_do : Fk P w K mg base k (Ad K d_Player_do.at_) ["self", "key", "around"] (sp_do K d)) : Fk P w K mg base (k + 1) (Ad K d_Player_play_once.at_) ["self", "name", "around"] (sp_once K (d + 1)) := by
  have F_Player_add_thing := ok_Player_add_thing (P := P) (base := base) T
  refine mkF T.f_Player_play_once sc_Player_play_once rfl (fun _ _ _ _ _ _ us hl => match us, hl with | [_, _, _], _ => rfl) (fun vs H Q E h => by obtain ⟨_, _, _, _, _, _, rfl, _⟩ := h; rfl) (fun cdv A outer s H vs Q E hcd hcode hr h => ?_)
  have po : PassesOwn (model P w) (CxD P w K mg base ["self", "name", "around", "key"] d_Player_play_once cdv A outer s H E).A (CxD P w K mg base ["self", "name", "around", "key"] d_Player_play_once cdv A outer s H E).env (CxD P w K mg base ["self", "name", "around", "key"] d_Player_play_once cdv A outer s H E).xe := passes_of rfl
  refine ⟨_, (pss_cons (ps_expr (pe_mF0 _ (pv 0) T.c_Player T.m_Player_add_thing F_Player_add_thing (hr.mono (by omega)) px))
      (pss_cons (ps_for po rfl (pi_tup (pe_dget (hu_of hr) (pe_fld (pv 0) rfl) (pv 1) (fun _ _ => rfl))) (pg_name (i := 3) sc_Player_play_once.nd rfl (.inl rfl)) (pss_one (ps_if (pt_not (pt_val (pe_mF _ (pv 0) T.c_Player T.m_Player_do F_Player_do hr px (pa_cons (pv 3) (pa_cons (pv 2) pa_nil))))) (pss_one (ps_ret pe_bl)) pss_nil)))
      (pss_one (ps_ret pe_bl)))), ?_⟩
  obtain ⟨x, t, y, tp, st, n, rfl, hn, hP, h4, hd, hres⟩ := h
  obtain ⟨dx0, p0, as0, g1, _⟩ := hP.ex
  unfold once at hres
  refine ⟨_, rfl, x, _, _, rfl, g1, playerF_no_add _ _ _ _, x, t, y, tp, st, rfl, hP, h4, fun st1 H1 e1 k1 hP1 => ?_, fun H1 e1 k1 => ?_⟩
  rotate_left
  · rw [e1] at hres
    exact hres.1 rfl H1 k1
  rw [e1] at hres
  obtain ⟨ep, et, en, e400⟩ := addT_some e1
  have hres1 : spRes K H1 x t y tp (keysR (doK tp d) (tp n) st1) Q E := hres.pre k1
  obtain ⟨dx1, p1, as1, g2, gp, gy, gk⟩ := hP1.ex
  obtain ⟨kvs, ht1, hnm, hall⟩ := hP1.tapes
  obtain ⟨ta, hta, as, hsq, hks⟩ := hall n hn
  have hlen := hks.len
  refine ⟨_, rfl, x, _, dx1, _, _, rfl, g2, T.c_Player, T.a_Player_tapes, playerF_tapes _ _ _ _, _, rfl, t, _, rfl, hta ▸ DGet.k (k := Sum.inr (nameS n)) ht1, ta, rfl, ⟨_, hsq⟩, ?_⟩
  refine for_tup (K := K) (a := ta) (xs := as.map V.ref) (fun i σ H' => Kf [x, y] H1 H' ∧ ∃ st' v3, σ = [some (.ref x), some (.str (nameS n)), some (.int ((20 : Int) - (d : Int))), v3] ∧ PlAt K H' x t y tp st' ∧ st'.things ≤ 400 ∧
    keysR (doK tp d) (tp n) st1 = keysR (doK tp d) ((tp n).drop i) st') ⟨Kf.refl hP1.wr, st1, none, rfl, hP1, by omega, rfl⟩ (fun i σ H' _ ⟨k', _⟩ => k'.tup hsq) ?_ ?_
  · rintro i v σ H' hi ⟨k', st', v3, rfl, hP', h4', he⟩
    have hil : i < as.length := by have := (List.getElem?_eq_some_iff.mp hi).1; rwa [List.length_map] at this
    have hil2 : i < (tp n).length := by omega
    obtain ⟨dx2, p2, as2, g3, _⟩ := hP'.ex
    rw [List.drop_eq_getElem_cons hil2, keysR_cons] at he
    have hv : v = V.ref as[i] := by
      rw [List.getElem?_map, List.getElem?_eq_getElem hil] at hi
      exact (Option.some.inj hi).symm
    subst hv
    have hki : KeyAt K H' as[i] (tp n)[i] := k'.key (hks.at_ hil hil2)
    have hok : (tp n)[i].Ok := hP'.tok.ok n hn _ (List.getElem_mem _)
    have hr2 : spRes K H' x t y tp _ Q E := (hres1.pre k').eq he
    refine ⟨_, rfl, x, _, _, rfl, g3, playerF_no_do _ _ _ _, _, rfl, _, rfl, x, t, y, tp, st', as[i], (tp n)[i], rfl, hP', h4', hd, hki, hok, fun el H3 k3 => ?_, fun b st2 H3 eb k3 hP3 h43 => ⟨_, rfl, ?_⟩⟩
    · rw [el] at hr2
      exact hr2.1 rfl H3 k3
    · rw [eb] at hr2 he
      cases b with
      | true => exact iteF ⟨k'.trans k3, st2, _, rfl, hP3, h43, he⟩
      | false => exact iteT (hr2.2 false st2 H3 rfl k3 hP3 h43)
  · rintro σ H' ⟨k', st', v3, rfl, hP', h4', he⟩
    rw [List.length_map, hlen, List.drop_length] at he
    exact (hres1.eq he).2 true st' H' rfl k' hP' h4'
theorem sc_Player_play : FnScope ["self", "name", "many", "around", "_"] ["self", "name", "many", "around"] (defScope s_Player_play) := ⟨rfl, rfl, rfl, by decide +kernel, rfl, by decide +kernel, by decide +kernel⟩
theorem ok_Player_play (T : Tx w K mg) {d k : Nat} (hk : 1 ≤ k) (F_Player_play_once : Fk P w K mg base k (Ad K d_Player_play_once.at_) ["self", "name", "around"] (sp_once K d)) : Fk P w K mg base (k + 1) (Ad K d_Player_play.at_) ["self", "name", "many", "around"] (sp_play K d) := by
  obtain ⟨t_MOST_AROUND, h_MOST_AROUND⟩ := T.i_MOST_AROUND
  refine mkF T.f_Player_play sc_Player_play rfl (fun _ _ _ _ _ _ us hl => match us, hl with | [_, _, _, _], _ => rfl) (fun vs H Q E h => by obtain ⟨_, _, _, _, _, _, _, rfl, _⟩ := h; rfl) (fun cdv A outer s H vs Q E hcd hcode hr h => ?_)
  have po : PassesOwn (model P w) (CxD P w K mg base ["self", "name", "many", "around", "_"] d_Player_play cdv A outer s H E).A (CxD P w K mg base ["self", "name", "many", "around", "_"] d_Player_play cdv A outer s H E).env (CxD P w K mg base ["self", "name", "many", "around", "_"] d_Player_play cdv A outer s H E).xe := passes_of rfl
  refine ⟨_, (pss_cons (ps_if (pt_cmpR op_ge (pv 3) (pe_glob (v := .int 20) (by rfl) h_MOST_AROUND ⟨_, rfl⟩) (nomark _)) (pss_one (ps_ret pe_bl)) pss_nil)
      (pss_cons (ps_for po rfl (pi_range1 (by rfl) T.n_range (pa_cons (pv 2) pa_nil)) (pg_name (i := 4) sc_Player_play.nd rfl (.inl rfl)) (pss_one (ps_if (pt_not (pt_val (pe_mF _ (pv 0) T.c_Player T.m_Player_play_once F_Player_play_once hr px (pa_cons (pv 1) (pa_cons (pe_op op_add (pv 3) pe_int) pa_nil))))) (pss_one (ps_ret pe_bl)) pss_nil)))
      (pss_one (ps_ret pe_bl)))), ?_⟩
  obtain ⟨x, t, y, tp, st, n, m, rfl, hn, hm, hP, h4, hd, hres⟩ := h
  refine ⟨_, rfl, _, _, rfl, rfl, _, rfl, ?_⟩
  cases d with
  | zero =>
    refine iteD (fun _ => ?_) (fun h => absurd (by omega) h)
    exact hres.2 false st H rfl (Kf.refl hP.wr) hP h4
  | succ d =>
    refine iteD (fun h => absurd h (by omega)) (fun _ => ?_)
    have hres : spRes K H x t y tp (timesR (once (doK tp d) (tp n)) m st) Q E := hres
    refine ⟨_, rfl, (m : Int), rfl, by omega, by omega, ?_⟩
    refine for_range (lo := 0) (n := (m : Int).toNat) (fun i σ H' => Kf [x, y] H H' ∧ ∃ st' v4, σ = [some (.ref x), some (.str (nameS n)), some (.int (m : Int)), some (.int ((20 : Int) - ((d + 1 : Nat) : Int))), v4] ∧ PlAt K H' x t y tp st' ∧ st'.things ≤ 400 ∧
      timesR (once (doK tp d) (tp n)) m st = timesR (once (doK tp d) (tp n)) (m - i) st') ⟨Kf.refl hP.wr, st, none, rfl, hP, h4, rfl⟩ ?_ ?_
    · rintro i σ H' hi ⟨k', st', v4, rfl, hP', h4', he⟩
      obtain ⟨dx2, p2, as2, g3, _⟩ := hP'.ex
      rw [show m - i = (m - (i + 1)) + 1 by omega, timesR_succ] at he
      have hr2 : spRes K H' x t y tp _ Q E := (hres.pre k').eq he
      refine ⟨_, rfl, x, _, _, rfl, g3, playerF_no_once _ _ _ _, _, rfl, _, rfl, _, _, rfl, rfl, x, t, y, tp, st', n, ?_, hn, hP', h4', by omega, fun el H3 k3 => ?_, fun b st2 H3 eb k3 hP3 h43 => ⟨_, rfl, ?_⟩⟩
      · show [V.ref x, V.str (nameS n), V.int (20 - ((d + 1 : Nat) : Int) + 1)] = _
        rw [show (20 - ((d + 1 : Nat) : Int) + 1) = 20 - (d : Int) by omega]
      · rw [el] at hr2
        exact hr2.1 rfl H3 k3
      · rw [eb] at hr2 he
        cases b with
        | true => exact iteF ⟨k'.trans k3, st2, _, rfl, hP3, h43, he⟩
        | false => exact iteT (hr2.2 false st2 H3 rfl k3 hP3 h43)
    · rintro σ H' ⟨k', st', v4, rfl, hP', h4', he⟩
      rw [show m - (m : Int).toNat = 0 by omega] at he
      exact (hres.eq he).2 true st' H' rfl k' hP' h4'
theorem sc_Player_play_till : FnScope ["self", "name", "around"] ["self", "name", "around"] (defScope s_Player_play_till) := ⟨rfl, rfl, rfl, by decide +kernel, rfl, by decide +kernel, by decide +kernel⟩
theorem ok_Player_play_till (T : Tx w K mg) {d k : Nat} (hk : 1 ≤ k) (F_Player_play_once : Fk P w K mg base k (Ad K d_Player_play_once.at_) ["self", "name", "around"] (sp_once K d)) : Fk P w K mg base (k + 1) (Ad K d_Player_play_till.at_) ["self", "name", "around"] (sp_till K d) := by
  obtain ⟨t_MOST_AROUND, h_MOST_AROUND⟩ := T.i_MOST_AROUND
  refine mkF T.f_Player_play_till sc_Player_play_till rfl (fun _ _ _ _ _ _ us hl => match us, hl with | [_, _, _], _ => rfl) (fun vs H Q E h => by obtain ⟨_, _, _, _, _, _, rfl, _⟩ := h; rfl) (fun cdv A outer s H vs Q E hcd hcode hr h => ?_)
  have po : PassesOwn (model P w) (CxD P w K mg base ["self", "name", "around"] d_Player_play_till cdv A outer s H E).A (CxD P w K mg base ["self", "name", "around"] d_Player_play_till cdv A outer s H E).env (CxD P w K mg base ["self", "name", "around"] d_Player_play_till cdv A outer s H E).xe := passes_of rfl
  refine ⟨_, (pss_cons (ps_if (pt_cmpR op_ge (pv 2) (pe_glob (v := .int 20) (by rfl) h_MOST_AROUND ⟨_, rfl⟩) (nomark _)) (pss_one (ps_ret pe_bl)) pss_nil)
      (pss_cons (ps_while po (pt_val (pe_mF _ (pv 0) T.c_Player T.m_Player_play_once F_Player_play_once hr px (pa_cons (pv 1) (pa_cons (pe_op op_add (pv 2) pe_int) pa_nil)))) (pss_one ps_pass))
      (pss_one (ps_ret pe_bl)))), ?_⟩
  obtain ⟨x, t, y, tp, st, n, rfl, hn, hP, h4, hd, hres⟩ := h
  refine ⟨_, rfl, _, _, rfl, rfl, _, rfl, ?_⟩
  cases d with
  | zero =>
    refine iteD (fun _ => ?_) (fun h => absurd (by omega) h)
    exact hres.2 false st H rfl (Kf.refl hP.wr) hP h4
  | succ d =>
    refine iteD (fun h => absurd h (by omega)) (fun _ => ?_)
    have hres : spRes K H x t y tp (tillR (once (doK tp d) (tp n)) 401 st) Q E := hres
    refine ⟨fun m σ H' => Kf [x, y] H H' ∧ ∃ st' j, σ = [some (.ref x), some (.str (nameS n)), some (.int ((20 : Int) - ((d + 1 : Nat) : Int)))] ∧ PlAt K H' x t y tp st' ∧ st'.things ≤ 400 ∧ j ≤ st'.things ∧
      tillR (once (doK tp d) (tp n)) 401 st = tillR (once (doK tp d) (tp n)) (401 - j) st' ∧ m = 401 - st'.things, ⟨_, Kf.refl hP.wr, st, 0, rfl, hP, h4, Nat.zero_le _, rfl, rfl⟩, ?_⟩
    rintro m σ H' ⟨k', st', j, rfl, hP', h4', hj, he, rfl⟩
    obtain ⟨dx2, p2, as2, g3, _⟩ := hP'.ex
    rw [show 401 - j = (401 - (j + 1)) + 1 by omega, tillR_succ _ (401 - (j + 1))] at he
    have hr2 : spRes K H' x t y tp _ Q E := (hres.pre k').eq he
    refine ⟨_, rfl, x, _, _, rfl, g3, playerF_no_once _ _ _ _, _, rfl, _, rfl, _, _, rfl, rfl, x, t, y, tp, st', n, ?_, hn, hP', h4', by omega, fun el H3 k3 => ?_, fun b st2 H3 eb k3 hP3 h43 => ⟨_, rfl, ?_⟩⟩
    · show [V.ref x, V.str (nameS n), V.int (20 - ((d + 1 : Nat) : Int) + 1)] = _
      rw [show (20 - ((d + 1 : Nat) : Int) + 1) = 20 - (d : Int) by omega]
    · rw [el] at hr2
      exact hr2.1 rfl H3 k3
    · have hmono := onceK_mono tp d eb
      rw [eb] at hr2 he
      cases b with
      | true =>
        refine iteT ⟨fun σ' H4 => H4 = H3 ∧ σ' = [some (.ref x), some (.str (nameS n)), some (.int ((20 : Int) - ((d + 1 : Nat) : Int)))], fun σ' H4 ⟨e1, e2⟩ => ⟨401 - st2.things, by omega, e1 ▸ (k'.trans k3), st2, j + 1, e2, e1 ▸ hP3, h43, by omega, he, rfl⟩, ?_⟩
        exact ⟨rfl, rfl⟩
      | false => exact iteF (hr2.2 true st2 H3 rfl k3 hP3 h43)
/-- the player's defs, at every depth -/
theorem ok_player (T : Tx w K mg) : ∀ d, Fk P w K mg base (3 * d + 9) (Ad K d_Player_do.at_) ["self", "key", "around"] (sp_do K d)
  | 0 => by
    have F0 : Fk P w K mg base 7 (Ad K d_Player_play_once.at_) ["self", "name", "around"] (sp_once K 0) :=
      mkF T.f_Player_play_once sc_Player_play_once rfl (fun _ _ _ _ _ _ us hl => match us, hl with | [_, _, _], _ => rfl) (fun _ _ _ _ h => h.elim) (fun _ _ _ _ _ _ _ _ _ _ _ h => h.elim)
    exact ok_Player_do T (d := 0) (k := 8) (by decide) (ok_Player_play T (d := 0) (k := 7) (by decide) F0) (ok_Player_play_till T (d := 0) (k := 7) (by decide) F0)
  | d + 1 => by
    have F := ok_player T d
    have F1 := ok_Player_play_once T (d := d) (k := 3 * d + 9) (by omega) F
    exact ok_Player_do T (d := d + 1) (k := 3 * d + 11) (by omega) (ok_Player_play T (d := d + 1) (k := 3 * d + 10) (by omega) F1) (ok_Player_play_till T (d := d + 1) (k := 3 * d + 10) (by omega) F1)
end
end KT
set_option Elab.async false
set_option linter.all false
set_option maxRecDepth 100000
set_option maxHeartbeats 4000000
namespace KT
open PySem PySem.Spec PyProof.Rows L2 GxR
/-! ### texts of rows -/
def nl : Str := Str.ofString "\n"
theorem nl_eq : nl = ⟨#[10]⟩ := by decide +kernel
def textS (ls : List Ln) : Str := Txt.join nl (ls.map S)
theorem S_tls (ls : List Ln) : (ls.map S).map TL.tl = ls := by
  rw [List.map_map]
  conv => rhs; rw [← List.map_id ls]
  apply List.map_congr_left
  intro l _
  show (S l).cps.toList = l
  simp
theorem textS_split {ls : List Ln} (h : ls ≠ []) (h10 : ∀ l ∈ ls, 10 ∉ l) : Txt.split (textS ls) nl = ls.map S := by
  refine TL.split_join (y := nl) (s := 10) (S := []) (by rw [nl_eq]) (by rw [nl_eq]; decide +kernel) (by simpa using h) ?_
  intro p hp
  obtain ⟨l, hl, rfl⟩ := List.mem_map.mp hp
  have : TL.tl (S l) = l := by show (S l).cps.toList = l; simp
  rw [this]
  exact h10 l hl
theorem joinL_len {B : Nat} : ∀ (ls : List Ln), (∀ l ∈ ls, l.length ≤ B) → (TL.joinL [10] ls).length ≤ ls.length * (B + 1)
  | [], _ => by simp [TL.joinL]
  | [l], h => by
    have := h l (by simp)
    simp only [TL.joinL, List.length_cons, List.length_nil]
    omega
  | l :: m :: r, h => by
    have h1 := h l (by simp)
    have h2 := joinL_len (B := B) (m :: r) (fun x hx => h x (by simp [List.mem_cons.mp hx]))
    show (l ++ ([10] ++ TL.joinL [10] (m :: r))).length ≤ (m :: r).length.succ * (B + 1)
    rw [List.length_append, List.length_append, Nat.succ_mul]
    simp only [List.length_cons, List.length_nil] at h2 ⊢
    omega
theorem textS_len {B : Nat} {ls : List Ln} (h : ∀ l ∈ ls, l.length ≤ B) : (textS ls).length ≤ ls.length * (B + 1) := by
  have : (textS ls).length = (TL.joinL [10] ls).length := by
    unfold textS
    rw [TL.join_eq, TL.len_tl, TL.tl_join, S_tls, nl_eq]
  rw [this]
  exact joinL_len ls h
def goodRow (l : Ln) : Bool := decide (l.length ≤ 60) && l.all signB
def goodB (ls : List Ln) : Bool := decide (ls.length ≤ 12) && ls.all goodRow
theorem good_no10 {l : Ln} (h : l.all signB = true) : 10 ∉ l := fun h10 => by
  have := List.all_eq_true.mp h 10 h10
  rw [signB_eq] at this
  exact absurd (of_decide_eq_true this).1 (by decide)
section
variable {P : Program} {w : World} {K : PySem.W.Frag} {mg : Str → Option Value} {base : Heap}
def sp_first_page (K : PySem.W.Frag) : Sp := fun vs H Q E => ∃ ls, vs = [.str (textS ls)] ∧ ls ≠ [] ∧ (∀ l ∈ ls, 10 ∉ l) ∧ (∀ l ∈ ls, l.length ≤ 1000) ∧ ls.length ≤ 900 ∧ TabG H (tS K) ∧
  (goodB ls = true → ∀ q H', Kq [] H H' → PageAt K H' q ⟨ls, 0, 0, []⟩ → Q (.ref q) H') ∧ (goodB ls = false → ∀ H', Kq [] H H' → E (.ref (He.ga K "BadText")) none H')
theorem sc_first_page : FnScope ["text", "rows", "row"] ["text"] (defScope s_first_page) := ⟨rfl, rfl, rfl, by decide +kernel, rfl, by decide +kernel, by decide +kernel⟩
theorem ok_first_page (T : Tx w K mg) (B : TabB base mg (cS K) (tS K)) : Fk P w K mg base 3 (Ad K d_first_page.at_) ["text"] (sp_first_page K) := by
  obtain ⟨t_MOST_ROWS, h_MOST_ROWS⟩ := T.i_MOST_ROWS
  obtain ⟨t_MOST_SIGNS, h_MOST_SIGNS⟩ := T.i_MOST_SIGNS
  have F_Page___init__ := ok_Page___init__ (P := P) (base := base) T
  have F_are_signs := ok_are_signs (P := P) (base := base) T B
  refine mkF T.f_first_page sc_first_page rfl (fun _ _ _ _ _ _ us hl => match us, hl with | [_], _ => rfl) (fun vs H Q E h => by obtain ⟨_, rfl, _⟩ := h; rfl) (fun cdv A outer s H vs Q E hcd hcode hr h => ?_)
  have tk : Takes (CxD P w K mg base ["text", "rows", "row"] d_first_page cdv A outer s H E) (fun cls d _ H => E cls d H) := takes_of rfl rfl rfl rfl
  have po : PassesOwn (model P w) (CxD P w K mg base ["text", "rows", "row"] d_first_page cdv A outer s H E).A (CxD P w K mg base ["text", "rows", "row"] d_first_page cdv A outer s H E).env (CxD P w K mg base ["text", "rows", "row"] d_first_page cdv A outer s H E).xe := passes_of rfl
  refine ⟨_, (pss_cons (ps_asg (pe_callTy call_tuple_of (by rfl) T.n_tuple (by decide +kernel) (pa_cons (pe_split (pv 0) pe_str) pa_nil)) (pg_name (i := 1) sc_first_page.nd rfl (.inl rfl)))
      (pss_cons (ps_if (pt_cmpR op_gt (pe_callB call_len_seq (by rfl) T.n_len (by decide +kernel) (pa_cons (pv 1) pa_nil)) (pe_glob (v := .int 12) (by rfl) h_MOST_ROWS ⟨_, rfl⟩) (nomark _)) (pss_one (ps_raise rfl tk (pmk_BadText T rfl))) pss_nil)
      (pss_cons (ps_for po rfl (pi_tup (pv 1)) (pg_name (i := 2) sc_first_page.nd rfl (.inl rfl)) (pss_cons (ps_if (pt_cmpR op_gt (pe_callB call_len_str (by rfl) T.n_len (by decide +kernel) (pa_cons (pv 2) pa_nil)) (pe_glob (v := .int 60) (by rfl) h_MOST_SIGNS ⟨_, rfl⟩) (nomark _)) (pss_one (ps_raise rfl tk (pmk_BadText T rfl))) pss_nil)
      (pss_one (ps_if (pt_not (pt_val (pe_cF F_are_signs (hr.mono (by decide)) T.g_are_signs px (pa_cons (pv 2) pa_nil)))) (pss_one (ps_raise rfl tk (pmk_BadText T rfl))) pss_nil))))
      (pss_one (ps_ret (pe_kF (spN := sp_Page K) T.k_Page F_Page___init__ (hr.mono (by decide)) T.g_Page px new_Page (pa_cons (pv 1) (pa_cons pe_int (pa_cons pe_int (pa_cons pe_str pa_nil)))))))))), ?_⟩
  obtain ⟨ls, rfl, hne, h10, hlong, hmany, hT, kt, kf⟩ := h
  have hlen : (textS ls).length ≤ 1000000 := Nat.le_trans (textS_len hlong) (Nat.le_trans (Nat.mul_le_mul_right _ hmany) (by decide))
  have hsz : sizeLine = 16777216 := sizeLine_eq
  refine ⟨_, rfl, ⟨_, rfl⟩, _, nl, rfl, rfl, by rw [nl_eq]; rfl, by omega, fun p np => ⟨p, _, rfl, .inl ⟨SqL.of upd_same, fun l nl' => ?_⟩⟩⟩
  rw [textS_split hne h10, show (ls.map S).map V.str = rowsV ls by unfold rowsV; rw [List.map_map]; rfl]
  have k1 : Kq [] H (upd (upd H p (.lst (rowsV ls))) l (.tup (rowsV ls))) := by
    rw [textS_split hne h10, show (ls.map S).map V.str = rowsV ls by unfold rowsV; rw [List.map_map]; rfl] at nl'
    exact (Kq.alloc np).trans (Kq.alloc nl')
  have a1 : SqT K (upd (upd H p (.lst (rowsV ls))) l (.tup (rowsV ls))) l (rowsV ls) := SqT.of upd_same
  generalize (upd (upd H p (.lst (rowsV ls))) l (.tup (rowsV ls))) = H1 at k1 a1 ⊢
  refine ⟨_, rfl, l, _, rfl, .inr a1, _, _, rfl, rfl, _, rfl, ?_⟩
  rw [rowsV_len]
  refine iteD (fun h => kf (by unfold goodB; rw [decide_eq_false (by omega)]; rfl) H1 k1) (fun h12 => ?_)
  have bad : ∀ i (hi : i < ls.length), goodRow ls[i] = false → goodB ls = false := fun i hi hg => by
    unfold goodB
    rw [decide_eq_true (by omega)]
    show ls.all goodRow = false
    rw [List.all_eq_false]
    exact ⟨ls[i], List.getElem_mem _, by rw [hg]; simp⟩
  refine ⟨_, rfl, l, rfl, ⟨_, a1⟩, ?_⟩
  refine for_tup (K := K) (a := l) (xs := rowsV ls) (fun i σ H' => Kq [] H1 H' ∧ (∃ v2, σ = [some (.str (textS ls)), some (.ref l), v2]) ∧ ∀ m ∈ ls.take i, goodRow m = true) ⟨Kq.refl, ⟨none, rfl⟩, fun m hm => by simp at hm⟩ (fun i σ H' _ ⟨k', _⟩ => k'.tup a1) ?_ ?_
  · rintro i v σ H' hi ⟨k', ⟨v2, rfl⟩, hg⟩
    have hil : i < ls.length := by have := (List.getElem?_eq_some_iff.mp hi).1; rwa [rowsV_len] at this
    have hv : v = V.str (S ls[i]) := by
      unfold rowsV at hi
      rw [List.getElem?_map, List.getElem?_eq_getElem hil] at hi
      exact (Option.some.inj hi).symm
    subst hv
    have hl1 := hlong ls[i] (List.getElem_mem _)
    refine ⟨_, rfl, _, rfl, S16 (by omega), _, _, rfl, rfl, _, rfl, ?_⟩
    rw [S_len]
    refine iteD (fun h60 => kf (bad i hil (by unfold goodRow; rw [decide_eq_false (by omega)]; rfl)) H' (k1.trans k')) (fun h60 => ?_)
    refine ⟨_, rfl, ls[i], rfl, k'.tab _ (k1.tab _ hT), fun H2 k2 => ⟨_, rfl, ?_⟩⟩
    cases hs : ls[i].all signB with
    | false => exact iteT (kf (bad i hil (by unfold goodRow; rw [hs]; simp)) H2 ((k1.trans k').trans k2))
    | true =>
      refine iteF ⟨k'.trans k2, ⟨_, rfl⟩, fun m hm => ?_⟩
      rw [List.take_succ_eq_append_getElem hil] at hm
      rcases List.mem_append.mp hm with hm | hm
      · exact hg m hm
      · rw [List.mem_singleton.mp hm]
        unfold goodRow
        rw [hs, decide_eq_true (by omega)]; rfl
  · rintro σ H' ⟨k', ⟨v2, rfl⟩, hg⟩
    rw [rowsV_len, List.take_length] at hg
    refine ⟨_, rfl, l, _, _, _, ⟨ls, 0, 0, []⟩, rfl, rfl, rfl, rfl, k'.tup a1, fun q H2 k2 a2 => ?_⟩
    exact kt (by unfold goodB; rw [decide_eq_true (by omega)]; exact List.all_eq_true.mpr hg) q H2 ((k1.trans k').trans k2) a2
theorem good_ok {ls : List Ln} (hne : ls ≠ []) (h : goodB ls = true) : Pg.Ok ⟨ls, 0, 0, []⟩ := by
  unfold goodB at h
  simp only [Bool.and_eq_true, decide_eq_true_eq, List.all_eq_true] at h
  have h2 : ∀ l ∈ ls, l.length ≤ 60 ∧ ∀ c ∈ l, signB c = true := fun l hl => by
    have := h.2 l hl
    unfold goodRow at this
    simp only [Bool.and_eq_true, decide_eq_true_eq, List.all_eq_true] at this
    exact this
  refine ⟨h.1, fun l hl => (h2 l hl).1, List.length_pos_iff.mpr hne, Nat.zero_le _, Nat.zero_le _, fun l hl c hc => ?_, fun c hc => by simp at hc⟩
  have := (h2 l hl).2 c hc
  rw [signB_eq] at this
  exact of_decide_eq_true this
end
end KT
set_option Elab.async false
set_option linter.all false
set_option maxRecDepth 100000
set_option maxHeartbeats 4000000
namespace KT
open PySem PySem.Spec PyProof.Rows L2 GxR
/-! ### rows held against rows -/
def rowsD (ls : List Ln) : PyData := .tuple (ls.map fun l => .str (S l))
theorem dp_strs {K : PySem.W.Frag} {H : Hp} : ∀ ls : List Ln, DpAll K H (rowsV ls) (ls.map fun l => PyData.str (S l))
  | [] => .nil
  | l :: r => .cons (.str _) (dp_strs r)
theorem dp_rows {K : PySem.W.Frag} {H : Hp} {t : Addr} {ls : List Ln} (h : SqT K H t (rowsV ls)) : Dp K H (.ref t) (rowsD ls) := .tup h (dp_strs ls)
theorem strOk_sig {l : Ln} (h : ∀ c ∈ l, okSign c) : PyData.strOk (S l) = true := by
  unfold PyData.strOk
  rw [Array.all_eq_true_iff_forall_mem]
  intro c hc
  have : c ∈ l := by simpa using hc
  have := (h c this).2
  exact decide_eq_true (by omega)
theorem canLay_strs : ∀ ls : List Ln, (∀ l ∈ ls, ∀ c ∈ l, okSign c) → PyData.canLayAll0 (ls.map fun l => PyData.str (S l)) = true
  | [], _ => rfl
  | l :: r, h => by
    show (PyData.strOk (S l) && PyData.canLayAll0 (r.map fun l => PyData.str (S l))) = true
    rw [strOk_sig (h l (by simp)), canLay_strs r fun m hm => h m (by simp [hm])]; rfl
theorem depth_strs : ∀ ls : List Ln, PyData.depthAll (ls.map fun l => PyData.str (S l)) = 0
  | [] => rfl
  | l :: r => by
    show max 0 (PyData.depthAll (r.map fun l => PyData.str (S l))) = 0
    rw [depth_strs r]; rfl
theorem shaped_rows {ls : List Ln} (h : ∀ l ∈ ls, ∀ c ∈ l, okSign c) : SeqAt.shaped (rowsD ls) = true := by
  unfold SeqAt.shaped rowsD
  have h1 : PyData.canLay0 (.tuple (ls.map fun l => PyData.str (S l))) = PyData.canLayAll0 (ls.map fun l => PyData.str (S l)) := by simp [PyData.canLay0]
  have h2 : PyData.depth (.tuple (ls.map fun l => PyData.str (S l))) = PyData.depthAll (ls.map fun l => PyData.str (S l)) + 1 := by simp [PyData.depth]
  rw [h1, h2, canLay_strs ls h, depth_strs]; rfl
theorem eqv_strs : ∀ a b : List Ln, PyData.eqvAll (a.map fun l => PyData.str (S l)) (b.map fun l => PyData.str (S l)) = decide (a = b)
  | [], [] => rfl
  | [], _ :: _ => rfl
  | _ :: _, [] => rfl
  | x :: a, y :: b => by
    show (PyData.eqv (.str (S x)) (.str (S y)) && PyData.eqvAll (a.map fun l => PyData.str (S l)) (b.map fun l => PyData.str (S l))) = _
    rw [eqv_strs a b]
    have : PyData.eqv (.str (S x)) (.str (S y)) = (S x == S y) := by simp [PyData.eqv]
    rw [this]
    by_cases e : x = y
    · subst e; simp
    · have : (S x == S y) = false := by rw [beq_eq_false_iff_ne]; exact fun z => e (S_inj z)
      rw [this]; simp [e]
theorem eqv_rows (a b : List Ln) : PyData.eqv (rowsD a) (rowsD b) = decide (a = b) := by
  unfold rowsD
  have : PyData.eqv (.tuple (a.map fun l => PyData.str (S l))) (.tuple (b.map fun l => PyData.str (S l))) = PyData.eqvAll (a.map fun l => PyData.str (S l)) (b.map fun l => PyData.str (S l)) := by simp [PyData.eqv]
  rw [this, eqv_strs]
/-! ### the editor -/
structure EdSt where
  page : Pg
  tapes : Nat → List Ky
  taped : Option Nat
  pressed : List Ky
  units : List (Pg × Pg)
  undone : List (Pg × Pg)
/-- where an editor's parts stand -/
structure EdM where
  e : Addr
  t : Addr
  pr : Addr
  un : Addr
  ud : Addr
def EdM.l (m : EdM) : List Addr := [m.e, m.t, m.pr, m.un, m.ud]
def recV : Option Nat → V
  | none => .non
  | some n => .str (nameS n)
def edF (p t : Addr) (r : V) (pr un ud : Addr) : List (Str × V) := [("page", .ref p), ("tapes", .ref t), ("recorded", r), ("pressed", .ref pr), ("units", .ref un), ("undone", .ref ud)]
theorem edF_page (p t : Addr) (r : V) (pr un ud : Addr) : (edF p t r pr un ud).lookup ("page" : Str) = some (.ref p) := by kernel_rfl
theorem edF_tapes (p t : Addr) (r : V) (pr un ud : Addr) : (edF p t r pr un ud).lookup ("tapes" : Str) = some (.ref t) := by kernel_rfl
theorem edF_recorded (p t : Addr) (r : V) (pr un ud : Addr) : (edF p t r pr un ud).lookup ("recorded" : Str) = some r := by kernel_rfl
theorem edF_pressed (p t : Addr) (r : V) (pr un ud : Addr) : (edF p t r pr un ud).lookup ("pressed" : Str) = some (.ref pr) := by kernel_rfl
theorem edF_units (p t : Addr) (r : V) (pr un ud : Addr) : (edF p t r pr un ud).lookup ("units" : Str) = some (.ref un) := by kernel_rfl
theorem edF_undone (p t : Addr) (r : V) (pr un ud : Addr) : (edF p t r pr un ud).lookup ("undone" : Str) = some (.ref ud) := by kernel_rfl
theorem edF_put_page (p q t : Addr) (r : V) (pr un ud : Addr) : putF "page" (.ref q) (edF p t r pr un ud) = edF q t r pr un ud := by kernel_rfl
theorem edF_put_recorded (p t : Addr) (r r' : V) (pr un ud : Addr) : putF "recorded" r' (edF p t r pr un ud) = edF p t r' pr un ud := by kernel_rfl
theorem edF_put_pressed (p t : Addr) (r : V) (pr pr' un ud : Addr) : putF "pressed" (.ref pr') (edF p t r pr un ud) = edF p t r pr' un ud := by kernel_rfl
theorem edF_put_undone (p t : Addr) (r : V) (pr un ud ud' : Addr) : putF "undone" (.ref ud') (edF p t r pr un ud) = edF p t r pr un ud' := by kernel_rfl
theorem edF_make (p t : Addr) (r : V) (pr un ud : Addr) : putF "undone" (.ref ud) (putF "units" (.ref un) (putF "pressed" (.ref pr) (putF "recorded" r (putF "tapes" (.ref t) (putF "page" (.ref p) []))))) = edF p t r pr un ud := by kernel_rfl
theorem mut_ed (C dx p t : Addr) (r : V) (pr un ud : Addr) : mutO (.ins C dx (edF p t r pr un ud)) = true := by kernel_rfl
inductive UnitsAt (K : PySem.W.Frag) (H : Hp) : List Addr → List (Pg × Pg) → Prop where
  | nil : UnitsAt K H [] []
  | cons {a p q : Addr} {u : Pg × Pg} {as : List Addr} {us : List (Pg × Pg)} (h : SqT K H a [.ref p, .ref q]) (h1 : PageAt K H p u.1) (h2 : PageAt K H q u.2) (r : UnitsAt K H as us) : UnitsAt K H (a :: as) (u :: us)
theorem UnitsAt.imp {K : PySem.W.Frag} {H H1 : Hp} {as : List Addr} {us : List (Pg × Pg)} (f : ∀ a xs, SqT K H a xs → SqT K H1 a xs) (g : ∀ p x, PageAt K H p x → PageAt K H1 p x) (h : UnitsAt K H as us) : UnitsAt K H1 as us := by
  induction h with
  | nil => exact .nil
  | cons h h1 h2 _ ih => exact .cons (f _ _ h) (g _ _ h1) (g _ _ h2) ih
theorem UnitsAt.snoc {K : PySem.W.Frag} {H : Hp} {as : List Addr} {us : List (Pg × Pg)} {a p q : Addr} {u : Pg × Pg} (h : UnitsAt K H as us) (ha : SqT K H a [.ref p, .ref q]) (h1 : PageAt K H p u.1) (h2 : PageAt K H q u.2) : UnitsAt K H (as ++ [a]) (us ++ [u]) := by
  induction h with
  | nil => exact .cons ha h1 h2 .nil
  | cons h g1 g2 _ ih => exact .cons h g1 g2 ih
theorem UnitsAt.len {K : PySem.W.Frag} {H : Hp} {as : List Addr} {us : List (Pg × Pg)} (h : UnitsAt K H as us) : as.length = us.length := by
  induction h with
  | nil => rfl
  | cons _ _ _ _ ih => simp [ih]
/-- an editor stands at m -/
structure EdAt (K : PySem.W.Frag) (H : Hp) (m : EdM) (ed : EdSt) : Prop where
  ex : ∃ dx p ap au ad, H m.e = some (.ins (He.ga K "Editor") dx (edF p m.t (recV ed.taped) m.pr m.un m.ud)) ∧ PageAt K H p ed.page ∧ H m.pr = some (.lst (ap.map V.ref)) ∧ KeysAt K H ap ed.pressed ∧
    H m.un = some (.lst (au.map V.ref)) ∧ UnitsAt K H au ed.units ∧ H m.ud = some (.lst (ad.map V.ref)) ∧ UnitsAt K H ad ed.undone
  tapes : TapesAt K H m.t ed.tapes
  tok : TpOk ed.tapes
  sign : TabG H (tS K)
  ok : ed.page.Ok
  d1 : m.pr ≠ m.un
  d2 : m.pr ≠ m.ud
  d3 : m.un ≠ m.ud
  pok : ∀ k ∈ ed.pressed, k.Ok
  uok : ∀ u ∈ ed.units, u.1.Ok ∧ u.2.Ok
  dok : ∀ u ∈ ed.undone, u.1.Ok ∧ u.2.Ok
  rok : ∀ n, ed.taped = some n → n < 8
theorem EdAt.wr {K : PySem.W.Frag} {H : Hp} {m : EdM} {ed : EdSt} (h : EdAt K H m ed) : ∀ b ∈ m.l, ∃ o, H b = some o ∧ mutO o = true := by
  obtain ⟨dx, p, ap, au, ad, h1, _, h3, _, h5, _, h7, _⟩ := h.ex
  obtain ⟨kvs, h9, _⟩ := h.tapes
  intro b hb
  simp only [EdM.l, List.mem_cons, List.not_mem_nil, or_false] at hb
  rcases hb with rfl | rfl | rfl | rfl | rfl
  · exact ⟨_, h1, mut_ed _ _ _ _ _ _ _ _⟩
  · exact ⟨_, h9, rfl⟩
  · exact ⟨_, h3, rfl⟩
  · exact ⟨_, h5, rfl⟩
  · exact ⟨_, h7, rfl⟩
/-- what is written elsewhere is nothing to an editor -/
theorem EdAt.kf {K : PySem.W.Frag} {S : List Addr} {H H1 : Hp} {m : EdM} {ed : EdSt} (h : EdAt K H m ed) (k : Kf S H H1) (d : ∀ b ∈ m.l, b ∉ S) : EdAt K H1 m ed := by
  obtain ⟨dx, p, ap, au, ad, h1, h2, h3, h4, h5, h6, h7, h8⟩ := h.ex
  have g : ∀ {b o}, b ∈ m.l → H b = some o → noTbl o = true → H1 b = some o := fun hb e n => k.q.at_ _ _ e n (d _ hb)
  exact ⟨⟨dx, p, ap, au, ad, g (by simp [EdM.l]) h1 rfl, k.page h2, g (by simp [EdM.l]) h3 rfl, k.keys h4, g (by simp [EdM.l]) h5 rfl, h6.imp (fun _ _ z => k.tup z) (fun _ _ z => k.page z), g (by simp [EdM.l]) h7 rfl, h8.imp (fun _ _ z => k.tup z) (fun _ _ z => k.page z)⟩,
    k.tapes h.tapes (d _ (by simp [EdM.l])), h.tok, k.q.tab _ h.sign, h.ok, h.d1, h.d2, h.d3, h.pok, h.uok, h.dok, h.rok⟩
theorem EdAt.kq {K : PySem.W.Frag} {H H1 : Hp} {m : EdM} {ed : EdSt} (h : EdAt K H m ed) (k : Kq [] H H1) : EdAt K H1 m ed := h.kf (Kf.of (S := []) k (fun b hb => absurd hb (by simp))) (fun b _ => by simp)
section
variable {P : Program} {w : World} {K : PySem.W.Frag} {mg : Str → Option Value} {base : Heap}
def sp_ed_text (K : PySem.W.Frag) : Sp := fun vs H Q _ => ∃ m ed, vs = [.ref m.e] ∧ EdAt K H m ed ∧ Q (.str (textS ed.page.rows)) H
theorem sc_Editor_text : FnScope ["self"] ["self"] (defScope s_Editor_text) := ⟨rfl, rfl, rfl, by decide +kernel, rfl, by decide +kernel, by decide +kernel⟩
theorem ok_Editor_text (T : Tx w K mg) : Fk P w K mg base 1 (Ad K d_Editor_text.at_) ["self"] (sp_ed_text K) := by
  refine mkF T.f_Editor_text sc_Editor_text rfl (fun _ _ _ _ _ _ us hl => match us, hl with | [_], _ => rfl) (fun vs H Q E h => by obtain ⟨_, _, rfl, _⟩ := h; rfl) (fun cdv A outer s H vs Q E hcd hcode hr h => ?_)
  refine ⟨_, (pss_one (ps_ret (pe_join pe_str (pe_fld (pe_fld (pv 0) rfl) rfl)))), ?_⟩
  obtain ⟨m, ed, rfl, hE, k⟩ := h
  obtain ⟨dx, p, ap, au, ad, h1, h2, _⟩ := hE.ex
  have ok := hE.ok
  refine ⟨⟨_, rfl⟩, _, rfl, m.e, _, dx, _, _, rfl, h1, T.c_Editor, T.a_Editor_page, edF_page _ _ _ _ _ _, rd_rows T h2 fun t ht => ⟨nl, t, ed.page.rows.map S, rfl, rfl, .inr (by rw [List.map_map]; exact ht), ?_, k⟩⟩
  have hs : ∀ ls : List Ln, (∀ l ∈ ls, l.length ≤ 60) → ((ls.map S).map (·.length)).sum ≤ ls.length * 60 := by
    intro ls
    induction ls with
    | nil => intro _; simp
    | cons a r ih =>
      intro h
      have h1 := h a (by simp)
      have h2 := ih fun l hl => h l (by simp [hl])
      simp only [List.map_cons, List.sum_cons, List.length_cons, S_len]
      omega
  have h3 := hs _ ok.long
  have h4 := ok.many
  have h5 : nl.length = 1 := by rw [nl_eq]; rfl
  rw [List.length_map, h5]
  omega
def sp_ed_place (K : PySem.W.Frag) : Sp := fun vs H Q _ => ∃ m ed, vs = [.ref m.e] ∧ EdAt K H m ed ∧ ∀ q H', Kq [] H H' → H' q = some (.tup [.int ed.page.row, .int ed.page.col]) → Q (.ref q) H'
theorem sc_Editor_place : FnScope ["self"] ["self"] (defScope s_Editor_place) := ⟨rfl, rfl, rfl, by decide +kernel, rfl, by decide +kernel, by decide +kernel⟩
theorem ok_Editor_place (T : Tx w K mg) : Fk P w K mg base 1 (Ad K d_Editor_place.at_) ["self"] (sp_ed_place K) := by
  refine mkF T.f_Editor_place sc_Editor_place rfl (fun _ _ _ _ _ _ us hl => match us, hl with | [_], _ => rfl) (fun vs H Q E h => by obtain ⟨_, _, rfl, _⟩ := h; rfl) (fun cdv A outer s H vs Q E hcd hcode hr h => ?_)
  refine ⟨_, (pss_one (ps_ret (pe_tup (pa_cons (pe_fld (pe_fld (pv 0) rfl) rfl) (pa_cons (pe_fld (pe_fld (pv 0) rfl) rfl) pa_nil))))), ?_⟩
  obtain ⟨m, ed, rfl, hE, k⟩ := h
  obtain ⟨dx, p, ap, au, ad, h1, h2, _⟩ := hE.ex
  refine ⟨_, rfl, m.e, _, dx, _, _, rfl, h1, T.c_Editor, T.a_Editor_page, edF_page _ _ _ _ _ _, rd_row T h2 ⟨_, rfl, m.e, _, dx, _, _, rfl, h1, T.c_Editor, T.a_Editor_page, edF_page _ _ _ _ _ _, rd_col T h2 ⟨line16 (by show 2 ≤ 1000000; decide), fun q nq => ?_⟩⟩⟩
  exact k q _ (Kq.alloc nq) upd_same
def sp_ed_clip (K : PySem.W.Frag) : Sp := fun vs H Q _ => ∃ m ed, vs = [.ref m.e] ∧ EdAt K H m ed ∧ Q (.str (S ed.page.clip)) H
theorem sc_Editor_clip : FnScope ["self"] ["self"] (defScope s_Editor_clip) := ⟨rfl, rfl, rfl, by decide +kernel, rfl, by decide +kernel, by decide +kernel⟩
theorem ok_Editor_clip (T : Tx w K mg) : Fk P w K mg base 1 (Ad K d_Editor_clip.at_) ["self"] (sp_ed_clip K) := by
  refine mkF T.f_Editor_clip sc_Editor_clip rfl (fun _ _ _ _ _ _ us hl => match us, hl with | [_], _ => rfl) (fun vs H Q E h => by obtain ⟨_, _, rfl, _⟩ := h; rfl) (fun cdv A outer s H vs Q E hcd hcode hr h => ?_)
  refine ⟨_, (pss_one (ps_ret (pe_fld (pe_fld (pv 0) rfl) rfl))), ?_⟩
  obtain ⟨m, ed, rfl, hE, k⟩ := h
  obtain ⟨dx, p, ap, au, ad, h1, h2, _⟩ := hE.ex
  exact ⟨_, rfl, m.e, _, dx, _, _, rfl, h1, T.c_Editor, T.a_Editor_page, edF_page _ _ _ _ _ _, rd_clip T h2 k⟩
end
end KT
set_option Elab.async false
set_option linter.all false
set_option maxRecDepth 100000
set_option maxHeartbeats 4000000
namespace KT
open PySem PySem.Spec PyProof.Rows L2 GxR
/-- what was not there may be written -/
theorem Kq.writeF {S : List Addr} {H H' : Hp} {d : Addr} {o u : HO} (k : Kq S H H') (nd : H d = none) (hd : H' d = some u) (n : noTbl u = true := by rfl) : Kq S H (upd H' d o) := by
  refine ⟨fun b v h n' m => ?_, fun q h => ?_, fun b h => ?_⟩
  · rw [upd_ne (ne_of_none h nd)]; exact k.at_ b v h n' m
  · obtain ⟨ps, h1, h2⟩ := k.tab q h
    have : q ≠ d := fun e => by
      subst e
      rw [hd] at h1
      cases h1
      cases n
    exact ⟨ps, by rw [upd_ne this]; exact h1, h2⟩
  · by_cases e : b = d
    · subst e; rw [upd_same] at h; cases h
    · rw [upd_ne e] at h; exact k.fr b h
theorem Kq.tup1 {K : PySem.W.Frag} {x C dx : Addr} {fs : List (Str × V)} {H H' : Hp} (k : Kq [x] H H') (hx : H x = some (.ins C dx fs)) {l : Addr} {xs : List V} (h : SqT K H l xs) : SqT K H' l xs := by
  rcases h with (h | ⟨o, h⟩) | h
  · exact .inl (.inl (k.gets h (by simp; exact fun e => by rw [e, hx] at h; cases h)))
  · exact .inl (.inr ⟨o, k.gets h (by simp; exact fun e => by rw [e, hx] at h; cases h)⟩)
  · exact .inr h
theorem Kq.page1 {K : PySem.W.Frag} {x C dx : Addr} {fs : List (Str × V)} {H H' : Hp} (k : Kq [x] H H') (hx : H x = some (.ins C dx fs)) {p : Addr} {g : Pg} (h : PageAt K H p g) (ne : p ≠ x) : PageAt K H' p g := by
  obtain ⟨d, t, h1, h2⟩ := h
  exact ⟨d, t, k.gets h1 (by simp [ne]), k.tup1 hx h2⟩
theorem valV_zip : ∀ {ks : List Key} {vs : List V} {n : Nat} (h1 : n < ks.length) (h2 : n < vs.length), ks.Nodup → valV (ks.zip vs) ks[n] = some vs[n]
  | k :: ks, v :: vs, 0, _, _, _ => valV_pos (p := (k, v)) rfl
  | k :: ks, v :: vs, n + 1, h1, h2, hn => by
    have hne : ¬ k = ks[n]'(by simpa using h1) := fun e => (List.nodup_cons.mp hn).1 (e ▸ List.getElem_mem _)
    show valV ((k, v) :: ks.zip vs) (ks[n]'(by simpa using h1)) = some (vs[n]'(by simpa using h2))
    rw [valV_neg (p := (k, v)) hne]
    exact valV_zip (by simpa using h1) (by simpa using h2) (List.nodup_cons.mp hn).2
theorem valV_no {kvs : List (Key × V)} {k : Key} (h : ∀ p ∈ kvs, p.1 ≠ k) : valV kvs k = none := by
  induction kvs with
  | nil => rfl
  | cons p r ih => rw [valV_neg (h p (by simp))]; exact ih fun q hq => h q (by simp [hq])
theorem names8_nd : names8.Nodup := by decide +kernel
theorem names8_V : namesV = names8.map kV := by decide +kernel
theorem names8_at {n : Nat} (h : n < 8) : names8[n]'(by simpa [names8] using h) = .inr (nameS n) := by
  have : ∀ n (h : n < 8), names8[n]'(by simpa [names8] using h) = .inr (nameS n) := by decide +kernel
  exact this n h
def EdSt.new (ls : List Ln) : EdSt := ⟨⟨ls, 0, 0, []⟩, fun _ => [], none, [], [], []⟩
section
variable {P : Program} {w : World} {K : PySem.W.Frag} {mg : Str → Option Value} {base : Heap}
def sp_Editor___init__ (K : PySem.W.Frag) : Sp := fun vs H Q E => ∃ x dx ls, vs = [.ref x, .str (textS ls)] ∧ H x = some (.ins (He.ga K "Editor") dx []) ∧ ls ≠ [] ∧ (∀ l ∈ ls, 10 ∉ l) ∧ (∀ l ∈ ls, l.length ≤ 1000) ∧ ls.length ≤ 900 ∧ TabG H (tS K) ∧
  (goodB ls = true → ∀ t pr un ud H', H t = none → H pr = none → H un = none → H ud = none → Kq [x] H H' → EdAt K H' ⟨x, t, pr, un, ud⟩ (EdSt.new ls) → Q .non H') ∧ (goodB ls = false → ∀ H', Kq [] H H' → E (.ref (He.ga K "BadText")) none H')
theorem sc_Editor___init__ : FnScope ["self", "text", "name"] ["self", "text"] (defScope s_Editor___init__) := ⟨rfl, rfl, rfl, by decide +kernel, rfl, by decide +kernel, by decide +kernel⟩
theorem ok_Editor___init__ (T : Tx w K mg) (B : TabB base mg (cS K) (tS K)) : Fk P w K mg base 4 (Ad K d_Editor___init__.at_) ["self", "text"] (sp_Editor___init__ K) := by
  have F_first_page := ok_first_page (P := P) (base := base) T B
  refine mkF T.f_Editor___init__ sc_Editor___init__ rfl (fun _ _ _ _ _ _ us hl => match us, hl with | [_, _], _ => rfl) (fun vs H Q E h => by obtain ⟨_, _, _, rfl, _⟩ := h; rfl) (fun cdv A outer s H vs Q E hcd hcode hr h => ?_)
  refine ⟨_, (pss_cons (ps_fld (pv 0) (pe_cF F_first_page (hr.mono (by decide)) T.g_first_page px (pa_cons (pv 1) pa_nil)) rfl)
      (pss_cons (ps_fld (pv 0) (pe_dc (own := [("name", 2)]) rfl sc_Editor___init__.nd (pi_tup (pe_glob (v := .ref (He.ga K "NAMES")) rfl T.g_NAMES rfl)) (blkOk_by (own := [("name", 2)]) (N := ["self", "text", "name"]) (sc := defScope s_Editor___init__) (by decide +kernel)) (fun _ _ _ _ _ => (pg_name (i := 2) sc_Editor___init__.nd rfl (.inl rfl))) (fun _ _ _ _ _ => pts_nil) (fun _ _ _ _ _ => (pv 2)) (fun _ _ _ _ _ => (pe_tup pa_nil))) rfl)
      (pss_cons (ps_fld (pv 0) pe_non rfl)
      (pss_cons (ps_fld (pv 0) (pe_lst pa_nil) rfl)
      (pss_cons (ps_fld (pv 0) (pe_lst pa_nil) rfl)
      (pss_one (ps_fld (pv 0) (pe_lst pa_nil) rfl))))))), ?_⟩
  obtain ⟨x, dx, ls, rfl, hx, hne, h10, hlong, hmany, hT, kt, kf⟩ := h
  refine ⟨_, rfl, ls, rfl, hne, h10, hlong, hmany, hT, fun hg q H1 k1 a1 => ?_, fun hb H1 k1 => kf hb H1 k1⟩
  refine ⟨_, rfl, x, _, dx, _, rfl, k1.get hx, T.c_Editor, T.a_Editor_page, (by show 0 < 1000; decide), ?_⟩
  have kw : Kq [x] H (upd H1 x (.ins (He.ga K "Editor") dx (putF "page" (.ref q) []))) := k1.of.trans (Kq.write (k1.get hx) (by simp))
  have gx : (upd H1 x (.ins (He.ga K "Editor") dx (putF "page" (.ref q) []))) x = some (.ins (He.ga K "Editor") dx (putF "page" (.ref q) [])) := upd_same
  have hqx : q ≠ x := fun e => by
    obtain ⟨dq, t, h1, h2⟩ := a1
    rw [e, k1.get hx] at h1
    have z := congrArg (fun o => match o with | some (HO.ins _ _ fs) => fs.length | _ => 0) h1
    exact absurd z (by show ¬ (0 = 4); decide)
  have aq : PageAt K (upd H1 x (.ins (He.ga K "Editor") dx (putF "page" (.ref q) []))) q ⟨ls, 0, 0, []⟩ := by
    obtain ⟨dq, t, h1, h2⟩ := a1
    have hne1 : q ≠ x := fun e => by
      rw [e, k1.get hx] at h1
      have z := congrArg (fun o => match o with | some (HO.ins _ _ fs) => fs.length | _ => 0) h1
      exact absurd z (by show ¬ (0 = 4); decide)
    refine ⟨dq, t, by rw [upd_ne hne1]; exact h1, ?_⟩
    rcases h2 with (h2 | ⟨o, h2⟩) | h2
    · exact .inl (.inl (by rw [upd_ne (fun e => by rw [e, k1.get hx] at h2; cases h2)]; exact h2))
    · exact .inl (.inr ⟨o, by rw [upd_ne (fun e => by rw [e, k1.get hx] at h2; cases h2)]; exact h2⟩)
    · exact .inr h2
  generalize (upd H1 x (.ins (He.ga K "Editor") dx (putF "page" (.ref q) []))) = H2 at kw gx aq ⊢
  -- the tapes
  refine ⟨_, rfl, ⟨_, T.names _⟩, fun D nD => ?_⟩
  refine dc_tup (K := K) (a := He.ga K "NAMES") (xs := namesV) (fun i H' => ∃ as : List Addr, as.length = i ∧ H' D = some (.dK ((names8.take i).zip (as.map V.ref))) ∧ (∀ a ∈ as, SqT K H' a []) ∧ Kq [] H2 H')
    ⟨[], rfl, upd_same, fun a ha => by simp at ha, Kq.alloc nD⟩ (fun i H' _ _ => T.names _) ?_ ?_
  · rintro i v H' hi ⟨as, hlen, hD, has, k2⟩
    have hi8 : i < 8 := by have := (List.getElem?_eq_some_iff.mp hi).1; exact this
    have hi9 : i < names8.length := hi8
    have hv : v = kV names8[i] := by
      rw [names8_V, List.getElem?_map, List.getElem?_eq_getElem hi9] at hi
      exact (Option.some.inj hi).symm
    subst hv
    refine ⟨rfl, _, rfl, line16 (by show 0 ≤ 1000000; decide), fun p np => ?_⟩
    have npD : D ≠ p := ne_of_none hD np
    refine ⟨_, names8[i], rfl, (by rw [upd_ne npD]; exact hD), ?_, as ++ [p], by simp [hlen], ?_, fun a ha => ?_, ?_⟩
    · rw [List.length_zip, List.length_take, List.length_map]
      exact small1000 (by omega)
    · rw [upd_same]
      have hno : valV ((names8.take i).zip (as.map V.ref)) names8[i] = none := valV_no fun pq hpq e => by
        have h1 : pq.1 ∈ names8.take i := (List.of_mem_zip hpq).1
        rw [e] at h1
        obtain ⟨j, hj, ej⟩ := List.mem_iff_getElem.mp h1
        rw [List.length_take] at hj
        rw [List.getElem_take] at ej
        have := (List.getElem_inj names8_nd).mp ej
        omega
      rw [putK_new _ hno, List.take_succ_eq_append_getElem hi9, List.map_append, List.zip_append (by rw [List.length_take, List.length_map]; omega)]
      rfl
    · have k3 : Kq [] H' (upd H' p (.tup [])) := Kq.alloc np
      have nD2 : ∀ xs, (upd (upd H' p (.tup [])) D (.dK xs)) = (upd (upd H' p (.tup [])) D (.dK xs)) := fun _ => rfl
      have tupD : ∀ {l ys}, SqT K (upd H' p (.tup [])) l ys → ∀ o, SqT K (upd (upd H' p (.tup [])) D (.dK o)) l ys := fun {l ys} h o => by
        rcases h with (h | ⟨u, h⟩) | h
        · exact .inl (.inl (by rw [upd_ne (fun e => by rw [e, upd_ne npD, hD] at h; cases h)]; exact h))
        · exact .inl (.inr ⟨u, by rw [upd_ne (fun e => by rw [e, upd_ne npD, hD] at h; cases h)]; exact h⟩)
        · exact .inr h
      rcases List.mem_append.mp ha with ha | ha
      · exact tupD (k3.tup (has a ha)) _
      · rw [List.mem_singleton.mp ha]
        exact tupD (SqT.of upd_same) _
    · have nD' : H2 D = none := nD
      exact Kq.writeF (k2.trans (Kq.alloc np)) nD' (by rw [upd_ne npD]; exact hD)
  rintro H3 ⟨as, hlen, hD, has, k3⟩
  have hlen : as.length = 8 := hlen
  have nDH : H D = none := kw.fr D nD
  have gx3 := k3.get gx
  have nxD : D ≠ x := ne_of_none gx nD |>.symm
  -- the rest
  refine ⟨_, rfl, x, _, dx, _, rfl, gx3, T.c_Editor, T.a_Editor_tapes, (by show 1 < 1000; decide), ?_⟩
  refine ⟨_, rfl, x, _, dx, _, rfl, upd_same, T.c_Editor, T.a_Editor_recorded, (by show 2 < 1000; decide), ?_⟩
  refine ⟨line16 (by show 0 ≤ 1000000; decide), fun pr npr => ?_⟩
  have npx : x ≠ pr := fun e => by subst e; rw [upd_same] at npr; cases npr
  refine ⟨_, rfl, x, _, dx, _, rfl, (by rw [upd_ne npx]; exact upd_same), T.c_Editor, T.a_Editor_pressed, (by show 3 < 1000; decide), ?_⟩
  refine ⟨line16 (by show 0 ≤ 1000000; decide), fun un nun => ?_⟩
  have nux : x ≠ un := fun e => by subst e; rw [upd_same] at nun; cases nun
  refine ⟨_, rfl, x, _, dx, _, rfl, (by rw [upd_ne nux]; exact upd_same), T.c_Editor, T.a_Editor_units, (by show 4 < 1000; decide), ?_⟩
  refine ⟨line16 (by show 0 ≤ 1000000; decide), fun ud nud => ?_⟩
  have ndx : x ≠ ud := fun e => by subst e; rw [upd_same] at nud; cases nud
  refine ⟨_, rfl, x, _, dx, _, rfl, (by rw [upd_ne ndx]; exact upd_same), T.c_Editor, T.a_Editor_undone, (by show 5 < 1000; decide), ?_⟩
  rw [edF_make]
  have g1 : ∀ o, (upd H3 x o) x = some o := fun o => upd_same
  have nprH : H3 pr = none := by
    by_cases e : pr = x
    · exact absurd e (Ne.symm npx)
    · rw [upd_ne e, upd_ne e] at npr; exact npr
  have e1 : un ≠ pr := fun e => by subst e; rw [upd_ne (Ne.symm nux), upd_same] at nun; cases nun
  have e2 : ud ≠ un := fun e => by subst e; rw [upd_ne (Ne.symm ndx), upd_same] at nud; cases nud
  have e3 : ud ≠ pr := fun e => by subst e; rw [upd_ne (Ne.symm ndx), upd_ne e2, upd_ne (Ne.symm ndx), upd_same] at nud; cases nud
  have nunH : H3 un = none := by rw [upd_ne (Ne.symm nux), upd_ne e1, upd_ne (Ne.symm nux), upd_ne (Ne.symm nux)] at nun; exact nun
  have nudH : H3 ud = none := by rw [upd_ne (Ne.symm ndx), upd_ne e2, upd_ne (Ne.symm ndx), upd_ne e3, upd_ne (Ne.symm ndx), upd_ne (Ne.symm ndx)] at nud; exact nud
  have dpr : D ≠ pr := ne_of_none hD nprH
  have dun : D ≠ un := ne_of_none hD nunH
  have dud : D ≠ ud := ne_of_none hD nudH
  have hm : ∀ {o : HO}, x ∈ [x] := fun {o} => by simp
  have k4 := (((((((Kq.write (S := [x]) (o := _) gx3 (by simp)).trans (Kq.write (S := [x]) (o := _) upd_same (by simp))).trans (Kq.alloc (o := .lst []) npr)).trans (Kq.write (S := [x]) (o := _) ((upd_ne npx).trans upd_same) (by simp))).trans (Kq.alloc (o := .lst []) nun)).trans (Kq.write (S := [x]) (o := _) ((upd_ne nux).trans upd_same) (by simp))).trans (Kq.alloc (o := .lst []) nud)).trans (Kq.write (S := [x]) (o := .ins (He.ga K "Editor") dx (edF q D .non pr un ud)) ((upd_ne ndx).trans upd_same) (by simp))
  refine kt hg D pr un ud _ nDH ?_ ?_ ?_ (kw.trans (k3.of.trans k4)) ?_
  · exact kw.fr _ (k3.fr _ nprH)
  · exact kw.fr _ (k3.fr _ nunH)
  · exact kw.fr _ (k3.fr _ nudH)
  refine ⟨⟨dx, q, [], [], [], upd_same, k4.page1 gx3 (k3.page aq) hqx, ?_, .nil, ?_, .nil, ?_, .nil⟩, ⟨_, k4.gets hD (by simp [nxD]), ?_, fun n hn => ?_⟩, ⟨fun n _ => by simp [EdSt.new], fun n _ k hk => by simp [EdSt.new] at hk⟩, ?_, good_ok hne hg, e1.symm, e3.symm, e2.symm, fun k hk => by simp [EdSt.new] at hk, fun u hu => by simp [EdSt.new] at hu, fun u hu => by simp [EdSt.new] at hu, fun n hn => by simp [EdSt.new] at hn⟩
  · show _ = some (HO.lst [])
    rw [upd_ne (Ne.symm npx), upd_ne e3.symm, upd_ne (Ne.symm npx), upd_ne e1.symm, upd_ne (Ne.symm npx), upd_same]
  · show _ = some (HO.lst [])
    rw [upd_ne (Ne.symm nux), upd_ne e2.symm, upd_ne (Ne.symm nux), upd_same]
  · show _ = some (HO.lst [])
    rw [upd_ne (Ne.symm ndx), upd_same]
  · rw [List.take_of_length_le (by decide +kernel), List.map_fst_zip (by rw [List.length_map, hlen]; decide +kernel)]
  · have h1 : n < names8.length := hn
    have h2 : n < (as.map V.ref).length := by rw [List.length_map]; omega
    have h3 := valV_zip h1 h2 names8_nd
    rw [names8_at hn] at h3
    refine ⟨as[n]'(by omega), ?_, [], k4.tup1 gx3 (has _ (List.getElem_mem _)), .nil⟩
    rw [List.take_of_length_le (by decide +kernel), h3, List.getElem_map]
  · exact k4.tab _ (k3.tab _ (kw.tab _ hT))
end
end KT
set_option Elab.async false
set_option linter.all false
set_option maxRecDepth 100000
set_option maxHeartbeats 4000000
namespace KT
open PySem PySem.Spec PyProof.Rows L2 GxR
/-- what is fresh may be written -/
theorem Kq.fresh {S : List Addr} {H H1 H2 : Hp} (a : Kq [] H H1) (b : Kq S H1 H2) (h : ∀ c ∈ S, H c = none) : Kq [] H H2 :=
  ⟨fun c o q n m => b.at_ c o (a.get q n) n (fun z => absurd (h c z) (by rw [q]; simp)), fun p q => b.tab p (a.tab p q), fun c q => a.fr c (b.fr c q)⟩
theorem PlAt.kf {K : PySem.W.Frag} {S : List Addr} {H H1 : Hp} {x t y : Addr} {tp : Nat → List Ky} {st : PSt} (h : PlAt K H x t y tp st) (k : Kf S H H1) (nx : x ∉ S) (ny : y ∉ S) (nt : t ∉ S) : PlAt K H1 x t y tp st := by
  obtain ⟨dx, p, as, h1, h2, h3, h4⟩ := h.ex
  exact ⟨⟨dx, p, as, k.q.at_ _ _ h1 rfl nx, k.page h2, k.q.at_ _ _ h3 rfl ny, k.keys h4⟩, k.tapes h.tapes nt, h.tok, k.q.tab _ h.sign, h.ok, h.small, h.low⟩
theorem Kf.mono {S S' : List Addr} {H H1 : Hp} (k : Kf S H H1) (h : ∀ b ∈ S, b ∈ S') (w : ∀ b ∈ S', ∃ o, H b = some o ∧ mutO o = true) (w' : ∀ b ∈ S', ∃ o, H1 b = some o ∧ mutO o = true) : Kf S' H H1 := ⟨k.q.mono h, w, w'⟩
/-- one list is written -/
theorem Kf.one {H : Hp} {l : Addr} {xs ys : List V} (h : H l = some (.lst xs)) : Kf [l] H (upd H l (.lst ys)) :=
  Kf.write h (by simp) rfl fun b hb => by rw [List.mem_singleton.mp hb]; exact ⟨_, h, rfl⟩
theorem recV_none {o : Option Nat} (h : recV o = .non) : o = none := by
  cases o with
  | none => rfl
  | some n => cases h
def doneE (ed : EdSt) (ky : Ky) (g : Pg) : EdSt :=
  { page := g, tapes := ed.tapes, taped := ed.taped, pressed := if ed.taped.isSome = true then ed.pressed ++ [ky] else ed.pressed,
    units := if g.rows = ed.page.rows then ed.units else ed.units ++ [(ed.page, g)], undone := if g.rows = ed.page.rows then ed.undone else [] }
def runK (ed : EdSt) (ky : Ky) : Res := doK ed.tapes 20 ky ⟨ed.page, [], 0⟩
structure EdSt.Small (ed : EdSt) : Prop where
  p : ed.pressed.length ≤ 900
  u : ed.units.length ≤ 900
  d : ed.undone.length ≤ 900
section
variable {P : Program} {w : World} {K : PySem.W.Frag} {mg : Str → Option Value} {base : Heap}
def sp_Player___init__ (K : PySem.W.Frag) : Sp := fun vs H Q _ => ∃ x dx p t, vs = [.ref x, .ref p, .ref t] ∧ H x = some (.ins (He.ga K "Player") dx []) ∧ ∀ y H', H y = none → Kq [x] H H' → H' x = some (.ins (He.ga K "Player") dx (playerF p t y 0)) → H' y = some (.lst []) → Q .non H'
theorem sc_Player___init__ : FnScope ["self", "page", "tapes"] ["self", "page", "tapes"] (defScope s_Player___init__) := ⟨rfl, rfl, rfl, by decide +kernel, rfl, by decide +kernel, by decide +kernel⟩
theorem ok_Player___init__ (T : Tx w K mg) : Fk P w K mg base 1 (Ad K d_Player___init__.at_) ["self", "page", "tapes"] (sp_Player___init__ K) := by
  refine mkF T.f_Player___init__ sc_Player___init__ rfl (fun _ _ _ _ _ _ us hl => match us, hl with | [_, _, _], _ => rfl) (fun vs H Q E h => by obtain ⟨_, _, _, _, rfl, _⟩ := h; rfl) (fun cdv A outer s H vs Q E hcd hcode hr h => ?_)
  refine ⟨_, (pss_cons (ps_fld (pv 0) (pv 1) rfl)
      (pss_cons (ps_fld (pv 0) (pv 2) rfl)
      (pss_cons (ps_fld (pv 0) (pe_lst pa_nil) rfl)
      (pss_one (ps_fld (pv 0) pe_int rfl))))), ?_⟩
  obtain ⟨x, dx, p, t, rfl, hx, k⟩ := h
  refine ⟨_, rfl, _, rfl, x, _, dx, _, rfl, hx, T.c_Player, T.a_Player_page, (by show 0 < 1000; decide), ?_⟩
  refine ⟨_, rfl, _, rfl, x, _, dx, _, rfl, upd_same, T.c_Player, T.a_Player_tapes, (by show 1 < 1000; decide), ?_⟩
  refine ⟨line16 (by show 0 ≤ 1000000; decide), fun y ny => ?_⟩
  have nxy : x ≠ y := fun e => by subst e; rw [upd_same] at ny; cases ny
  refine ⟨_, rfl, x, _, dx, _, rfl, (by rw [upd_ne nxy]; exact upd_same), T.c_Player, T.a_Player_typed, (by show 2 < 1000; decide), ?_⟩
  refine ⟨_, rfl, x, _, dx, _, rfl, upd_same, T.c_Player, T.a_Player_things, (by show 3 < 1000; decide), ?_⟩
  rw [playerF_make]
  refine k y _ ?_ ((((Kq.write (S := [x]) (o := _) hx (by simp)).trans (Kq.write (S := [x]) (o := _) upd_same (by simp))).trans (Kq.alloc (o := .lst []) ny)).trans ((Kq.write (S := [x]) (o := _) ((upd_ne nxy).trans upd_same) (by simp)).trans (Kq.write (S := [x]) (o := .ins (He.ga K "Player") dx (playerF p t y 0)) upd_same (by simp)))) upd_same ?_
  · rw [upd_ne (Ne.symm nxy), upd_ne (Ne.symm nxy)] at ny; exact ny
  · rw [upd_ne (Ne.symm nxy), upd_ne (Ne.symm nxy), upd_same]
def sp_Player (K : PySem.W.Frag) : Sp := fun vs H Q _ => ∃ p t g tp, vs = [.ref p, .ref t] ∧ PageAt K H p g ∧ g.Ok ∧ TapesAt K H t tp ∧ TpOk tp ∧ TabG H (tS K) ∧ ∀ x y H', Kq [] H H' → H x = none → H y = none → x ≠ y → PlAt K H' x t y tp ⟨g, [], 0⟩ → Q (.ref x) H'
theorem new_Player {E : XK} : ∀ vs H Q, sp_Player K vs H Q E → ∀ x dx, H x = none → H dx = none → dx ≠ x →
    sp_Player___init__ K (.ref x :: vs) (upd (upd H dx (.own x)) x (.ins (He.ga K "Player") dx [])) (fun v H2 => v = .non ∧ Q (.ref x) H2) E := by
  rintro vs H Q ⟨p, t, g, tp, rfl, hp, hg, ht, hto, hT, k⟩ x dx nx ndx ne
  refine ⟨x, dx, p, t, rfl, upd_same, fun y H' ny k' h1 h2 => ⟨rfl, ?_⟩⟩
  have k0 : Kq [] H (upd (upd H dx (.own x)) x (.ins (He.ga K "Player") dx [])) := Kq.made nx ndx ne
  have kk : Kq [] H H' := k0.fresh k' fun c hc => by rw [List.mem_singleton.mp hc]; exact nx
  have nxy : x ≠ y := fun e => by subst e; rw [upd_same] at ny; cases ny
  exact k x y H' kk nx (k0.fr y ny) nxy ⟨⟨dx, p, [], h1, kk.page hp, h2, .nil⟩, kk.tapes ht, hto, kk.tab _ hT, hg, Nat.le_refl _, Nat.zero_le _⟩
def sp_ed_press (K : PySem.W.Frag) : Sp := fun vs H Q E => ∃ m ed a ky, vs = [.ref m.e, .ref a] ∧ EdAt K H m ed ∧ ed.Small ∧ KeyAt K H a ky ∧ ky.Ok ∧
  (runK ed ky = .long → ∀ H', Kq [] H H' → E (.ref (He.ga K "TooLong")) none H') ∧
  (∀ b st m' H', runK ed ky = .fin b st → m'.e = m.e → m'.t = m.t → m'.pr = m.pr → m'.un = m.un → (m'.ud = m.ud ∨ H m'.ud = none) → Kf m.l H H' → EdAt K H' m' (doneE ed ky st.page) → Q (.bl b) H')
theorem sc_Editor_press : FnScope ["self", "key", "player", "fits"] ["self", "key"] (defScope s_Editor_press) := ⟨rfl, rfl, rfl, by decide +kernel, rfl, by decide +kernel, by decide +kernel⟩
theorem ok_Editor_press (T : Tx w K mg) (B : TabB base mg (cS K) (tS K)) : Fk P w K mg base 70 (Ad K d_Editor_press.at_) ["self", "key"] (sp_ed_press K) := by
  have F_Player___init__ := ok_Player___init__ (P := P) (base := base) T
  have F_Player_do := ok_player (P := P) (base := base) T 20
  have F_check_key := ok_check_key (P := P) (base := base) T B
  refine mkF T.f_Editor_press sc_Editor_press rfl (fun _ _ _ _ _ _ us hl => match us, hl with | [_, _], _ => rfl) (fun vs H Q E h => by obtain ⟨_, _, _, _, rfl, _⟩ := h; rfl) (fun cdv A outer s H vs Q E hcd hcode hr h => ?_)
  refine ⟨_, (pss_cons (ps_expr (pe_cF F_check_key (hr.mono (by decide)) T.g_check_key px (pa_cons (pv 1) pa_nil)))
      (pss_cons (ps_asg (pe_kF (spN := sp_Player K) T.k_Player F_Player___init__ (hr.mono (by decide)) T.g_Player px new_Player (pa_cons (pe_fld (pv 0) rfl) (pa_cons (pe_fld (pv 0) rfl) pa_nil))) (pg_name (i := 2) sc_Editor_press.nd rfl (.inl rfl)))
      (pss_cons (ps_asg (pe_mF _ (pv 2) T.c_Player T.m_Player_do F_Player_do (hr.mono (by decide)) px (pa_cons (pv 1) (pa_cons pe_int pa_nil))) (pg_name (i := 3) sc_Editor_press.nd rfl (.inl rfl)))
      (C8.pss_cut (ps_if (pt_cmpR op_notN (pe_fld (pv 0) rfl) pe_non (nomark _)) (pss_one (ps_expr (pe_bm PySem.F.plainAttrs_list PySem.F.slot_list_append PySem.F.type_list_append mt_append (pe_fld (pv 0) rfl) (pa_cons (pv 1) pa_nil)))) pss_nil)
      (C8.pss_cut (ps_if (pt_cmpR (op_neD hr.units) (pe_fld (pe_fld (pv 2) rfl) rfl) (pe_fld (pe_fld (pv 0) rfl) rfl) (nomark _)) (pss_cons (ps_expr (pe_bm PySem.F.plainAttrs_list PySem.F.slot_list_append PySem.F.type_list_append mt_append (pe_fld (pv 0) rfl) (pa_cons (pe_tup (pa_cons (pe_fld (pv 0) rfl) (pa_cons (pe_fld (pv 2) rfl) pa_nil))) pa_nil)))
      (pss_one (ps_fld (pv 0) (pe_lst pa_nil) rfl))) pss_nil)
      (pss_cons (ps_fld (pv 0) (pe_fld (pv 2) rfl) rfl)
      (pss_one (ps_ret (pv 3))))))))), ?_⟩
  obtain ⟨m, ed, a, ky, rfl, hE, hsm, hk, kok, kl, kf⟩ := h
  refine ⟨_, rfl, a, keyV ky, fun _ => true, rfl, hk, keyV_small kok, hE.sign, fun x e => act_ok T x e, fun _ H1 k1 => ?_, fun e => absurd ((keyB_ok kok).symm.trans e) (by simp)⟩
  have hE1 := hE.kq k1
  obtain ⟨dx1, p1, ap1, au1, ad1, g1, g2, _⟩ := hE1.ex
  refine ⟨_, rfl, m.e, _, dx1, _, _, rfl, g1, T.c_Editor, T.a_Editor_page, edF_page _ _ _ _ _ _, _, rfl, m.e, _, dx1, _, _, rfl, g1, T.c_Editor, T.a_Editor_tapes, edF_tapes _ _ _ _ _ _, p1, m.t, ed.page, ed.tapes, rfl, g2, hE.ok, hE1.tapes, hE1.tok, hE1.sign, fun x y H2 k2 nx ny nxy hP => ?_⟩
  obtain ⟨dx2, p2, as2, q1, _⟩ := hP.ex
  have nxH : H x = none := k1.fr x nx
  have nyH : H y = none := k1.fr y ny
  have fr : ∀ {H3}, Kf [x, y] H2 H3 → Kq [] H H3 := fun k3 => (k1.trans k2).fresh k3.q fun c hc => by
    simp only [List.mem_cons, List.not_mem_nil, or_false] at hc
    rcases hc with rfl | rfl
    · exact nxH
    · exact nyH
  refine ⟨_, rfl, x, _, _, rfl, q1, playerF_no_do _ _ _ _, _, rfl, x, m.t, y, ed.tapes, ⟨ed.page, [], 0⟩, a, ky, rfl, hP, Nat.zero_le _, Nat.le_refl _, (k1.trans k2).key hk, kok, fun el H3 k3 => kl el H3 (fr k3), fun b st H3 eb k3 hP3 h43 => ?_⟩
  have kk := fr k3
  have hE3 := hE.kq kk
  have outx : ∀ c ∈ m.l, c ≠ x := fun c hc e => by obtain ⟨o, h1, _⟩ := hE.wr c hc; rw [e, nxH] at h1; cases h1
  have outy : ∀ c ∈ m.l, c ≠ y := fun c hc e => by obtain ⟨o, h1, _⟩ := hE.wr c hc; rw [e, nyH] at h1; cases h1
  have kf0 : Kf m.l H H3 := Kf.of kk hE.wr
  -- taping
  refine ⟨fun σ' H' => σ' = [some (.ref m.e), some (.ref a), some (.ref x), some (.bl b)] ∧ Kf m.l H H' ∧ EdAt K H' m { ed with pressed := if ed.taped.isSome = true then ed.pressed ++ [ky] else ed.pressed } ∧ PlAt K H' x m.t y ed.tapes st, ?_, ?_⟩
  · obtain ⟨dx, p, ap, au, ad, h1, h2, h3, h4, h5, h6, h7, h8⟩ := hE3.ex
    refine ⟨_, rfl, m.e, _, dx, _, _, rfl, h1, T.c_Editor, T.a_Editor_recorded, edF_recorded _ _ _ _ _ _, rfl, _, rfl, ?_⟩
    refine iteN (fun hr => ?_) (fun hr => ?_)
    · have hs : ed.taped.isSome = true := by
        cases e : ed.taped with
        | none => exact absurd (show recV ed.taped = .non by rw [e]; rfl) hr
        | some n => rfl
      refine ⟨_, rfl, m.e, _, dx, _, _, rfl, h1, T.c_Editor, T.a_Editor_pressed, edF_pressed _ _ _ _ _ _, .inl ⟨rfl, _, SqL.of h3⟩, _, rfl, m.pr, _, _, rfl, rfl, h3, small1000 (by rw [List.length_map, h4.len]; have := hsm.p; omega), ?_⟩
      have k4 := Kf.one (ys := ap.map V.ref ++ [V.ref a]) h3
      have ne1 : m.e ≠ m.pr := ne_of h1 h3 (by intro z; cases z)
      obtain ⟨kvs, ht1, ht2⟩ := hE3.tapes
      have ne2 : m.t ≠ m.pr := ne_of ht1 h3 (by intro z; cases z)
      refine ⟨rfl, kf0.trans (k4.mono (fun c hc => by rw [List.mem_singleton.mp hc]; simp [EdM.l]) hE3.wr ?_), ?_, hP3.kf k4 (by simp; exact (outx m.pr (by simp [EdM.l])).symm) (by simp; exact (outy m.pr (by simp [EdM.l])).symm) (by simp [ne2])⟩
      · intro c hc
        by_cases e : c = m.pr
        · rw [e, upd_same]; exact ⟨_, rfl, rfl⟩
        · rw [upd_ne e]; exact hE3.wr c hc
      · rw [if_pos hs]
        refine ⟨⟨dx, p, ap ++ [a], au, ad, (upd_ne ne1).trans h1, k4.page h2, ?_, (k4.keys h4).snoc (k4.key (kk.key hk)), (upd_ne hE.d1.symm).trans h5, h6.imp (fun _ _ z => k4.tup z) (fun _ _ z => k4.page z), (upd_ne hE.d2.symm).trans h7, h8.imp (fun _ _ z => k4.tup z) (fun _ _ z => k4.page z)⟩, k4.tapes hE3.tapes (by simp [ne2]), hE.tok, k4.q.tab _ hE3.sign, hE.ok, hE.d1, hE.d2, hE.d3, fun k' hk' => ?_, hE.uok, hE.dok, hE.rok⟩
        · rw [upd_same, List.map_append]; rfl
        · rcases List.mem_append.mp hk' with z | z
          · exact hE.pok k' z
          · rw [List.mem_singleton.mp z]; exact kok
    · have hs : ed.taped = none := recV_none hr
      refine ⟨rfl, kf0, ?_, hP3⟩
      rw [if_neg (by rw [hs]; simp)]
      exact hE3
  rintro σ' H4 ⟨rfl, k4, hE4, hP4⟩
  -- the units
  refine ⟨fun σ' H' => σ' = [some (.ref m.e), some (.ref a), some (.ref x), some (.bl b)] ∧ ∃ ud', (ud' = m.ud ∨ H ud' = none) ∧ Kf m.l H H' ∧ EdAt K H' ⟨m.e, m.t, m.pr, m.un, ud'⟩ { doneE ed ky st.page with page := ed.page } ∧ PlAt K H' x m.t y ed.tapes st, ?_, ?_⟩
  · obtain ⟨dx, p, ap, au, ad, h1, h2, h3, h4, h5, h6, h7, h8⟩ := hE4.ex
    obtain ⟨dy, p', as', q1, q2, q3, q4⟩ := hP4.ex
    refine ⟨_, rfl, x, _, dy, _, _, rfl, q1, T.c_Player, T.a_Player_page, playerF_page _ _ _ _, rd_rows T q2 fun t1 ht1 => ⟨_, rfl, m.e, _, dx, _, _, rfl, h1, T.c_Editor, T.a_Editor_page, edF_page _ _ _ _ _ _, rd_rows T h2 fun t2 ht2 => ⟨rowsD st.page.rows, rowsD ed.page.rows, dp_rows ht1, dp_rows ht2, shaped_rows hP4.ok.sig, shaped_rows hE.ok.sig, _, rfl, ?_⟩⟩⟩
    rw [eqv_rows]
    refine iteN (fun hne => ?_) (fun heq => ?_)
    · refine ⟨_, rfl, m.e, _, dx, _, _, rfl, h1, T.c_Editor, T.a_Editor_units, edF_units _ _ _ _ _ _, .inl ⟨rfl, _, SqL.of h5⟩, _, rfl, m.e, _, dx, _, _, rfl, h1, T.c_Editor, T.a_Editor_page, edF_page _ _ _ _ _ _, _, rfl, x, _, dy, _, _, rfl, q1, T.c_Player, T.a_Player_page, playerF_page _ _ _ _, line16 (by show 2 ≤ 1000000; decide), fun u nu => ?_⟩
      have ku : Kq [] H4 (upd H4 u (.tup [.ref p, .ref p'])) := Kq.alloc nu
      have au5 := ku.get h5
      have su : SqT K (upd H4 u (.tup [.ref p, .ref p'])) u [.ref p, .ref p'] := SqT.of upd_same
      have hE5 := hE4.kq ku
      have hP5 := hP4.kq ku
      have h15 := ku.get h1
      have h25 := ku.page h2
      have h75 := ku.get h7
      have h35 := ku.get h3
      have q25 := ku.page q2
      generalize (upd H4 u (.tup [.ref p, .ref p'])) = H5 at ku au5 su hE5 hP5 h15 h25 h75 h35 q25 ⊢
      refine ⟨m.un, _, _, rfl, rfl, au5, small1000 (by rw [List.length_map, h6.len]; have := hsm.u; show ed.units.length ≤ 1000; omega), ?_⟩
      have k6 := Kf.one (ys := au.map V.ref ++ [V.ref u]) au5
      have ne1 : m.e ≠ m.un := ne_of h15 au5 (by intro z; cases z)
      obtain ⟨kvs, ht1', ht2'⟩ := hE5.tapes
      have ne2 : m.t ≠ m.un := ne_of ht1' au5 (by intro z; cases z)
      have h16 : (upd H5 m.un (.lst (au.map V.ref ++ [V.ref u]))) m.e = _ := (upd_ne ne1).trans h15
      have a16 : (upd H5 m.un (.lst (au.map V.ref ++ [V.ref u]))) m.un = _ := upd_same
      have a36 : (upd H5 m.un (.lst (au.map V.ref ++ [V.ref u]))) m.pr = _ := (upd_ne hE.d1).trans h35
      have a76 : (upd H5 m.un (.lst (au.map V.ref ++ [V.ref u]))) m.ud = _ := (upd_ne hE.d3.symm).trans h75
      have hP6 := hP5.kf k6 (by simp; exact (outx m.un (by simp [EdM.l])).symm) (by simp; exact (outy m.un (by simp [EdM.l])).symm) (by simp [ne2])
      have t6 := k6.tapes hE5.tapes (by simp [ne2])
      have kq6 : Kq m.l H (upd H5 m.un (.lst (au.map V.ref ++ [V.ref u]))) := (k4.kq ku).q.trans (k6.q.mono fun c hc => by rw [List.mem_singleton.mp hc]; simp [EdM.l])
      have w6 : ∀ c ∈ m.l, ∃ o, (upd H5 m.un (.lst (au.map V.ref ++ [V.ref u]))) c = some o ∧ mutO o = true := fun c hc => by
        by_cases e : c = m.un
        · rw [e, upd_same]; exact ⟨_, rfl, rfl⟩
        · rw [upd_ne e]; exact hE5.wr c hc
      generalize (upd H5 m.un (.lst (au.map V.ref ++ [V.ref u]))) = H6 at k6 h16 a16 a36 a76 hP6 t6 kq6 w6 ⊢
      -- self.undone = []
      refine ⟨line16 (by show 0 ≤ 1000000; decide), fun ud' nud => ?_⟩
      have nud0 : H ud' = none := kq6.fr _ nud
      have k7 : Kq [] H6 (upd H6 ud' (.lst [])) := Kq.alloc nud
      refine ⟨_, rfl, m.e, _, dx, _, rfl, k7.get h16, T.c_Editor, T.a_Editor_undone, (by show 6 < 1000; decide), ?_⟩
      rw [edF_put_undone]
      have neud : m.e ≠ ud' := ne_of_none h16 nud
      have w7 : ∀ c ∈ m.l, ∃ o, (upd H6 ud' (.lst [])) c = some o ∧ mutO o = true := fun c hc => by
        obtain ⟨o, z1, z2⟩ := w6 c hc
        exact ⟨o, k7.get z1 (mut_noTbl z2), z2⟩
      have k8 : Kf m.l (upd H6 ud' (.lst [])) (upd (upd H6 ud' (.lst [])) m.e (.ins (He.ga K "Editor") dx (edF p m.t (recV ed.taped) m.pr m.un ud'))) := Kf.write (k7.get h16) (by simp [EdM.l]) (mut_ed _ _ _ _ _ _ _ _) w7
      have k8e : Kf [m.e] (upd H6 ud' (.lst [])) (upd (upd H6 ud' (.lst [])) m.e (.ins (He.ga K "Editor") dx (edF p m.t (recV ed.taped) m.pr m.un ud'))) := Kf.write (k7.get h16) (by simp) (mut_ed _ _ _ _ _ _ _ _) fun c hc => by rw [List.mem_singleton.mp hc]; exact w7 m.e (by simp [EdM.l])
      have kall : Kf [m.e] H6 (upd (upd H6 ud' (.lst [])) m.e (.ins (He.ga K "Editor") dx (edF p m.t (recV ed.taped) m.pr m.un ud'))) := Kf.cat k7 k8e fun c hc => by rw [List.mem_singleton.mp hc]; exact w6 m.e (by simp [EdM.l])
      have net : m.t ≠ m.e := fun e => by obtain ⟨kv, z1, _⟩ := t6; rw [e, h16] at z1; cases z1
      have neun : m.un ≠ m.e := fun e => by rw [e, h16] at a16; cases a16
      have nepr : m.pr ≠ m.e := fun e => by rw [e, h16] at a36; cases a36
      refine ⟨rfl, ud', .inr nud0, ⟨kq6.trans (k7.of.trans k8.q), hE.wr, k8.w'⟩, ?_, hP6.kf kall (by simp; exact (outx m.e (by simp [EdM.l])).symm) (by simp; exact (outy m.e (by simp [EdM.l])).symm) (by simp [net])⟩
      have tr : ∀ {l xs}, SqT K H5 l xs → SqT K (upd (upd H6 ud' (.lst [])) m.e (.ins (He.ga K "Editor") dx (edF p m.t (recV ed.taped) m.pr m.un ud'))) l xs := fun h => kall.tup (k6.tup h)
      have pg : ∀ {q g}, PageAt K H5 q g → PageAt K (upd (upd H6 ud' (.lst [])) m.e (.ins (He.ga K "Editor") dx (edF p m.t (recV ed.taped) m.pr m.un ud'))) q g := fun h => kall.page (k6.page h)
      have e1 : (doneE ed ky st.page).units = ed.units ++ [(ed.page, st.page)] := if_neg hne
      have e2 : (doneE ed ky st.page).undone = [] := if_neg hne
      refine ⟨⟨dx, p, ap, au ++ [u], [], upd_same, pg h25, kall.q.gets a36 (by simp [nepr]), (h4.imp (fun _ _ z => ku.tup z)).imp fun _ _ z => tr z, ?_, ?_, ?_, ?_⟩, kall.tapes t6 (by simp [net]), hE.tok, kall.q.tab _ (k6.q.tab _ hE5.sign), hE.ok, hE.d1, (ne_of_none a36 nud), (ne_of_none a16 nud), hE4.pok, fun v hv => ?_, fun v hv => ?_, hE.rok⟩
      · rw [List.map_append]
        exact kall.q.gets a16 (by simp [neun])
      · show UnitsAt K _ (au ++ [u]) (doneE ed ky st.page).units
        rw [e1]
        exact ((h6.imp (fun _ _ z => ku.tup z) (fun _ _ z => ku.page z)).imp (fun _ _ z => tr z) (fun _ _ z => pg z)).snoc (tr su) (pg h25) (pg q25)
      · show _ = some (HO.lst [])
        rw [upd_ne neud.symm, upd_same]
      · show UnitsAt K _ [] (doneE ed ky st.page).undone
        rw [e2]
        exact .nil
      · have hv : v ∈ (doneE ed ky st.page).units := hv
        rw [e1] at hv
        rcases List.mem_append.mp hv with z | z
        · exact hE.uok v z
        · rw [List.mem_singleton.mp z]; exact ⟨hE.ok, hP4.ok⟩
      · have hv : v ∈ (doneE ed ky st.page).undone := hv
        rw [e2] at hv
        simp at hv
    · refine ⟨rfl, m.ud, .inl rfl, k4, ?_, hP4⟩
      have e1 : (doneE ed ky st.page).units = ed.units := if_pos heq
      have e2 : (doneE ed ky st.page).undone = ed.undone := if_pos heq
      have e3 : { doneE ed ky st.page with page := ed.page } = { ed with pressed := if ed.taped.isSome = true then ed.pressed ++ [ky] else ed.pressed } := by
        show EdSt.mk ed.page ed.tapes ed.taped _ (doneE ed ky st.page).units (doneE ed ky st.page).undone = _
        rw [e1, e2]; rfl
      rw [e3]
      exact hE4
  rintro σ' H5 ⟨rfl, ud', hud, k5, hE5, hP5⟩
  -- self.page = player.page
  obtain ⟨dx, p, ap, au, ad, h1, h2, h3, h4, h5, h6, h7, h8⟩ := hE5.ex
  obtain ⟨dy, p', as', q1, q2, q3, q4⟩ := hP5.ex
  refine ⟨_, rfl, x, _, dy, _, _, rfl, q1, T.c_Player, T.a_Player_page, playerF_page _ _ _ _, _, rfl, m.e, _, dx, _, rfl, h1, T.c_Editor, T.a_Editor_page, (by show 6 < 1000; decide), ?_⟩
  rw [edF_put_page]
  have ke : Kf [m.e] H5 (upd H5 m.e (.ins (He.ga K "Editor") dx (edF p' m.t (recV ed.taped) m.pr m.un ud'))) := Kf.write h1 (by simp) (mut_ed _ _ _ _ _ _ _ _) fun c hc => by rw [List.mem_singleton.mp hc]; exact ⟨_, h1, mut_ed _ _ _ _ _ _ _ _⟩
  have net : m.t ≠ m.e := fun e => by obtain ⟨kv, z1, _⟩ := hE5.tapes; have z1 : H5 m.t = _ := z1; rw [e, h1] at z1; cases z1
  refine ⟨_, rfl, kf b st ⟨m.e, m.t, m.pr, m.un, ud'⟩ _ eb rfl rfl rfl rfl hud ⟨k5.q.trans (ke.q.mono fun c hc => by rw [List.mem_singleton.mp hc]; simp [EdM.l]), hE.wr, fun c hc => ?_⟩ ?_⟩
  · by_cases e : c = m.e
    · rw [e, upd_same]; exact ⟨_, rfl, mut_ed _ _ _ _ _ _ _ _⟩
    · rw [upd_ne e]; exact k5.w' c hc
  have g : ∀ {c o}, H5 c = some o → noTbl o = true → c ≠ m.e → (upd H5 m.e (.ins (He.ga K "Editor") dx (edF p' m.t (recV ed.taped) m.pr m.un ud'))) c = some o := fun h _ n => (upd_ne n).trans h
  refine ⟨⟨dx, p', ap, au, ad, upd_same, ke.page q2, g h3 rfl (ne_of h3 h1 (by intro z; cases z)), ke.keys h4, g h5 rfl (ne_of h5 h1 (by intro z; cases z)), h6.imp (fun _ _ z => ke.tup z) (fun _ _ z => ke.page z), g h7 rfl (ne_of h7 h1 (by intro z; cases z)), h8.imp (fun _ _ z => ke.tup z) (fun _ _ z => ke.page z)⟩,
    ke.tapes hE5.tapes (by simp [net]), hE.tok, ke.q.tab _ hE5.sign, hP5.ok, hE5.d1, hE5.d2, hE5.d3, hE5.pok, hE5.uok, hE5.dok, hE5.rok⟩
end
end KT
set_option Elab.async false
set_option linter.all false
set_option maxRecDepth 100000
set_option maxHeartbeats 4000000
/-! enumerate over a tuple -/
namespace PySem
open AutoSeq1 (wpAny_loadPart')
abbrev tupItO (t : Addr) : Obj := { cls := .type "tuple_iterator", data := .fields #[.ref t, .int 0 0] }
abbrev enumO (i : Addr) : Obj := { cls := .type "enumerate", data := .fields #[.none, .bool false, .ref i, rawInt 0, .none, .none] }
theorem ktEnumNew (t : Addr) (xs : Array Value) (n : Nat) (dct : Option Addr) (sl : Array (Option Value)) :
    Meets (Builtin.«enumerate.__new__» ⟨[.type "enumerate", .ref t], []⟩) (fun _ R s => s.heap.get? t = some { cls := .type "tuple", dict := dct, data := .seq xs n, slots := sl } ∧
      R (.ok (.ret (.ref (s.heap.push (tupItO t)).objs.size))) { s with heap := (s.heap.push (tupItO t)).push (enumO s.heap.objs.size) }) :=
  .of_wp fun prog w A R s hh => by
    obtain ⟨hp, g, d, tk, os⟩ := s
    obtain ⟨ht, hh⟩ := hh
    have hsub := sub_enumerate
    have hT : Heap.IsTuple (Shared.heap ⟨hp, g, d, tk, os⟩) t xs := ⟨_, ht, rfl, n, rfl⟩
    wp_walk using wpAny_loadPart' ht
    refine wpAny_stack_any fun st => wpAny_pure ?_
    split
    · rename_i c _ _ _ _ _
      cases (c == Value.type "enumerate")
      · wp_walk using wpAny_loadPart' ht, wpAny_pyIter_tuple hT
        exact ⟨_, rfl, hh⟩
      · wp_walk using wpAny_loadPart' ht, wpAny_pyIter_tuple hT
        exact ⟨_, rfl, hh⟩
    · wp_walk using wpAny_loadPart' ht, wpAny_pyIter_tuple hT
      exact ⟨_, rfl, hh⟩
theorem ktEnumCall {prog : Program} {w : World} {A : Around} {E : Value → Shared → Prop} {s : Shared} {t : Addr} {xs : Array Value} {Q : Value → Shared → Prop} (hT : s.heap.IsTuple t xs)
    (k : ∀ u, IsEnum u (s.heap.objs.size + 1) s.heap.objs.size 0 .none → u.IsTupleIter s.heap.objs.size t 0 → (∀ b o, s.heap.get? b = some o → u.get? b = some o) → Q (.ref (s.heap.objs.size + 1)) { s with heap := u }) :
    wpAny (model prog w) A (call (.type "enumerate") [.ref t]) Q E s := by
  obtain ⟨⟨c, dct, dt, sl⟩, ht, hc, n, hd⟩ := hT
  replace hc : c = .type "tuple" := hc
  replace hd : dt = .seq xs n := hd
  subst hc hd
  refine callType_new F.called_enumerate (by decide) (F.typeCall_enumerate_1 _) (F.newCall_enumerate_1 _) (fun obj => F.args_object_init_2 obj _) F.entry_enumerate_new (ktEnumNew t xs n dct sl) ⟨ht, ?_⟩
  have hz : (s.heap.push (tupItO t)).objs.size = s.heap.objs.size + 1 := Heap.size_push ..
  show _ ∧ _
  rw [hz]
  have he : IsEnum ((s.heap.push (tupItO t)).push (enumO s.heap.objs.size)) (s.heap.objs.size + 1) s.heap.objs.size 0 .none := by
    have := Heap.get?_push_size (s.heap.push (tupItO t)) (o := enumO s.heap.objs.size) rfl
    rw [hz] at this
    exact this
  exact ⟨⟨_, he, rfl⟩, k _ he ⟨_, Heap.get?_push_of_some _ (Heap.get?_push_size _ rfl), rfl, rfl⟩ fun b o x => Heap.get?_push_of_some _ (Heap.get?_push_of_some _ x)⟩
end PySem
namespace KT
open PySem PySem.Spec PyProof.Rows L2 GxR
/-- the tuple at a as it stands, each item in a new pair -/
def IteT (K : PySem.W.Frag) (a : Addr) : It where
  go := fun i H => ∃ (xs : List V) (x : V), SqT K H a xs ∧ xs[i]? = some x
  yld := fun i H v H' => ∃ T x, v = .ref T ∧ H T = none ∧ H' = upd H T (.tup [.int (i : Nat), x]) ∧ ∀ xs, SqT K H a xs → xs[i]? = some x
  stop := fun i H => ∃ xs : List V, SqT K H a xs ∧ xs.length ≤ i
theorem turn_enumT {P : Program} {w : World} {K : PySem.W.Frag} {elts : List Expr} {kk : Nat} {tpos : Pos} (a e it : Addr) :
    Turn P w K (.Tuple elts kk tpos) (IteT K a) [e, it] e (fun i h => (∃ old, IsEnum h e it ((i : Nat) : Int) old) ∧ h.IsTupleIter it a i ∧ e ≠ it ∧ a ≠ it ∧ a ≠ e) where
  mem := by simp
  obj := fun i h st b hb => by
    obtain ⟨⟨old, he⟩, ⟨o, ho, hc, hd⟩, _⟩ := st
    rcases (by simpa using hb : b = e ∨ b = it) with rfl | rfl
    · exact ⟨_, he, fun v q => nomatch q⟩
    · exact ⟨o, ho, fun v q => by rw [hd] at q; cases q⟩
  keep := fun i h h' st k => let ⟨⟨old, he⟩, hi, hne⟩ := st; ⟨⟨old, k e (by simp) _ he⟩, hi.at fun o q => k it (by simp) o q, hne⟩
  item := by
    intro X hP hw hK hc i pins s σ H E I hf st hg
    subst hP hw hK
    obtain ⟨⟨old, he⟩, hit, hne, hai, hae⟩ := st
    obtain ⟨xs, x, hq, hx⟩ := hg
    obtain ⟨its, rv, p, hz⟩ := I.tuple hq
    obtain ⟨u, hu, ru⟩ := rv.get hx
    have hel : e < s.heap.objs.size := Heap.lt_size he
    have hil : it < s.heap.objs.size := by obtain ⟨_, q, _⟩ := hit; exact Heap.lt_size q
    have hui : its.toArray[i]? = some u := by simpa using hu
    have hlt : i < its.toArray.size := (Array.getElem?_eq_some_iff.mp hui).1
    refine wpAny_pyNext_enum_itemD (Draws.tuple (A := X.A.in1) (show X.A.in1.handled = none from I.ok.hd hc) it a hai its.toArray) he ⟨hit, p⟩ hlt hne (by simp [hne, Ne.symm hae]) fun x' h' tk hx' ho hst' hT hsz hk => ?_
    have hxu : x' = u := by rw [hui] at hx'; exact (Option.some.inj hx').symm
    subst hxu
    refine ⟨_, rfl, wpAny_letOwnedTupleGo_enum (s := { s with heap := h', toks := tk + 1 }) ho fun h'' he' sb => ?_⟩
    have hT2 : h''.get? s.heap.objs.size = some { cls := .type "tuple", data := .seq #[.int i tk, x'] } := (sb.2 _ (Nat.ne_of_gt hel)).trans hT
    have new : ObjOk X.prog X.w (upd H s.heap.objs.size (.tup [.int (i : Nat), x])) h'' s.heap.objs.size (.tup [.int (i : Nat), x]) :=
      ⟨by show 2 ≤ sizeLine; decide, [.int i tk, x'], .cons ⟨_, rfl⟩ (.cons ru .nil), ⟨_, hT2, rfl, _, rfl⟩⟩
    have I1 : Inv X pins σ (upd H s.heap.objs.size (.tup [.int (i : Nat), x])) { s with heap := h'', toks := tk + 1 } :=
      I.turnedNew (ch := [e, it]) (fun b ob hb q => (sb.2 b (fun z => hb (by simp [z]))).trans (hk b ob (fun z => hb (by simp [z])) (fun z => hb (by simp [z])) q)) hf (Nat.le_refl _) new
    refine ⟨.ref s.heap.objs.size, _, I1, rfl, ⟨_, x, rfl, I.hok.fresh (Nat.le_refl _), rfl, fun ys hy => by rw [I.tuple_inj hy hq]; exact hx⟩, ⟨⟨x', ?_⟩, hst'.1.at fun o q => (sb.2 it (Ne.symm hne)).trans q, hne, hai, hae⟩, fun b hb => ?_⟩
    · rw [show ((i + 1 : Nat) : Int) = (i : Int) + 1 by omega]
      exact he'
    · have hb' : b < s.heap.objs.size := by
        rcases (by simpa using hb : b = e ∨ b = it) with rfl | rfl
        · exact hel
        · exact hil
      rw [upd_ne (Nat.ne_of_lt hb')]
      exact (hf b hb).1
  done := by
    intro X hP hw hK hc i pins s σ H E I hf st hg
    subst hP hw hK
    obtain ⟨⟨old, he⟩, hit, hne, hai, hae⟩ := st
    obtain ⟨xs, hq, hx⟩ := hg
    obtain ⟨its, rv, p, hz⟩ := I.tuple hq
    obtain ⟨f0, f1, f2, f3, f4, f5⟩ := hf it (by simp)
    have hl := rv.length
    have hn : its.toArray[i]? = none := by simp; omega
    have hT : s.TypeIs (.ref e) "enumerate" := ⟨_, he, rfl⟩
    unfold pyNext
    refine wpAny_bind (wpAny_attempt (wpAny_callSpecial?_slot (name := Str.ofString "__next__") hT F.slot_enumerate_next (wpAny_call_entry F.slot_enumerate_next hT F.entry_enumerate_next ?_ (F.args_enumerate_next_1 _))))
    show wpAny _ _ (field (.ref e) 2 >>= _) _ _ _
    refine wpAny_bind (wpAny_field he rfl (x := .ref it) rfl ?_)
    refine wpAny_bind (wpAny_nextOf_tuple_end (A := X.A.in1) (show X.A.in1.handled = none from I.ok.hd hc) hit p hn fun h' x eb hx' => ?_)
    obtain ⟨o, ho, hcl⟩ := hx'
    refine wpAny_bind (wpAny_isInstance (T := "StopIteration") (b := true) ⟨o, ho, hcl⟩ isSubtype_stop ?_)
    exact wpAny_pure ⟨rfl, I.turned (t' := s.toks) (fun b o hb q => eb b o hb q) f0 f1 f3 f4 f5⟩
  self := fun A i s Q E st h => let ⟨⟨_, he⟩, _⟩ := st; wpAny_pyIter_enum he h
def iEnumT (K : PySem.W.Frag) (ta : TA) : TI := fun σ H R => ta σ H fun vs H1 => ∃ a xs, vs = [.ref a] ∧ SqT K H1 a xs ∧ R (IteT K a) H1
theorem pi_enumT {X : Cx} {e : Expr} {ta : TA} {p pos tpos : Pos} {elts : List Expr} {kk : Nat} (hg : Gl X "enumerate") (hm : X.mg "enumerate" = none) (ha : PA X [e] ta) (hs : starEach [e] X.env = [(false, eval e X.env)] := by rfl) :
    PI X (.Tuple elts kk tpos) (.Call (.Name "enumerate" p) [e] [] pos) (iEnumT X.K ta) := by
  refine ⟨fun pins s σ H R I h => ?_⟩
  refine Call_ (ld_blt I hg hm boot_enumerate (PyProof.Rows.callWith_type1 (thn (ha.run pos pins s σ H _ I h) fun us s1 ⟨vs, H1, I1, r1, q1⟩ => ?_) hs rfl))
  obtain ⟨a, xs, ex, hq, q⟩ := q1
  subst ex
  cases r1 with
  | cons r rr =>
    cases rr
    cases r
    obtain ⟨its, rv, p', hz⟩ := I1.tuple hq
    have hal : a < s1.heap.objs.size := by obtain ⟨o, ho, _⟩ := p'; exact Heap.lt_size ho
    refine ktEnumCall (show s1.heap.IsTuple a its.toArray from p') fun u he hit hk => wpAny_pyIter_enum he ?_
    have I2 : Inv X pins σ H1 { s1 with heap := u } := I1.kept (t' := s1.toks) hk
    refine ⟨s1.heap.objs.size + 1, [s1.heap.objs.size + 1, s1.heap.objs.size], _, _, H1, rfl, I2, turn_enumT a (s1.heap.objs.size + 1) s1.heap.objs.size, ⟨⟨.none, he⟩, hit, Nat.succ_ne_self _, Nat.ne_of_lt hal, Nat.ne_of_lt (Nat.lt_succ_of_lt hal)⟩, fun b hb => ?_, q⟩
    have hle : s1.heap.objs.size ≤ b := by
      rcases (by simpa using hb : b = s1.heap.objs.size + 1 ∨ b = s1.heap.objs.size) with rfl | rfl <;> omega
    exact I1.fpOk hle (I1.hok.fresh hle)
/-- a loop over enumerate of a tuple -/
theorem for_enumT {K : PySem.W.Frag} {a : Addr} {xs : List V} {g : TG} {tb : TS} {D : Ends} {σ : L2.St} {H : Hp} (Pv : Nat → L2.St → Hp → Prop) (h0 : Pv 0 σ H) (hq : ∀ i σ H, Pv i σ H → SqT K H a xs)
    (hs : ∀ (i : Nat) (x : V) (T : Addr) (σ : L2.St) (H : Hp), xs[i]? = some x → Pv i σ H → H T = none → g (.ref T) σ (upd H T (.tup [.int (i : Nat), x])) fun σ2 H2 => tb { D with nx := Pv (i + 1), ct := Pv (i + 1), bk := D.nx } σ2 H2) (hd : ∀ σ H, Pv xs.length σ H → D.nx σ H) :
    ∃ W : Nat → Nat → L2.St → Hp → Prop, (∃ m, W 0 m σ H) ∧ ∀ i m σ H, W i m σ H →
      ((IteT K a).stop i H ∧ D.nx σ H) ∨ ((IteT K a).go i H ∧ ∃ N : L2.St → Hp → Prop, (∀ σ' H', N σ' H' → ∃ m', m' < m ∧ W (i + 1) m' σ' H') ∧ ∀ v H', (IteT K a).yld i H v H' → g v σ H' fun σ2 H2 => tb { D with nx := N, ct := N, bk := D.nx } σ2 H2) := by
  refine ⟨fun i m σ H => m = xs.length - i ∧ i ≤ xs.length ∧ Pv i σ H, ⟨_, rfl, Nat.zero_le _, h0⟩, ?_⟩
  rintro i m σ H ⟨rfl, hi, p⟩
  have q := hq i σ H p
  by_cases hlt : i < xs.length
  · refine .inr ⟨⟨xs, _, q, List.getElem?_eq_getElem hlt⟩, Pv (i + 1), fun σ' H' p' => ⟨_, by omega, rfl, hlt, p'⟩, ?_⟩
    rintro v H' ⟨T, x, rfl, hT, rfl, f⟩
    exact hs i x T σ H (f xs q) p hT
  · have e : i = xs.length := by omega
    subst e
    exact .inl ⟨⟨xs, q, Nat.le_refl _⟩, hd σ H p⟩
end KT
set_option Elab.async false
set_option linter.all false
set_option maxRecDepth 100000
set_option maxHeartbeats 4000000
namespace KT
open PySem PySem.Spec PyProof.Rows L2 GxR
/-- a list == [] -/
theorem op_eqE {X : Cx} (hu : X.A.units < cLine) : OpR X (compareOp .Eq) (fun x y H Q => ∃ (a b : Addr) (xs : List V), x = .ref a ∧ y = .ref b ∧ SqL X.K H a xs ∧ SqL X.K H b [] ∧ Q (.bl xs.isEmpty) H) := by
  intro pins s σ H x y v u Q I rx ry h
  obtain ⟨a, b, xs, e1, e2, ha, hb, k⟩ := h
  subst e1 e2
  cases rx
  cases ry
  obtain ⟨is1, v1, t1, _⟩ := I.list ha
  obtain ⟨is2, v2, t2, _⟩ := I.list hb
  have l1 := v1.length
  have l2 := v2.length
  cases xs with
  | nil =>
    refine PySem.SeqAt.eq_listAt (e := fun _ => true) t1.isList t2.isList (by simp at l1 l2 ⊢; omega) hu (fun i h1 h2 => ?_) ⟨.bl true, H, I, ?_, k⟩
    · simp at l1; simp at h1; omega
    · have h0 : is1.toArray.size = 0 := by rw [List.size_toArray]; simpa using l1.symm
      rw [h0]; rfl
  | cons x xs =>
    exact PySem.SeqAt.eq_list_lengthsAt t1.isList t2.isList (by simp at l1 l2 ⊢; omega) hu ⟨.bl false, H, I, rfl, k⟩
end KT
set_option Elab.async false
set_option linter.all false
set_option maxRecDepth 100000
set_option maxHeartbeats 4000000
namespace KT
open PySem PySem.Spec PyProof.Rows L2 GxR
/-! ### a token is out behind a written text -/
def PEU (X : Cx) (e : Expr) (t : TE) : Prop :=
  ∀ (pins : List (Addr × Obj)) (s : Shared) (σ : L2.St) (H : Hp) (Q : VK), Inv X pins σ H s → t σ H Q → wpAny (model X.prog X.w) X.A (eval e X.env) (fun v s1 => 1 ≤ s1.toks ∧ EP X pins σ Q v s1) X.xe s
def PAU (X : Cx) (es : List Expr) (t : TA) : Prop :=
  ∀ (pos : Pos) (pins : List (Addr × Obj)) (s : Shared) (σ : L2.St) (H : Hp) (Q : List V → Hp → Prop), Inv X pins σ H s → t σ H Q → wpAny (model X.prog X.w) X.A (spliced (backTo pos (starEach es X.env))) (fun us s1 => 1 ≤ s1.toks ∧ AP X pins σ Q us s1) X.xe s
section
variable {X : Cx} {e : Expr} {es : List Expr} {te : TE} {ta : TA}
theorem peu_str {x j pos} : PEU X (.Constant (.str x) j pos) (tC (.str x)) := fun _ s _ H _ I h => Calls.Constant_str ⟨by show 1 ≤ s.toks + 1; omega, .str x, H, I.tok _, ⟨_, rfl⟩, h⟩
theorem pau_cons (ha : PEU X e te) (hr : PA X es ta) (hs : starEach (e :: es) X.env = (false, eval e X.env) :: starEach es X.env := by rfl) : PAU X (e :: es) (tCons te ta) := by
  intro pos pins s σ H Q I h
  rw [hs]
  show wpAny _ _ (spliced ((false, eval e X.env) :: backTo pos (starEach es X.env))) _ _ s
  refine Calls.spliced_cons (wpAny_mono (ha pins s σ H _ I h) (fun v s1 q => ?_) fun _ _ z => z)
  obtain ⟨hk, x, H1, I1, r1, q1⟩ := q
  refine wpAny_mono (PySem.wpAny_toks_of hk (hr.run pos pins s1 σ H1 _ I1 q1)) (fun us s2 q2 => ?_) fun _ _ z => z.2
  obtain ⟨hk2, xs, H2, I2, r2, q2⟩ := q2
  exact ⟨hk2, x :: xs, H2, I2, .cons r1 r2, q2⟩
theorem peu_tup {x1} {pos : Pos} (h : PAU X es ta) : PEU X (.Tuple es x1 pos) (tTup ta) := by
  intro pins s σ H Q I hq
  refine wpAny_Tuple_spliced (wpAny_mono (h pos pins s σ H _ I hq) (fun us s1 q => ?_) fun _ _ z => z)
  obtain ⟨hk, xs, H1, I1, r, z, q⟩ := q
  refine ⟨by rw [← r.length]; exact z, hk, ?_⟩
  have hf : H1 s1.heap.objs.size = none := I1.hok.fresh (Nat.le_refl _)
  refine ⟨.ref s1.heap.objs.size, upd H1 s1.heap.objs.size (.tup xs), I1.laid (t' := s1.toks) (fun b u e => Heap.get?_push_of_some _ e) (Nat.le_refl _) ?_, rfl, q _ hf⟩
  exact ⟨z, us, r, ⟨_, Heap.get?_push_size _ rfl, rfl, _, rfl⟩⟩
/-- behind what gives a token out -/
theorem pa_consU (ha : PEU X e te) (hr : PAT X es ta) (hs : starEach (e :: es) X.env = (false, eval e X.env) :: starEach es X.env := by rfl) : PA X (e :: es) (tCons te ta) := by
  refine ⟨fun pos pins s σ H Q I h => ?_⟩
  rw [hs]
  show wpAny _ _ (spliced ((false, eval e X.env) :: backTo pos (starEach es X.env))) _ _ s
  refine Calls.spliced_cons (wpAny_mono (ha pins s σ H _ I h) (fun v s1 q => ?_) fun _ _ z => z)
  obtain ⟨hk, x, H1, I1, r1, q1⟩ := q
  exact thn (hr pos pins s1 σ H1 _ hk I1 q1) fun us s2 ⟨xs, H2, I2, r2, q2⟩ => ⟨x :: xs, H2, I2, .cons r1 r2, q2⟩
end
/-- join within a block -/
theorem pe_joinB {X : Cx} {K : PySem.W.Frag} {o e : Expr} {to te : TE} {apos pos : Pos} (ek : X.K = K) (ho : PE X o to) (he : PE X e te) (hs : starEach [e] X.env = [(false, eval e X.env)] := by rfl) (hbase : attributeBase o "join" X.env (eval o X.env) = eval o X.env := by rfl) (hline : (apos.endLine == pos.line) = true := by rfl) :
    PE X (.Call (.Attribute o "join" apos) [e] [] pos) (tM1 (fun x xs H Q => ∃ a p, ∃ ys : List Str, x = .str a ∧ xs = [.ref p] ∧ (SqL K H p (ys.map V.str) ∨ SqT K H p (ys.map V.str)) ∧
      (ys.map (·.length)).sum + ys.length * a.length ≤ 16777216 ∧ Q (.str (Txt.join a ys)) H) to te) := by
  subst ek
  exact pe_join ho he hs hbase hline
/-- a walk over a written text -/
theorem for_strS {z : Str} {g : TG} {tb : TS} {D : Ends} {σ : L2.St} {H : Hp} (Pv : Nat → L2.St → Hp → Prop) (h0 : Pv 0 σ H)
    (hs : ∀ i c σ H, z.cps[i]? = some c → Pv i σ H → g (.str ⟨#[c]⟩) σ H fun σ2 H2 => tb { D with nx := Pv (i + 1), ct := Pv (i + 1), bk := D.nx } σ2 H2) (hd : ∀ σ H, Pv z.cps.size σ H → D.nx σ H) :
    ∃ W : Nat → Nat → L2.St → Hp → Prop, (∃ m, W 0 m σ H) ∧ ∀ i m σ H, W i m σ H →
      ((Its z).stop i H ∧ D.nx σ H) ∨ ((Its z).go i H ∧ ∃ N : L2.St → Hp → Prop, (∀ σ' H', N σ' H' → ∃ m', m' < m ∧ W (i + 1) m' σ' H') ∧ ∀ x H', (Its z).yld i H x H' → g x σ H' fun σ2 H2 => tb { D with nx := N, ct := N, bk := D.nx } σ2 H2) := by
  refine ⟨fun i m σ H => m = z.cps.size - i ∧ i ≤ z.cps.size ∧ Pv i σ H, ⟨_, rfl, Nat.zero_le _, h0⟩, ?_⟩
  rintro i m σ H ⟨rfl, hi, p⟩
  by_cases hlt : i < z.cps.size
  · refine .inr ⟨hlt, Pv (i + 1), fun σ' H' p' => ⟨z.cps.size - (i + 1), by omega, rfl, hlt, p'⟩, ?_⟩
    rintro x H' ⟨rfl, c, hc, rfl⟩
    exact hs i c σ _ hc p
  · have e : i = z.cps.size := by omega
    subst e
    exact .inl ⟨Nat.le_refl _, hd σ H p⟩
end KT
set_option Elab.async false
set_option linter.all false
set_option maxRecDepth 100000
set_option maxHeartbeats 4000000
namespace KT
open PySem PySem.Spec PyProof.Rows L2 GxR
section
variable {P : Program} {w : World} {K : PySem.W.Frag} {mg : Str → Option Value} {base : Heap}
theorem put_keys8 {kvs : List (Key × V)} {k : Key} {v : V} (h : k ∈ kvs.map (·.1)) : (putK kvs k v).map (·.1) = kvs.map (·.1) := by
  unfold putK
  have : (kvs.any fun kv => decide (kv.fst = k)) = true := by
    rw [List.any_eq_true]
    obtain ⟨p, hp, e⟩ := List.mem_map.mp h
    exact ⟨p, hp, decide_eq_true e⟩
  rw [if_pos this, List.map_map]
  refine List.map_congr_left fun p _ => ?_
  simp only [Function.comp]
  split <;> simp_all
theorem name_mem {n : Nat} (h : n < 8) : (.inr (nameS n) : Key) ∈ names8 := by
  rw [← names8_at h]
  exact List.getElem_mem _
theorem name_inj {i n : Nat} (h : nameS i = nameS n) : i = n := by
  have := S_inj h
  simp at this
  omega
def sp_check_name (K : PySem.W.Frag) : Sp := fun vs H Q E => ∃ v, vs = [v] ∧ flatV v = true ∧ (nameB v = true → Q .non H) ∧ (nameB v = false → E (.ref (He.ga K "BadName")) none H)
theorem sc_check_name : FnScope ["name"] ["name"] (defScope s_check_name) := ⟨rfl, rfl, rfl, by decide +kernel, rfl, by decide +kernel, by decide +kernel⟩
theorem ok_check_name (T : Tx w K mg) : Fk P w K mg base 1 (Ad K d_check_name.at_) ["name"] (sp_check_name K) := by
  refine mkF T.f_check_name sc_check_name rfl (fun _ _ _ _ _ _ us hl => match us, hl with | [_], _ => rfl) (fun vs H Q E h => by obtain ⟨_, rfl, _⟩ := h; rfl) (fun cdv A outer s H vs Q E hcd hcode hr h => ?_)
  have tk : Takes (CxD P w K mg base ["name"] d_check_name cdv A outer s H E) (fun cls d _ H => E cls d H) := takes_of rfl rfl rfl rfl
  refine ⟨_, (pss_one (ps_if (pt_cmpR op_notIn_seq (pv 0) (pe_glob (v := .ref (He.ga K "NAMES")) rfl T.g_NAMES rfl) (by rfl)) (pss_one (ps_raise rfl tk (pmk_BadName T rfl))) pss_nil)), ?_⟩
  obtain ⟨v, rfl, hf, kt, kf⟩ := h
  refine ⟨_, rfl, _, _, rfl, .inr (T.names H), hf, by decide +kernel, _, rfl, ?_⟩
  cases hn : inV v namesV with
  | true => exact iteF (kt hn)
  | false => exact iteT (kf hn)
def sp_check_each (K : PySem.W.Frag) : Sp := fun vs H Q _ => ∃ a as ks m, vs = [.ref a, .int m, .ref (Ad K d_is_key.at_)] ∧ SqT K H a (as.map V.ref) ∧ KeysAt K H as ks ∧ (∀ k ∈ ks, k.Ok) ∧ (ks.length : Int) ≤ m ∧ TabG H (tS K) ∧ ∀ H', Kq [] H H' → Q .non H'
theorem sc_check_each : FnScope ["keys", "most", "belongs", "at", "key"] ["keys", "most", "belongs"] (defScope s_check_each) := ⟨rfl, rfl, rfl, by decide +kernel, rfl, by decide +kernel, by decide +kernel⟩
theorem ok_check_each (T : Tx w K mg) (B : TabB base mg (cS K) (tS K)) : Fk P w K mg base 4 (Ad K d_check_each.at_) ["keys", "most", "belongs"] (sp_check_each K) := by
  have F_is_key := ok_is_key (P := P) (base := base) T B
  refine mkF T.f_check_each sc_check_each rfl (fun _ _ _ _ _ _ us hl => match us, hl with | [_, _, _], _ => rfl) (fun vs H Q E h => by obtain ⟨_, _, _, _, rfl, _⟩ := h; rfl) (fun cdv A outer s H vs Q E hcd hcode hr h => ?_)
  have po : PassesOwn (model P w) (CxD P w K mg base ["keys", "most", "belongs", "at", "key"] d_check_each cdv A outer s H E).A (CxD P w K mg base ["keys", "most", "belongs", "at", "key"] d_check_each cdv A outer s H E).env (CxD P w K mg base ["keys", "most", "belongs", "at", "key"] d_check_each cdv A outer s H E).xe := passes_of rfl
  refine ⟨_, (pss_one (ps_for po rfl (pi_enumT (by rfl) T.n_enumerate (pa_cons (pv 0) pa_nil)) (pg_tup rfl (pgs_cons (pg_name (i := 3) sc_check_each.nd rfl (.inl rfl)) (pgs_cons (pg_name (i := 4) sc_check_each.nd rfl (.inl rfl)) pgs_nil))) (pss_one (ps_if ((pw_or (pt_cmpR op_ge (pv 3) (pv 1) (nomark _)) (pw_or1 (pt_not (pt_val (pe_callV (i := 2) hr px (pa_cons (pv 4) pa_nil))))))).pt (pss_one ps_never) pss_nil)))), ?_⟩
  obtain ⟨a, as, ks, m, rfl, ha, hk, hok, hm, hT, kQ⟩ := h
  refine ⟨_, rfl, a, _, rfl, ha, ?_⟩
  refine for_enumT (K := K) (a := a) (xs := as.map V.ref) (fun i σ H' => Kq [] H H' ∧ ∃ v1 v2, σ = [some (.ref a), some (.int m), some (.ref (Ad K d_is_key.at_)), v1, v2]) ⟨Kq.refl, none, none, rfl⟩ (fun i σ H' z => z.1.tup ha) ?_ ?_
  · rintro i x Tq σ H' hx ⟨k1, v1, v2, rfl⟩ nT
    have hi : i < as.length := by
      have := (List.getElem?_eq_some_iff.mp hx).1
      rwa [List.length_map] at this
    have hl := hk.len
    have hik : i < ks.length := by omega
    rw [List.getElem?_map, List.getElem?_eq_getElem hi] at hx
    cases hx
    have kT : Kq [] H' (upd H' Tq (.tup [.int (i : Nat), .ref as[i]])) := Kq.alloc nT
    have k2 := k1.trans kT
    have hki := (k2.keys hk).at_ hi hik
    have kok := hok _ (List.getElem_mem hik)
    refine ⟨Tq, _, rfl, SqT.of upd_same, rfl, _, _, rfl, _, _, rfl, rfl, ?_⟩
    refine ⟨_, rfl, _, rfl, _, _, rfl, rfl, _, rfl, iteD (fun h => absurd h (by omega)) (fun _ => ?_)⟩
    refine ⟨_, _, _, rfl, F_is_key, _, rfl, as[i], keyV ks[i], fun _ => true, rfl, hki, keyV_small kok, k2.tab _ hT, fun x e => act_ok T x e, fun H3 k3 => ?_⟩
    rw [keyB_ok kok]
    exact ⟨_, rfl, iteF ⟨k2.trans k3, _, _, rfl⟩⟩
  · rintro σ H' ⟨k1, v1, v2, rfl⟩
    exact kQ H' k1
def sp_check_keys (K : PySem.W.Frag) : Sp := fun vs H Q _ => ∃ a as ks, vs = [.ref a] ∧ SqT K H a (as.map V.ref) ∧ KeysAt K H as ks ∧ (∀ k ∈ ks, k.Ok) ∧ ks.length ≤ 30 ∧ TabG H (tS K) ∧ ∀ H', Kq [] H H' → Q .non H'
theorem sc_check_keys : FnScope ["keys"] ["keys"] (defScope s_check_keys) := ⟨rfl, rfl, rfl, by decide +kernel, rfl, by decide +kernel, by decide +kernel⟩
theorem ok_check_keys (T : Tx w K mg) (B : TabB base mg (cS K) (tS K)) : Fk P w K mg base 5 (Ad K d_check_keys.at_) ["keys"] (sp_check_keys K) := by
  obtain ⟨t_MOST_KEYS, h_MOST_KEYS⟩ := T.i_MOST_KEYS
  have F_check_each := ok_check_each (P := P) (base := base) T B
  refine mkF T.f_check_keys sc_check_keys rfl (fun _ _ _ _ _ _ us hl => match us, hl with | [_], _ => rfl) (fun vs H Q E h => by obtain ⟨_, _, _, rfl, _⟩ := h; rfl) (fun cdv A outer s H vs Q E hcd hcode hr h => ?_)
  refine ⟨_, (pss_one (ps_expr (pe_cF F_check_each (hr.mono (by decide)) T.g_check_each px (pa_cons (pv 0) (pa_cons (pe_glob (v := .int 30) (by rfl) h_MOST_KEYS ⟨_, rfl⟩) (pa_cons (pe_glob (v := .ref (Ad K d_is_key.at_)) rfl T.g_is_key rfl) pa_nil)))))), ?_⟩
  obtain ⟨a, as, ks, rfl, ha, hk, hok, h30, hT, kQ⟩ := h
  exact ⟨_, rfl, a, as, ks, 30, rfl, ha, hk, hok, by omega, hT, kQ⟩
def sp_ed_tape (K : PySem.W.Frag) : Sp := fun vs H Q _ => ∃ m ed n a as ks, vs = [.ref m.e, .str (nameS n), .ref a] ∧ EdAt K H m ed ∧ n < 8 ∧ SqT K H a (as.map V.ref) ∧ KeysAt K H as ks ∧ (∀ k ∈ ks, k.Ok) ∧ ks.length ≤ 30 ∧
  ∀ H', Kf [m.t] H H' → EdAt K H' m { ed with tapes := fun i => if i = n then ks else ed.tapes i } → Q .non H'
theorem sc_Editor_tape : FnScope ["self", "name", "keys"] ["self", "name", "keys"] (defScope s_Editor_tape) := ⟨rfl, rfl, rfl, by decide +kernel, rfl, by decide +kernel, by decide +kernel⟩
theorem ok_Editor_tape (T : Tx w K mg) (B : TabB base mg (cS K) (tS K)) : Fk P w K mg base 6 (Ad K d_Editor_tape.at_) ["self", "name", "keys"] (sp_ed_tape K) := by
  have F_check_keys := ok_check_keys (P := P) (base := base) T B
  have F_check_name := ok_check_name (P := P) (base := base) T
  refine mkF T.f_Editor_tape sc_Editor_tape rfl (fun _ _ _ _ _ _ us hl => match us, hl with | [_, _, _], _ => rfl) (fun vs H Q E h => by obtain ⟨_, _, _, _, _, _, rfl, _⟩ := h; rfl) (fun cdv A outer s H vs Q E hcd hcode hr h => ?_)
  refine ⟨_, (pss_cons (ps_expr (pe_cF F_check_name (hr.mono (by decide)) T.g_check_name px (pa_cons (pv 1) pa_nil)))
      (pss_cons (ps_expr (pe_cF F_check_keys (hr.mono (by decide)) T.g_check_keys px (pa_cons (pv 2) pa_nil)))
      (pss_one (ps_dput (hu_of hr) (pe_fld (pv 0) rfl) (pv 1) (pe_callTy call_tuple_of (by rfl) T.n_tuple (by decide +kernel) (pa_cons (pv 2) pa_nil)) rfl)))), ?_⟩
  obtain ⟨m, ed, n, a, as, ks, rfl, hE, hn, ha, hk, hok, h30, kQ⟩ := h
  refine ⟨_, rfl, _, rfl, rfl, fun _ => ?_, fun e => absurd ((nameB_ok hn).symm.trans e) (by simp)⟩
  refine ⟨_, rfl, a, as, ks, rfl, ha, hk, hok, h30, hE.sign, fun H1 k1 => ?_⟩
  have hE1 := hE.kq k1
  refine ⟨_, rfl, a, _, rfl, .inr ⟨k1.tup ha, ?_⟩⟩
  obtain ⟨dx, p, ap, au, ad, h1, h2, h3, h4, h5, h6, h7, h8⟩ := hE1.ex
  obtain ⟨kvs, t1, t2, t3⟩ := hE1.tapes
  have hl8 : kvs.length = 8 := by
    have := congrArg List.length t2
    rw [List.length_map] at this
    exact this
  refine ⟨_, rfl, m.e, _, dx, _, _, rfl, h1, T.c_Editor, T.a_Editor_tapes, edF_tapes _ _ _ _ _ _, _, rfl, m.t, _, rfl, .inl ⟨kvs, .inr (nameS n), t1, rfl, small1000 (by omega), rfl⟩, ?_⟩
  have kw : Kf [m.t] H1 (upd H1 m.t (.dK (putK kvs (.inr (nameS n)) (.ref a)))) := Kf.write t1 (by simp) rfl fun c hc => by rw [List.mem_singleton.mp hc]; exact ⟨_, t1, rfl⟩
  refine kQ _ (Kf.cat k1 kw fun c hc => ?_) ?_
  · obtain ⟨kv0, z1, _⟩ := hE.tapes
    rw [List.mem_singleton.mp hc]; exact ⟨_, z1, rfl⟩
  have ne : ∀ {c o}, H1 c = some o → (∀ kv, o ≠ .dK kv) → c ≠ m.t := fun h n e => by rw [e, t1] at h; cases h; exact n _ rfl
  refine ⟨⟨dx, p, ap, au, ad, kw.q.gets h1 (by simp; exact ne h1 (by simp)), kw.page h2, kw.q.gets h3 (by simp; exact ne h3 (by simp)), kw.keys h4, kw.q.gets h5 (by simp; exact ne h5 (by simp)), h6.imp (fun _ _ z => kw.tup z) (fun _ _ z => kw.page z), kw.q.gets h7 (by simp; exact ne h7 (by simp)), h8.imp (fun _ _ z => kw.tup z) (fun _ _ z => kw.page z)⟩, ?_, ⟨?_, ?_⟩, kw.q.tab _ hE1.sign, hE.ok, hE.d1, hE.d2, hE.d3, hE.pok, hE.uok, hE.dok, hE.rok⟩
  · refine ⟨_, upd_same, by rw [put_keys8 (by rw [t2]; exact name_mem hn)]; exact t2, fun i hi => ?_⟩
    show ∃ b, valV (putK kvs (.inr (nameS n)) (.ref a)) (.inr (nameS i)) = some (.ref b) ∧ TapeAt K _ b (if i = n then ks else ed.tapes i)
    rw [valV_put]
    by_cases e : i = n
    · subst e
      rw [if_pos rfl, if_pos rfl]
      exact ⟨a, rfl, as, kw.tup (k1.tup ha), kw.keys (k1.keys hk)⟩
    · rw [if_neg (fun z => e (name_inj (Sum.inr.inj z))), if_neg e]
      obtain ⟨b, b1, b2⟩ := t3 i hi
      exact ⟨b, b1, kw.tape b2⟩
  · intro i hi
    show (if i = n then ks else ed.tapes i).length ≤ 30
    split
    · exact h30
    · exact hE.tok.len i hi
  · intro i hi
    show ∀ k ∈ (if i = n then ks else ed.tapes i), k.Ok
    split
    · exact hok
    · exact hE.tok.ok i hi
def sp_ed_go_to (K : PySem.W.Frag) : Sp := fun vs H Q _ => ∃ m ed q g, vs = [.ref m.e, .ref q] ∧ EdAt K H m ed ∧ PageAt K H q g ∧ g.Ok ∧ ∀ H', Kf [m.e] H H' → EdAt K H' m { ed with page := { g with clip := ed.page.clip } } → Q .non H'
theorem sc_Editor_go_to : FnScope ["self", "page"] ["self", "page"] (defScope s_Editor_go_to) := ⟨rfl, rfl, rfl, by decide +kernel, rfl, by decide +kernel, by decide +kernel⟩
theorem ok_Editor_go_to (T : Tx w K mg) : Fk P w K mg base 3 (Ad K d_Editor_go_to.at_) ["self", "page"] (sp_ed_go_to K) := by
  have F_Page___init__ := ok_Page___init__ (P := P) (base := base) T
  refine mkF T.f_Editor_go_to sc_Editor_go_to rfl (fun _ _ _ _ _ _ us hl => match us, hl with | [_, _], _ => rfl) (fun vs H Q E h => by obtain ⟨_, _, _, _, rfl, _⟩ := h; rfl) (fun cdv A outer s H vs Q E hcd hcode hr h => ?_)
  refine ⟨_, (pss_one (ps_fld (pv 0) (pe_kF (spN := sp_Page K) T.k_Page F_Page___init__ (hr.mono (by decide)) T.g_Page px new_Page (pa_cons (pe_fld (pv 1) rfl) (pa_cons (pe_fld (pv 1) rfl) (pa_cons (pe_fld (pv 1) rfl) (pa_cons (pe_fld (pe_fld (pv 0) rfl) rfl) pa_nil))))) rfl)), ?_⟩
  obtain ⟨m, ed, q, g, rfl, hE, hq, hg, kQ⟩ := h
  obtain ⟨dx, p, ap, au, ad, h1, h2, h3, h4, h5, h6, h7, h8⟩ := hE.ex
  refine ⟨_, rfl, rd_rows T hq fun t ht => ⟨_, rfl, rd_row T hq ⟨_, rfl, rd_col T hq ⟨_, rfl, m.e, _, dx, _, _, rfl, h1, T.c_Editor, T.a_Editor_page, edF_page _ _ _ _ _ _, rd_clip T h2 ⟨t, _, _, _, { g with clip := ed.page.clip }, rfl, rfl, rfl, rfl, ht, fun q2 H2 k2 a2 => ?_⟩⟩⟩⟩⟩
  have h12 := k2.get h1
  refine ⟨_, rfl, m.e, _, dx, _, rfl, h12, T.c_Editor, T.a_Editor_page, (by show 6 < 1000; decide), ?_⟩
  rw [edF_put_page]
  have we : ∀ c ∈ [m.e], ∃ o, H2 c = some o ∧ mutO o = true := fun c hc => by rw [List.mem_singleton.mp hc]; exact ⟨_, h12, mut_ed _ _ _ _ _ _ _ _⟩
  have kw : Kf [m.e] H2 (upd H2 m.e (.ins (He.ga K "Editor") dx (edF q2 m.t (recV ed.taped) m.pr m.un m.ud))) := Kf.write h12 (by simp) (mut_ed _ _ _ _ _ _ _ _) we
  have ne : ∀ {c o}, H2 c = some o → (∀ C d f, o ≠ .ins C d f) → c ≠ m.e := fun h n e => by rw [e, h12] at h; cases h; exact n _ _ _ rfl
  have hE2 := hE.kq k2
  refine kQ _ (Kf.cat k2 kw fun c hc => by rw [List.mem_singleton.mp hc]; exact ⟨_, h1, mut_ed _ _ _ _ _ _ _ _⟩) ⟨⟨dx, q2, ap, au, ad, upd_same, kw.page a2, kw.q.gets (k2.get h3) (by simp; exact ne (k2.get h3) (by simp)), kw.keys (k2.keys h4), kw.q.gets (k2.get h5) (by simp; exact ne (k2.get h5) (by simp)), h6.imp (fun _ _ z => kw.tup (k2.tup z)) (fun _ _ z => kw.page (k2.page z)), kw.q.gets (k2.get h7) (by simp; exact ne (k2.get h7) (by simp)), h8.imp (fun _ _ z => kw.tup (k2.tup z)) (fun _ _ z => kw.page (k2.page z))⟩, kw.tapes hE2.tapes ?_, hE.tok, kw.q.tab _ hE2.sign, ⟨hg.many, hg.long, hg.row, hg.col, hE.ok.clip, hg.sig, hE.ok.csig⟩, hE.d1, hE.d2, hE.d3, hE.pok, hE.uok, hE.dok, hE.rok⟩
  obtain ⟨kvs, z1, _⟩ := hE2.tapes
  simp
  exact ne z1 (by simp)
theorem UnitsAt.last {K : PySem.W.Frag} {H : Hp} {as : List Addr} {us : List (Pg × Pg)} (h : UnitsAt K H as us) (hne : us ≠ []) :
    ∃ a p q as' us' u, as = as' ++ [a] ∧ us = us' ++ [u] ∧ UnitsAt K H as' us' ∧ SqT K H a [.ref p, .ref q] ∧ PageAt K H p u.1 ∧ PageAt K H q u.2 := by
  induction h with
  | nil => exact absurd rfl hne
  | @cons a p q u as us h h1 h2 r ih =>
    cases us with
    | nil =>
      cases r
      exact ⟨a, p, q, [], [], u, rfl, rfl, .nil, h, h1, h2⟩
    | cons u2 ur =>
      obtain ⟨a', p', q', as', us', u', e1, e2, h3, h4, h5, h6⟩ := ih (by simp)
      exact ⟨a', p', q', a :: as', u :: us', u', by rw [e1]; rfl, by rw [e2]; rfl, .cons h h1 h2 h3, h4, h5, h6⟩
theorem edF_no_goto (p t : Addr) (r : V) (pr un ud : Addr) : (edF p t r pr un ud).lookup ("go_to" : Str) = none := by kernel_rfl
def backE (ed : EdSt) : EdSt := match ed.units.getLast? with
  | none => ed
  | some u => { ed with page := { u.1 with clip := ed.page.clip }, units := ed.units.dropLast, undone := ed.undone ++ [u] }
def sp_ed_back (K : PySem.W.Frag) : Sp := fun vs H Q _ => ∃ m ed, vs = [.ref m.e] ∧ EdAt K H m ed ∧ ed.Small ∧ ∀ H', Kf m.l H H' → EdAt K H' m (backE ed) → Q (.bl (!ed.units.isEmpty)) H'
theorem sc_Editor_back : FnScope ["self", "unit"] ["self"] (defScope s_Editor_back) := ⟨rfl, rfl, rfl, by decide +kernel, rfl, by decide +kernel, by decide +kernel⟩
theorem ok_Editor_back (T : Tx w K mg) : Fk P w K mg base 4 (Ad K d_Editor_back.at_) ["self"] (sp_ed_back K) := by
  have F_Editor_go_to := ok_Editor_go_to (P := P) (base := base) T
  refine mkF T.f_Editor_back sc_Editor_back rfl (fun _ _ _ _ _ _ us hl => match us, hl with | [_], _ => rfl) (fun vs H Q E h => by obtain ⟨_, _, rfl, _⟩ := h; rfl) (fun cdv A outer s H vs Q E hcd hcode hr h => ?_)
  refine ⟨_, (pss_cons (ps_if (pt_cmpR (op_eqE hr.units0) (pe_fld (pv 0) rfl) (pe_lst pa_nil) (nomark _)) (pss_one (ps_ret pe_bl)) pss_nil)
      (pss_cons (ps_asg (pe_bm0 PySem.F.plainAttrs_list PySem.F.slot_list_pop PySem.F.type_list_pop mt_pop (pe_fld (pv 0) rfl)) (pg_name (i := 1) sc_Editor_back.nd rfl (.inl rfl)))
      (pss_cons (ps_expr (pe_bm PySem.F.plainAttrs_list PySem.F.slot_list_append PySem.F.type_list_append mt_append (pe_fld (pv 0) rfl) (pa_cons (pv 1) pa_nil)))
      (pss_cons (ps_expr (pe_mF _ (pv 0) T.c_Editor T.m_Editor_go_to F_Editor_go_to (hr.mono (by decide)) px (pa_cons (pe_ix ix_tup (pv 1) pe_int (fun _ _ => rfl)) pa_nil)))
      (pss_one (ps_ret pe_bl)))))), ?_⟩
  obtain ⟨m, ed, rfl, hE, hsm, kQ⟩ := h
  obtain ⟨dx, p, ap, au, ad, h1, h2, h3, h4, h5, h6, h7, h8⟩ := hE.ex
  refine ⟨_, rfl, m.e, _, dx, _, _, rfl, h1, T.c_Editor, T.a_Editor_units, edF_units _ _ _ _ _ _, line16 (by show 0 ≤ 1000000; decide), fun z nz => ?_⟩
  have k1 : Kq [] H (upd H z (.lst [])) := Kq.alloc nz
  refine ⟨m.un, z, au.map V.ref, rfl, rfl, SqL.of (k1.get h5), SqL.of upd_same, _, rfl, ?_⟩
  have hul := h6.len
  have hE1 := hE.kq k1
  by_cases hu : ed.units = []
  · have ha : au = [] := List.length_eq_zero_iff.mp (by rw [hul, hu]; rfl)
    rw [ha]
    refine iteT ?_
    have := kQ _ (Kf.of k1 hE.wr) (by unfold backE; rw [hu]; exact hE1)
    rw [hu] at this
    exact this
  have hne : au ≠ [] := fun e => by rw [e] at hul; exact hu (List.length_eq_zero_iff.mp (by rw [← hul]; rfl))
  rw [show (au.map V.ref).isEmpty = false by cases au <;> first | rfl | exact absurd rfl hne]
  refine iteF ?_
  obtain ⟨a, p1, q1, as', us', u, ea, eu, hr, ha, hp1, hq1⟩ := (h6.imp (fun _ _ z => k1.tup z) (fun _ _ z => k1.page z)).last hu
  have k1' := k1
  have g1 := k1.get h1
  have g3 := k1.get h3
  have g5 := k1.get h5
  have g7 := k1.get h7
  have hw1 := hE1.wr
  have gp := k1.page h2
  generalize (upd H z (.lst [])) = H1 at k1 k1' hE1 hr ha hp1 hq1 g1 g3 g5 g7 hw1 gp ⊢
  rw [ea] at g5
  refine ⟨_, rfl, m.e, _, dx, _, _, rfl, g1, T.c_Editor, T.a_Editor_units, edF_units _ _ _ _ _ _, .inl ⟨rfl, _, SqL.of g5⟩, m.un, _, .ref a, rfl, rfl, g5, by simp, ?_⟩
  have k2 : Kf m.l H1 (upd H1 m.un (.lst (((as' ++ [a]).map V.ref).dropLast))) := Kf.write g5 (by simp [EdM.l]) rfl hw1
  rw [show ((as' ++ [a]).map V.ref).dropLast = as'.map V.ref by simp] at k2 ⊢
  have neu : m.e ≠ m.un := ne_of g1 g5 (by intro z; cases z)
  have f1 : (upd H1 m.un (.lst (as'.map V.ref))) m.e = _ := (upd_ne neu).trans g1
  have f3 : (upd H1 m.un (.lst (as'.map V.ref))) m.pr = _ := (upd_ne hE.d1).trans g3
  have f5 : (upd H1 m.un (.lst (as'.map V.ref))) m.un = _ := upd_same
  have f7 : (upd H1 m.un (.lst (as'.map V.ref))) m.ud = _ := (upd_ne hE.d3.symm).trans g7
  have hw2 := k2.w'
  have ha2 := k2.tup ha
  obtain ⟨kvs, z1, z2⟩ := hE1.tapes
  have neT1 : m.t ≠ m.un := ne_of z1 g5 (by intro z; cases z)
  have neT2 : m.t ≠ m.ud := ne_of z1 g7 (by intro z; cases z)
  have tp2 := (Kf.one (ys := as'.map V.ref) g5).tapes hE1.tapes (by simp [neT1])
  generalize (upd H1 m.un (.lst (as'.map V.ref))) = H2 at k2 f1 f3 f5 f7 hw2 ha2 tp2 ⊢
  have hdl := h8.len
  refine ⟨_, rfl, m.e, _, dx, _, _, rfl, f1, T.c_Editor, T.a_Editor_undone, edF_undone _ _ _ _ _ _, .inl ⟨rfl, _, SqL.of f7⟩, _, rfl, m.ud, _, _, rfl, rfl, f7, small1000 (by rw [List.length_map, hdl]; have := hsm.d; omega), ?_⟩
  have k3 : Kf m.l H2 (upd H2 m.ud (.lst (ad.map V.ref ++ [.ref a]))) := Kf.write f7 (by simp [EdM.l]) rfl hw2
  have ned : m.e ≠ m.ud := ne_of f1 f7 (by intro z; cases z)
  have b1 : (upd H2 m.ud (.lst (ad.map V.ref ++ [.ref a]))) m.e = _ := (upd_ne ned).trans f1
  have b3 : (upd H2 m.ud (.lst (ad.map V.ref ++ [.ref a]))) m.pr = _ := (upd_ne hE.d2).trans f3
  have b5 : (upd H2 m.ud (.lst (ad.map V.ref ++ [.ref a]))) m.un = _ := (upd_ne hE.d3).trans f5
  have b7 : (upd H2 m.ud (.lst (ad.map V.ref ++ [.ref a]))) m.ud = _ := upd_same
  have k23 := k2.trans k3
  have hu1 : u.1.Ok ∧ u.2.Ok := hE.uok u (by rw [eu]; simp)
  have tp3 := (Kf.one (ys := ad.map V.ref ++ [.ref a]) f7).tapes tp2 (by simp [neT2])
  have hE3 : EdAt K (upd H2 m.ud (.lst (ad.map V.ref ++ [.ref a]))) m { ed with units := us', undone := ed.undone ++ [u] } := by
    refine ⟨⟨dx, p, ap, as', ad ++ [a], b1, k23.page gp, b3, k23.keys (k1'.keys h4), b5, hr.imp (fun _ _ z => k23.tup z) (fun _ _ z => k23.page z), by rw [b7, List.map_append]; rfl, ?_⟩, tp3, hE.tok, k23.q.tab _ hE1.sign, hE.ok, hE.d1, hE.d2, hE.d3, hE.pok, fun v hv => hE.uok v (by rw [eu]; exact List.mem_append_left _ hv), fun v hv => ?_, hE.rok⟩
    · exact ((h8.imp (fun _ _ z => k1'.tup z) (fun _ _ z => k1'.page z)).imp (fun _ _ z => k23.tup z) (fun _ _ z => k23.page z)).snoc (k23.tup ha) (k23.page hp1) (k23.page hq1)
    · rcases List.mem_append.mp hv with z | z
      · exact hE.dok v z
      · rw [List.mem_singleton.mp z]; exact hu1
  have ha3 := k23.tup ha
  have hp3 := k23.page hp1
  generalize (upd H2 m.ud (.lst (ad.map V.ref ++ [.ref a]))) = H3 at k3 b1 b3 b5 b7 k23 tp3 hE3 ha3 hp3 ⊢
  refine ⟨_, rfl, m.e, dx, _, rfl, b1, edF_no_goto _ _ _ _ _ _, _, rfl, a, _, _, _, rfl, rfl, ha3, at_of (j := 0) rfl rfl, m, _, p1, u.1, rfl, hE3, hp3, hu1.1, fun H4 k4 hE4 => ?_⟩
  have e1 : backE ed = { ed with page := { u.1 with clip := ed.page.clip }, units := us', undone := ed.undone ++ [u] } := by
    unfold backE
    rw [eu, List.getLast?_append, List.getLast?_singleton]
    show EdSt.mk _ _ _ _ ((us' ++ [u]).dropLast) _ = _
    rw [List.dropLast_concat]
  have e2 : (!ed.units.isEmpty) = true := by rw [eu]; simp
  rw [e2] at kQ
  refine kQ H4 (Kf.cat k1' (k23.trans (k4.mono (fun c hc => by rw [List.mem_singleton.mp hc]; simp [EdM.l]) k23.w' hE4.wr)) hE.wr) ?_
  rw [e1]
  exact hE4
end
end KT
set_option Elab.async false
set_option linter.all false
set_option maxRecDepth 100000
set_option maxHeartbeats 4000000
namespace KT
open PySem PySem.Spec PyProof.Rows L2 GxR
/-! ### the drawer of numbers -/
def DrAt (H : Hp) (h l : Addr) : Prop := ∃ (a c : Int) (xs : List Int), H h = some (.lst [.int a, .ref l, .int c]) ∧ H l = some (.lst (xs.map V.int)) ∧ h ≠ l
theorem DrAt.kq {H H1 : Hp} {h l : Addr} (d : DrAt H h l) (k : Kq [] H H1) : DrAt H1 h l := by
  obtain ⟨a, c, xs, h1, h2, ne⟩ := d
  exact ⟨a, c, xs, k.get h1, k.get h2, ne⟩
theorem DrAt.kf {S : List Addr} {H H1 : Hp} {h l : Addr} (d : DrAt H h l) (k : Kf S H H1) (n1 : h ∉ S) (n2 : l ∉ S) : DrAt H1 h l := by
  obtain ⟨a, c, xs, h1, h2, ne⟩ := d
  exact ⟨a, c, xs, k.q.gets h1 n1, k.q.gets h2 n2, ne⟩
theorem DrAt.wr {H : Hp} {h l : Addr} (d : DrAt H h l) : ∀ b ∈ [h, l], ∃ o, H b = some o ∧ mutO o = true := by
  obtain ⟨a, c, xs, h1, h2, ne⟩ := d
  intro b hb
  simp only [List.mem_cons, List.not_mem_nil, or_false] at hb
  rcases hb with rfl | rfl
  · exact ⟨_, h1, rfl⟩
  · exact ⟨_, h2, rfl⟩
theorem ints_at {xs : List Int} {j : Nat} (h : j < xs.length) : atI (xs.map V.int) (j : Int) = some (.int xs[j]) := at_of rfl (by rw [List.getElem?_map, List.getElem?_eq_getElem h]; rfl)
theorem ixN_nat {n j : Nat} (h : j < n) : ixN n (j : Int) = some j := by
  unfold ixN
  rw [if_pos (by omega), if_pos (by omega)]; rfl
theorem eqv_nil (xs : List PyData) : PyData.eqv (.list xs) (.list []) = xs.isEmpty := by
  cases xs <;> simp [PyData.eqv, PyData.eqvAll]
theorem dp_ints {K : PySem.W.Frag} {H : Hp} : ∀ (xs : List Int), DpAll K H (xs.map V.int) (xs.map PyData.int)
  | [] => .nil
  | x :: xs => .cons (.int x) (dp_ints xs)
theorem canLay_ints : ∀ xs : List Int, PyData.canLayAll0 (xs.map PyData.int) = true
  | [] => rfl
  | x :: r => by
    show (PyData.canLay0 (.int x) && PyData.canLayAll0 (r.map PyData.int)) = true
    rw [canLay_ints r]; rfl
theorem depth_ints : ∀ xs : List Int, PyData.depthAll (xs.map PyData.int) = 0
  | [] => rfl
  | x :: r => by
    show max 0 (PyData.depthAll (r.map PyData.int)) = 0
    rw [depth_ints r]; rfl
theorem shaped_ints (xs : List Int) : SeqAt.shaped (.list (xs.map PyData.int)) = true := by
  unfold SeqAt.shaped
  have h1 : PyData.canLay0 (.list (xs.map PyData.int)) = PyData.canLayAll0 (xs.map PyData.int) := by simp [PyData.canLay0]
  have h2 : PyData.depth (.list (xs.map PyData.int)) = PyData.depthAll (xs.map PyData.int) + 1 := by simp [PyData.depth]
  rw [h1, h2, canLay_ints, depth_ints]; rfl
section
variable {P : Program} {w : World} {K : PySem.W.Frag} {mg : Str → Option Value} {base : Heap}
def sp_mix (K : PySem.W.Frag) : Sp := fun vs H Q _ => ∃ (a : Addr) (ns : List Int) (i : Int), vs = [.ref a, .int i] ∧ SqL K H a (ns.map V.int) ∧ ∀ h l H', H h = none → H l = none → Kq [] H H' → DrAt H' h l → Q (.ref h) H'
theorem sc__law_mix : FnScope ["_law_script", "_law_seed", "_law_mixed", "_law_cell"] ["_law_script", "_law_seed"] (defScope s__law_mix) := ⟨rfl, rfl, rfl, by decide +kernel, rfl, by decide +kernel, by decide +kernel⟩
theorem ok__law_mix (T : Tx w K mg) : Fk P w K mg base 1 (Ad K d__law_mix.at_) ["_law_script", "_law_seed"] (sp_mix K) := by
  refine mkF T.f__law_mix sc__law_mix rfl (fun _ _ _ _ _ _ us hl => match us, hl with | [_, _], _ => rfl) (fun vs H Q E h => by obtain ⟨_, _, _, rfl, _⟩ := h; rfl) (fun cdv A outer s H vs Q E hcd hcode hr h => ?_)
  have po : PassesOwn (model P w) (CxD P w K mg base ["_law_script", "_law_seed", "_law_mixed", "_law_cell"] d__law_mix cdv A outer s H E).A (CxD P w K mg base ["_law_script", "_law_seed", "_law_mixed", "_law_cell"] d__law_mix cdv A outer s H E).env (CxD P w K mg base ["_law_script", "_law_seed", "_law_mixed", "_law_cell"] d__law_mix cdv A outer s H E).xe := passes_of rfl
  refine ⟨_, (pss_cons (ps_asg (pv 1) (pg_name (i := 2) sc__law_mix.nd rfl (.inl rfl)))
      (pss_cons (ps_for po rfl (pi_list (pv 0)) (pg_name (i := 3) sc__law_mix.nd rfl (.inl rfl)) (pss_one (ps_asg (pe_op op_mod (pe_op op_add (pe_op op_add (pe_op op_mul (pv 2) pe_int) (pe_op op_mod (pv 3) pe_int)) pe_int) pe_int) (pg_name (i := 2) sc__law_mix.nd rfl (.inl rfl)))))
      (pss_one (ps_ret (pe_lst (pa_cons (pv 2) (pa_cons (pe_callTy call_list_of (by rfl) T.n_list (by decide +kernel) (pa_cons (pv 0) pa_nil)) (pa_cons pe_int pa_nil)))))))), ?_⟩
  obtain ⟨a, ns, i, rfl, ha, k⟩ := h
  refine ⟨_, rfl, ?_⟩
  refine ⟨_, rfl, a, rfl, ⟨_, ha⟩, ?_⟩
  refine for_list (K := K) (a := a) (xs := ns.map V.int) (fun j σ H' => H' = H ∧ ∃ z c, σ = [some (.ref a), some (.int i), some (.int z), c]) ⟨rfl, _, _, rfl⟩ (fun j σ H' _ z => by rw [z.1]; exact ha) ?_ ?_
  · rintro j x σ H' hx ⟨rfl, z, c, rfl⟩
    rw [List.getElem?_map] at hx
    obtain ⟨y, _, rfl⟩ := Option.map_eq_some_iff.mp hx
    refine ⟨_, rfl, _, _, rfl, rfl, .inr ⟨by decide, by decide⟩, _, rfl, _, _, rfl, rfl, (by show (0 : Int) < 2147483629; decide), _, _, rfl, rfl, _, _, rfl, rfl, _, _, rfl, rfl, (by show (0 : Int) < 2147483647; decide), rfl, _, _, rfl⟩
  · rintro σ H' ⟨rfl, z, c, rfl⟩
    refine ⟨_, rfl, _, rfl, a, _, rfl, .inl ha, fun l nl => ⟨line16 (by show 3 ≤ 1000000; decide), fun h nh => ?_⟩⟩
    have ne : h ≠ l := fun e => by subst e; rw [upd_same] at nh; cases nh
    refine k h l _ (by rw [upd_ne ne] at nh; exact nh) nl ((Kq.alloc nl).trans (Kq.alloc nh)) ⟨z, 0, ns, upd_same, by rw [upd_ne ne.symm, upd_same], ne⟩
def sp_next (K : PySem.W.Frag) : Sp := fun vs H Q _ => ∃ (h l : Addr) (m : Nat), vs = [.ref h, .int m] ∧ DrAt H h l ∧ 1 ≤ m ∧ m < 1073741824 ∧ ∀ (r : Nat) H', r < m → Kf [h, l] H H' → DrAt H' h l → Q (.int r) H'
theorem sc__law_next : FnScope ["_law_h", "_law_many", "_law_at", "_law_cell"] ["_law_h", "_law_many"] (defScope s__law_next) := ⟨rfl, rfl, rfl, by decide +kernel, rfl, by decide +kernel, by decide +kernel⟩
theorem ok__law_next (T : Tx w K mg) : Fk P w K mg base 1 (Ad K d__law_next.at_) ["_law_h", "_law_many"] (sp_next K) := by
  refine mkF T.f__law_next sc__law_next rfl (fun _ _ _ _ _ _ us hl => match us, hl with | [_, _], _ => rfl) (fun vs H Q E h => by obtain ⟨_, _, _, rfl, _⟩ := h; rfl) (fun cdv A outer s H vs Q E hcd hcode hr h => ?_)
  refine ⟨_, (pss_cons (ps_asg (pe_op op_mod (pe_ix ix_list (pv 0) pe_int (fun _ _ => rfl)) (pe_callB (call_max2 rfl) (by rfl) T.n_max (by decide +kernel) (pa_cons pe_int (pa_cons (pe_callB call_len_seq (by rfl) T.n_len (by decide +kernel) (pa_cons (pe_ix ix_list (pv 0) pe_int (fun _ _ => rfl)) pa_nil)) pa_nil)))) (pg_name (i := 2) sc__law_next.nd rfl (.inl rfl)))
      (C8.pss_cut (ps_asg (pe_ifExp (pt_cmpR (op_neD hr.units) (pe_ix ix_list (pv 0) pe_int (fun _ _ => rfl)) (pe_lst pa_nil) (nomark _)) (pe_ix ix_list (pe_ix ix_list (pv 0) pe_int (fun _ _ => rfl)) (pv 2) (fun _ _ => rfl)) pe_int) (pg_name (i := 3) sc__law_next.nd rfl (.inl rfl)))
      (pss_cons (ps_if (pt_cmpR op_ge (pv 3) (pe_op op_pow pe_int pe_int) (nomark _)) (pss_cons (ps_asg (pe_op op_fdivN (pv 3) (pv 1)) (pg_sub (pe_ix ix_list (pv 0) pe_int (fun _ _ => rfl)) (pv 2) set_list))
      (pss_one (ps_ret (pe_op op_mod (pv 3) (pv 1))))) pss_nil)
      (pss_cons (ps_asg (pe_op op_mod (pe_op op_add (pe_op op_add (pe_op op_mul (pe_ix ix_list (pv 0) pe_int (fun _ _ => rfl)) pe_int) (pe_op op_mul (pv 3) pe_int)) pe_int) pe_int) (pg_sub (pv 0) pe_int set_list))
      (pss_cons (ps_asg (pe_op op_add (pe_ix ix_list (pv 0) pe_int (fun _ _ => rfl)) pe_int) (pg_sub (pv 0) pe_int set_list))
      (pss_one (ps_ret (pe_op op_mod (pe_op op_fdivN (pe_ix ix_list (pv 0) pe_int (fun _ _ => rfl)) pe_int) (pv 1))))))))), ?_⟩
  obtain ⟨h, l, m, rfl, hD, hm, hm2, kQ⟩ := h
  have hD0 := hD
  obtain ⟨a, c, xs, h1, h2, ne⟩ := hD
  refine ⟨_, rfl, h, _, _, .int c, rfl, rfl, SqL.of h1, at_of (j := 2) rfl rfl, _, rfl, h, _, _, .ref l, rfl, rfl, SqL.of h1, at_of (j := 1) rfl rfl, l, _, rfl, .inl (SqL.of h2), _, _, rfl, _, _, rfl, rfl, ?_, ?_⟩
  · split <;> omega
  rw [List.length_map]
  have hat : ∃ j : Nat, c % (if (xs.length : Int) > 1 then (xs.length : Int) else 1) = (j : Int) ∧ (xs ≠ [] → j < xs.length) := by
    have hp : (0 : Int) < (if (xs.length : Int) > 1 then (xs.length : Int) else 1) := by split <;> omega
    refine ⟨(c % (if (xs.length : Int) > 1 then (xs.length : Int) else 1)).toNat, ?_, fun hx => ?_⟩
    · rw [Int.toNat_of_nonneg (Int.emod_nonneg _ (by omega))]
    · have h1 := Int.emod_lt_of_pos c hp
      have h0 := Int.emod_nonneg c (b := (if (xs.length : Int) > 1 then (xs.length : Int) else 1)) (by omega)
      have : 0 < xs.length := List.length_pos_iff.mpr hx
      generalize c % (if (xs.length : Int) > 1 then (xs.length : Int) else 1) = r at *
      split at h1 <;> omega
  obtain ⟨j, ej, hj⟩ := hat
  refine ⟨fun σ' H' => ∃ z, σ' = [some (.ref h), some (.int m), some (.int j), some (.int z)] ∧ Kq [] H H' ∧ (xs = [] → z = 0), ?_, ?_⟩
  · refine ⟨_, rfl, h, _, _, .ref l, rfl, rfl, SqL.of h1, at_of (j := 1) rfl rfl, line16 (by show 0 ≤ 1000000; decide), fun p np => ?_⟩
    have k1 : Kq [] H (upd H p (.lst [])) := Kq.alloc np
    refine ⟨.list (xs.map .int), .list [], .lst (SqL.of (k1.get h2)) (dp_ints xs), .lst (SqL.of upd_same) .nil, shaped_ints xs, rfl, _, rfl, ?_⟩
    rw [eqv_nil]
    by_cases hx : xs = []
    · rw [show (xs.map PyData.int).isEmpty = true by rw [hx]; rfl]
      exact iteF ⟨0, by rw [← ej]; rfl, k1, fun _ => rfl⟩
    · rw [show (xs.map PyData.int).isEmpty = false by cases xs <;> first | rfl | exact absurd rfl hx]
      exact iteT ⟨_, rfl, h, _, _, .ref l, rfl, rfl, SqL.of (k1.get h1), at_of (j := 1) rfl rfl, _, rfl, l, _, _, _, rfl, rfl, SqL.of (k1.get h2), (by rw [ej]; exact ints_at (hj hx)), xs[j]'(hj hx), by rw [← ej]; rfl, k1, fun e => absurd e hx⟩
  rintro σ' H1 ⟨z, rfl, k1, hz⟩
  refine ⟨_, rfl, _, _, rfl, rfl, ⟨by decide, by decide, by decide⟩, _, _, rfl, rfl, _, rfl, ?_⟩
  refine iteD (fun hge => ?_) (fun hlt => ?_)
  · have hne : xs ≠ [] := fun e => by rw [hz e] at hge; exact absurd hge (by decide)
    have k2 : Kf [h, l] H1 (upd H1 l (.lst ((xs.map V.int).set j (.int (z.fdiv m))))) := Kf.write (k1.get h2) (by simp) rfl (hD0.kq k1).wr
    refine ⟨_, rfl, _, rfl, _, _, rfl, rfl, ⟨by omega, by omega⟩, _, rfl, h, _, _, .ref l, rfl, rfl, SqL.of (k1.get h1), at_of (j := 1) rfl rfl, _, rfl, l, _, _, j, rfl, rfl, k1.get h2, ixN_nat (by rw [List.length_map]; exact hj hne), ?_⟩
    refine ⟨_, rfl, _, rfl, _, _, rfl, rfl, by omega, ?_⟩
    have e0 : z % (m : Int) = ((z % (m : Int)).toNat : Int) := by rw [Int.toNat_of_nonneg (Int.emod_nonneg _ (by omega))]
    have e1 := Int.emod_lt_of_pos z (b := (m : Int)) (by omega)
    show Q (.int (z % (m : Int))) _
    rw [e0]
    refine kQ _ _ (by omega) (Kf.cat k1 k2 hD0.wr) ⟨a, c, xs.set j (z.fdiv m), (upd_ne ne).trans (k1.get h1), ?_, ne⟩
    rw [upd_same, List.map_set]
  · have g1 := k1.get h1
    have g2 := k1.get h2
    have d1 := hD0.kq k1
    refine ⟨_, rfl, h, _, _, .int a, rfl, rfl, SqL.of g1, at_of (j := 0) rfl rfl, _, _, rfl, rfl, .inr ⟨by decide, by decide⟩, _, rfl, _, _, rfl, rfl, .inr ⟨by decide, by decide⟩, _, _, rfl, rfl, _, _, rfl, rfl, _, _, rfl, rfl, (by show (0 : Int) < 2147483647; decide), _, rfl, h, _, _, 0, rfl, rfl, g1, rfl, ?_⟩
    have kA : Kf [h, l] H1 (upd H1 h (.lst [.int ((a * 48271 + z * 69621 + 11) % 2147483647), .ref l, .int c])) := Kf.write g1 (by simp) rfl d1.wr
    refine ⟨_, rfl, h, _, _, .int c, rfl, rfl, SqL.of upd_same, at_of (j := 2) rfl rfl, _, _, rfl, rfl, _, rfl, h, _, _, 2, rfl, rfl, upd_same, rfl, ?_⟩
    have kB : Kf [h, l] (upd H1 h (.lst [.int ((a * 48271 + z * 69621 + 11) % 2147483647), .ref l, .int c])) (upd (upd H1 h (.lst [.int ((a * 48271 + z * 69621 + 11) % 2147483647), .ref l, .int c])) h (.lst [.int ((a * 48271 + z * 69621 + 11) % 2147483647), .ref l, .int (c + 1)])) := Kf.write upd_same (by simp) rfl kA.w'
    refine ⟨_, rfl, h, _, _, .int ((a * 48271 + z * 69621 + 11) % 2147483647), rfl, rfl, SqL.of upd_same, at_of (j := 0) rfl rfl, _, _, rfl, rfl, ⟨by decide, by decide⟩, _, rfl, _, _, rfl, rfl, by omega, ?_⟩
    show Q (.int (((a * 48271 + z * 69621 + 11) % 2147483647).fdiv 7 % (m : Int))) _
    generalize ((a * 48271 + z * 69621 + 11) % 2147483647).fdiv 7 = u
    have e0 : u % (m : Int) = ((u % (m : Int)).toNat : Int) := by rw [Int.toNat_of_nonneg (Int.emod_nonneg _ (by omega))]
    have e1 := Int.emod_lt_of_pos u (b := (m : Int)) (by omega)
    rw [e0]
    exact kQ _ _ (by omega) (Kf.cat k1 (kA.trans kB) hD0.wr) ⟨_, c + 1, xs, upd_same, (upd_ne ne.symm).trans ((upd_ne ne.symm).trans g2), ne⟩
end
end KT
set_option Elab.async false
set_option linter.all false
set_option maxRecDepth 100000
set_option maxHeartbeats 4000000
namespace KT
open PySem PySem.Spec PyProof.Rows L2 GxR
theorem kit_tl {K : PySem.W.Frag} {a : String} {b1 b2 : Bool} (h1 : kitB a "tuple" = some b1) (h2 : kitB a "list" = some b2) : W.kitAny K (.type a) [.type "tuple", .type "list"] = some (b1 || b2) := by
  simp only [PySem.W.kitAny, kit_ty h1, kit_ty h2]
  cases b1 <;> cases b2 <;> rfl
theorem ix_seqB {X : Cx} {K : PySem.W.Frag} (e : X.K = K) : IxR X (rIx K) := e ▸ ix_seq
theorem ix_listB {X : Cx} {K : PySem.W.Frag} (e : X.K = K) : IxR X (rIxL K) := e ▸ ix_list
theorem ix_tupB {X : Cx} {K : PySem.W.Frag} (e : X.K = K) : IxR X (rIxT K) := e ▸ ix_tup
theorem call_len_seqB {X : Cx} {K : PySem.W.Frag} (e : X.K = K) : CallR X (Value.builtin "len") fun xs H Q => ∃ p ys, xs = [V.ref p] ∧ (SqL K H p ys ∨ SqT K H p ys) ∧ Q (V.int ↑ys.length) H := e ▸ call_len_seq
/-- alike, n deep -/
inductive Al (H : Hp) : Nat → V → V → Prop where
  | non (n : Nat) : Al H n .non .non
  | int (n : Nat) (i : Int) : Al H n (.int i) (.int i)
  | str (n : Nat) (s : Str) : Al H n (.str s) (.str s)
  | bl (n : Nat) (b : Bool) : Al H n (.bl b) (.bl b)
  | lst {n : Nat} {a b : Addr} {xs ys : List V} (h1 : H a = some (.lst xs)) (h2 : H b = some (.lst ys)) (hl : xs.length = ys.length) (hb : xs.length ≤ 1000) (h : ∀ (i : Nat) (x y : V), xs[i]? = some x → ys[i]? = some y → Al H n x y) : Al H (n + 1) (.ref a) (.ref b)
  | tup {n : Nat} {a b : Addr} {xs ys : List V} (h1 : H a = some (.tup xs)) (h2 : H b = some (.tup ys)) (hl : xs.length = ys.length) (hb : xs.length ≤ 1000) (h : ∀ (i : Nat) (x y : V), xs[i]? = some x → ys[i]? = some y → Al H n x y) : Al H (n + 1) (.ref a) (.ref b)
theorem Al.kq {H H1 : Hp} (k : Kq [] H H1) {n : Nat} {x y : V} (h : Al H n x y) : Al H1 n x y := by
  induction h with
  | non n => exact .non n
  | int n i => exact .int n i
  | str n s => exact .str n s
  | bl n b => exact .bl n b
  | lst h1 h2 hl hb _ ih => exact .lst (k.get h1) (k.get h2) hl hb ih
  | tup h1 h2 hl hb _ ih => exact .tup (k.get h1) (k.get h2) hl hb ih
section
variable {P : Program} {w : World} {K : PySem.W.Frag} {mg : Str → Option Value} {base : Heap}
def sp_alike (K : PySem.W.Frag) : Nat → Sp
  | 0 => fun _ _ _ _ => False
  | n + 1 => fun vs H Q _ => ∃ x y, vs = [x, y] ∧ Al H n x y ∧ ∀ H', Kq [] H H' → Q (.bl true) H'
theorem paired_tl : Paired ClsV [.ty "tuple", .ty "list"] [.type "tuple", .type "list"] := .cons (.ty _) (.cons (.ty _) .nil)
theorem sc__law_alike : FnScope ["_law_found", "_law_due", "_law_k"] ["_law_found", "_law_due"] (defScope s__law_alike) := ⟨rfl, rfl, rfl, by decide +kernel, rfl, by decide +kernel, by decide +kernel⟩
theorem ok__law_alike (T : Tx w K mg) {n k : Nat} (F__law_alike : Fk P w K mg base k (Ad K d__law_alike.at_) ["_law_found", "_law_due"] (sp_alike K n)) : Fk P w K mg base (k + 1) (Ad K d__law_alike.at_) ["_law_found", "_law_due"] (sp_alike K (n + 1)) := by
  refine mkF T.f__law_alike sc__law_alike rfl (fun _ _ _ _ _ _ us hl => match us, hl with | [_, _], _ => rfl) (fun vs H Q E h => by obtain ⟨_, _, rfl, _⟩ := h; rfl) (fun cdv A outer s H vs Q E hcd hcode hr h => ?_)
  refine ⟨_, (pss_cons (ps_if (pt_val (pe_callB call_isiT (by rfl) T.n_isinstance (by decide +kernel) (pa_cons (pv 1) (pa_cons (pe_tup (pa_cons (pe_bltn (v := .ty "tuple") (by rfl) T.n_tuple (by decide +kernel) rfl) (pa_cons (pe_bltn (v := .ty "list") (by rfl) T.n_list (by decide +kernel) rfl) pa_nil))) pa_nil)))) (pss_cons (ps_if ((pw_or (pt_not (pt_val (pe_callB call_isiT (by rfl) T.n_isinstance (by decide +kernel) (pa_cons (pv 0) (pa_cons (pe_tup (pa_cons (pe_bltn (v := .ty "tuple") (by rfl) T.n_tuple (by decide +kernel) rfl) (pa_cons (pe_bltn (v := .ty "list") (by rfl) T.n_list (by decide +kernel) rfl) pa_nil))) pa_nil))))) (pw_or1 (pt_cmpR op_ne (pe_callB call_isi (by rfl) T.n_isinstance (by decide +kernel) (pa_cons (pv 0) (pa_cons (pe_bltn (v := .ty "list") (by rfl) T.n_list (by decide +kernel) rfl) pa_nil))) (pe_callB call_isi (by rfl) T.n_isinstance (by decide +kernel) (pa_cons (pv 1) (pa_cons (pe_bltn (v := .ty "list") (by rfl) T.n_list (by decide +kernel) rfl) pa_nil))) (nomark _))))).pt (pss_one (ps_ret pe_bl)) pss_nil)
      (pss_cons (ps_if (pt_cmpR op_ne (pe_callB call_len_seq (by rfl) T.n_len (by decide +kernel) (pa_cons (pv 0) pa_nil)) (pe_callB call_len_seq (by rfl) T.n_len (by decide +kernel) (pa_cons (pv 1) pa_nil)) (nomark _)) (pss_one (ps_ret pe_bl)) pss_nil)
      (pss_one (ps_ret (pe_cmpR (op_eqD hr.units) (pe_lc (own := [("_law_k", 2)]) (by rfl) sc__law_alike.nd (pi_range1 (by rfl) T.n_range (pa_cons (pe_callB call_len_seq (by rfl) T.n_len (by decide +kernel) (pa_cons (pv 1) pa_nil)) pa_nil)) (blkOk_by (own := [("_law_k", 2)]) (N := ["_law_found", "_law_due", "_law_k"]) (sc := defScope s__law_alike) (by decide +kernel)) (fun _ _ _ _ _ => (pg_name (i := 2) sc__law_alike.nd rfl (.inl rfl))) (fun _ _ _ _ _ => (pts_one (pt_not (pt_val (pe_cF F__law_alike hr T.g__law_alike passL (pa_cons (pe_ix (ix_seqB (K := K) rfl) (pv 0) (pv 2) (fun _ _ => rfl)) (pa_cons (pe_ix (ix_seqB (K := K) rfl) (pv 1) (pv 2) (fun _ _ => rfl)) pa_nil))))))) (fun _ _ _ _ _ => (pv 2))) (pe_lst pa_nil) (nomark _)))))) pss_nil)
      (pss_cons (ps_if (pt_cmpR op_isN (pv 1) pe_non (nomark _)) (pss_one (ps_ret (pe_cmpR op_isN (pv 0) pe_non (nomark _)))) pss_nil)
      (pss_cons (ps_if (pt_val (pe_callB call_isi (by rfl) T.n_isinstance (by decide +kernel) (pa_cons (pv 1) (pa_cons (pe_bltn (v := .ty "str") (by rfl) T.n_str (by decide +kernel) rfl) pa_nil)))) (pss_one (ps_ret (pe_and (pe_callB call_isi (by rfl) T.n_isinstance (by decide +kernel) (pa_cons (pv 0) (pa_cons (pe_bltn (v := .ty "str") (by rfl) T.n_str (by decide +kernel) rfl) pa_nil))) (pe_one (pe_cmpR op_eq (pv 0) (pv 1) (nomark _)))))) pss_nil)
      (pss_cons (ps_if ((pw_or (pt_val (pe_callB call_isi (by rfl) T.n_isinstance (by decide +kernel) (pa_cons (pv 1) (pa_cons (pe_bltn (v := .ty "bool") (by rfl) T.n_bool (by decide +kernel) rfl) pa_nil)))) (pw_or1 (pt_val (pe_callB call_isi (by rfl) T.n_isinstance (by decide +kernel) (pa_cons (pv 0) (pa_cons (pe_bltn (v := .ty "bool") (by rfl) T.n_bool (by decide +kernel) rfl) pa_nil))))))).pt (pss_one (ps_ret (pe_and (pe_callB call_isi (by rfl) T.n_isinstance (by decide +kernel) (pa_cons (pv 1) (pa_cons (pe_bltn (v := .ty "bool") (by rfl) T.n_bool (by decide +kernel) rfl) pa_nil))) (pe_and (pe_callB call_isi (by rfl) T.n_isinstance (by decide +kernel) (pa_cons (pv 0) (pa_cons (pe_bltn (v := .ty "bool") (by rfl) T.n_bool (by decide +kernel) rfl) pa_nil))) (pe_one (pe_cmpR op_eq (pv 0) (pv 1) (nomark _))))))) pss_nil)
      (pss_one (ps_ret (pe_and (pe_callB call_isi (by rfl) T.n_isinstance (by decide +kernel) (pa_cons (pv 0) (pa_cons (pe_bltn (v := .ty "int") (by rfl) T.n_int (by decide +kernel) rfl) pa_nil))) (pe_one (pe_cmpR op_eq (pv 0) (pv 1) (nomark _)))))))))), ?_⟩
  obtain ⟨x, y, rfl, hA, kQ⟩ := h
  refine ⟨_, rfl, line16 (by show 2 ≤ 1000000; decide), fun tp ntp => ?_⟩
  have k1 : Kq [] H (upd H tp (.tup [.ty "tuple", .ty "list"])) := Kq.alloc ntp
  have htp : (upd H tp (.tup [.ty "tuple", .ty "list"])) tp = some (.tup [.ty "tuple", .ty "list"]) := upd_same
  have hA1 := hA.kq k1
  generalize (upd H tp (.tup [.ty "tuple", .ty "list"])) = H1 at k1 htp hA1 ⊢
  cases hA1 with
  | non n =>
    refine ⟨_, tp, _, _, _, _, rfl, htp, paired_tl, (.base .non), kit_tl (b1 := false) (b2 := false) (by decide +kernel) (by decide +kernel), _, rfl, iteF ⟨_, rfl, rfl, _, rfl, iteT ⟨_, rfl, rfl, kQ _ k1⟩⟩⟩
  | str n s =>
    refine ⟨_, tp, _, _, _, _, rfl, htp, paired_tl, (.base (.str _)), kit_tl (b1 := false) (b2 := false) (by decide +kernel) (by decide +kernel), _, rfl, iteF ⟨_, rfl, rfl, _, rfl, iteF ⟨_, rfl, _, _, _, _, true, rfl, .ty _, .base (.str _), kit_ty (by decide +kernel), _, rfl, iteT ?_⟩⟩⟩
    refine ⟨_, rfl, _, _, _, _, true, rfl, .ty _, .base (.str _), kit_ty (by decide +kernel), _, rfl, iteT ⟨_, rfl, _, rfl, rfl, ?_⟩⟩
    rw [decide_eq_true rfl]; exact kQ _ k1
  | int n i =>
    refine ⟨_, tp, _, _, _, _, rfl, htp, paired_tl, (.base (.int _)), kit_tl (b1 := false) (b2 := false) (by decide +kernel) (by decide +kernel), _, rfl, iteF ⟨_, rfl, rfl, _, rfl, iteF ⟨_, rfl, _, _, _, _, false, rfl, .ty _, .base (.int _), kit_ty (by decide +kernel), _, rfl, iteF ?_⟩⟩⟩
    refine ⟨_, rfl, _, _, _, _, false, rfl, .ty _, .base (.int _), kit_ty (by decide +kernel), _, rfl, iteF ⟨_, rfl, _, _, _, _, false, rfl, .ty _, .base (.int _), kit_ty (by decide +kernel), _, rfl, iteF ?_⟩⟩
    refine ⟨_, rfl, _, _, _, _, true, rfl, .ty _, .base (.int _), kit_ty (by decide +kernel), _, rfl, iteT ⟨_, rfl, _, rfl, rfl, ?_⟩⟩
    rw [decide_eq_true rfl]; exact kQ _ k1
  | bl n b =>
    refine ⟨_, tp, _, _, _, _, rfl, htp, paired_tl, (.base (.bl _)), kit_tl (b1 := false) (b2 := false) (by decide +kernel) (by decide +kernel), _, rfl, iteF ⟨_, rfl, rfl, _, rfl, iteF ⟨_, rfl, _, _, _, _, false, rfl, .ty _, .base (.bl _), kit_ty (by decide +kernel), _, rfl, iteF ?_⟩⟩⟩
    refine ⟨_, rfl, _, _, _, _, true, rfl, .ty _, .base (.bl _), kit_ty (by decide +kernel), _, rfl, iteT ?_⟩
    refine ⟨_, rfl, _, _, _, _, true, rfl, .ty _, .base (.bl _), kit_ty (by decide +kernel), _, rfl, iteT ?_⟩
    refine ⟨_, rfl, _, _, _, _, true, rfl, .ty _, .base (.bl _), kit_ty (by decide +kernel), _, rfl, iteT ⟨_, rfl, _, rfl, rfl, ?_⟩⟩
    rw [decide_eq_true rfl]; exact kQ _ k1
  | lst h1 h2 hl hb hh =>
    rename_i n a b xs ys
    refine ⟨_, tp, _, _, _, _, rfl, htp, paired_tl, .base (.lst h2), kit_tl (b1 := false) (b2 := true) (by decide +kernel) (by decide +kernel), _, rfl, iteT ?_⟩
    refine ⟨_, rfl, line16 (by show 2 ≤ 1000000; decide), fun tp2 ntp2 => ?_⟩
    have k2 : Kq [] H1 (upd H1 tp2 (.tup [.ty "tuple", .ty "list"])) := Kq.alloc ntp2
    refine ⟨_, tp2, _, _, _, _, rfl, upd_same, paired_tl, .base (.lst (k2.get h1)), kit_tl (b1 := false) (b2 := true) (by decide +kernel) (by decide +kernel), _, rfl, iteF ?_⟩
    generalize (upd H1 tp2 (.tup [.ty "tuple", .ty "list"])) = H2 at k2 ⊢
    refine ⟨_, rfl, _, _, _, _, true, rfl, .ty _, .base (.lst (k2.get h1)), kit_ty (by decide +kernel), _, rfl, _, _, _, _, true, rfl, .ty _, .base (.lst (k2.get h2)), kit_ty (by decide +kernel), rfl, _, rfl, iteN (fun z => absurd rfl z) (fun _ => ?_)⟩
    refine ⟨_, rfl, a, _, rfl, .inl (SqL.of (k2.get h1)), _, rfl, b, _, rfl, .inl (SqL.of (k2.get h2)), rfl, _, rfl, iteN (fun z => absurd (by rw [hl]) z) (fun _ => ?_)⟩
    refine ⟨_, rfl, b, _, rfl, .inl (SqL.of (k2.get h2)), _, rfl, by omega, by omega, fun D nD => ?_⟩
    refine lc_range (lo := 0) (n := (ys.length : Int).toNat) (fun i H' => Kq [] H2 H' ∧ H' D = some (.lst [])) ⟨Kq.alloc nD, upd_same⟩ ?_ ?_
    · rintro i H' hi ⟨k3, hD⟩
      have hi : i < ys.length := by simpa using hi
      have hix : i < xs.length := by omega
      have k23 := k2.trans k3
      refine ⟨rfl, _, rfl, _, rfl, .inl ⟨a, xs, _, xs[i], rfl, rfl, SqL.of (k23.get h1), at_of (j := i) (by omega) (List.getElem?_eq_getElem hix), _, rfl, _, rfl, .inl ⟨b, ys, _, ys[i], rfl, rfl, SqL.of (k23.get h2), at_of (j := i) (by omega) (List.getElem?_eq_getElem hi), _, _, rfl, (hh i _ _ (List.getElem?_eq_getElem hix) (List.getElem?_eq_getElem hi)).kq k23, fun H3 k4 => ⟨_, rfl, ?_⟩⟩⟩⟩
      exact iteF ⟨k3.trans k4, k4.get hD⟩
    · rintro H' ⟨k3, hD⟩
      refine ⟨line16 (by show 0 ≤ 1000000; decide), fun p np => ?_⟩
      have k4 : Kq [] H' (upd H' p (.lst [])) := Kq.alloc np
      refine ⟨.list [], .list [], .lst (SqL.of (k4.get hD)) .nil, .lst (SqL.of upd_same) .nil, rfl, rfl, ?_⟩
      exact kQ _ ((k1.trans k2).trans (k3.trans k4))
  | tup h1 h2 hl hb hh =>
    rename_i n a b xs ys
    refine ⟨_, tp, _, _, _, _, rfl, htp, paired_tl, .base (.tup h2), kit_tl (b1 := true) (b2 := false) (by decide +kernel) (by decide +kernel), _, rfl, iteT ?_⟩
    refine ⟨_, rfl, line16 (by show 2 ≤ 1000000; decide), fun tp2 ntp2 => ?_⟩
    have k2 : Kq [] H1 (upd H1 tp2 (.tup [.ty "tuple", .ty "list"])) := Kq.alloc ntp2
    refine ⟨_, tp2, _, _, _, _, rfl, upd_same, paired_tl, .base (.tup (k2.get h1)), kit_tl (b1 := true) (b2 := false) (by decide +kernel) (by decide +kernel), _, rfl, iteF ?_⟩
    generalize (upd H1 tp2 (.tup [.ty "tuple", .ty "list"])) = H2 at k2 ⊢
    refine ⟨_, rfl, _, _, _, _, false, rfl, .ty _, .base (.tup (k2.get h1)), kit_ty (by decide +kernel), _, rfl, _, _, _, _, false, rfl, .ty _, .base (.tup (k2.get h2)), kit_ty (by decide +kernel), rfl, _, rfl, iteN (fun z => absurd rfl z) (fun _ => ?_)⟩
    refine ⟨_, rfl, a, _, rfl, .inr (SqT.of (k2.get h1)), _, rfl, b, _, rfl, .inr (SqT.of (k2.get h2)), rfl, _, rfl, iteN (fun z => absurd (by rw [hl]) z) (fun _ => ?_)⟩
    refine ⟨_, rfl, b, _, rfl, .inr (SqT.of (k2.get h2)), _, rfl, by omega, by omega, fun D nD => ?_⟩
    refine lc_range (lo := 0) (n := (ys.length : Int).toNat) (fun i H' => Kq [] H2 H' ∧ H' D = some (.lst [])) ⟨Kq.alloc nD, upd_same⟩ ?_ ?_
    · rintro i H' hi ⟨k3, hD⟩
      have hi : i < ys.length := by simpa using hi
      have hix : i < xs.length := by omega
      have k23 := k2.trans k3
      refine ⟨rfl, _, rfl, _, rfl, .inr <| .inl ⟨a, xs, _, xs[i], rfl, rfl, SqT.of (k23.get h1), at_of (j := i) (by omega) (List.getElem?_eq_getElem hix), _, rfl, _, rfl, .inr <| .inl ⟨b, ys, _, ys[i], rfl, rfl, SqT.of (k23.get h2), at_of (j := i) (by omega) (List.getElem?_eq_getElem hi), _, _, rfl, (hh i _ _ (List.getElem?_eq_getElem hix) (List.getElem?_eq_getElem hi)).kq k23, fun H3 k4 => ⟨_, rfl, ?_⟩⟩⟩⟩
      exact iteF ⟨k3.trans k4, k4.get hD⟩
    · rintro H' ⟨k3, hD⟩
      refine ⟨line16 (by show 0 ≤ 1000000; decide), fun p np => ?_⟩
      have k4 : Kq [] H' (upd H' p (.lst [])) := Kq.alloc np
      refine ⟨.list [], .list [], .lst (SqL.of (k4.get hD)) .nil, .lst (SqL.of upd_same) .nil, rfl, rfl, ?_⟩
      exact kQ _ ((k1.trans k2).trans (k3.trans k4))
theorem cps_aab : (Str.ofString "aab, ").cps.toList = [97, 97, 98, 44, 32] := by decide +kernel
end
end KT
set_option Elab.async false
set_option linter.all false
set_option maxRecDepth 100000
set_option maxHeartbeats 4000000
namespace KT
open PySem PySem.Spec PyProof.Rows L2 GxR
theorem Kf.ints {S : List Addr} {H H1 : Hp} (k : Kf S H H1) {b : Addr} {o : HO} (h : H b = some o) (m : b ∉ S) (n : noTbl o = true := by rfl) : H1 b = some o := k.q.gets h m n
def everyS : Str := Str.ofString " !\"#$&'()*+,-./0123456789:;<=>?@ABCDEFGHIJKLMNOPQRSTUVWXYZ[\\]^_`abcdefghijklmnopqrstuvwxyz{|}~"
theorem every_ok : everyS.cps.toList.length = 94 ∧ ∀ c ∈ everyS.cps.toList, okSign c := by decide +kernel
theorem every_len : everyS.length = 94 := by decide +kernel
def aabS : Str := Str.ofString "aab, "
theorem aab_ok : aabS.cps.toList = [97, 97, 98, 44, 32] := by decide +kernel
theorem cps_at {l : List Nat} {j : Nat} {c : Nat} {i : Int} (e : i = (j : Int)) (h : l[j]? = some c) : atI l i = some c := by subst e; exact atI_nat h
section
variable {P : Program} {w : World} {K : PySem.W.Frag} {mg : Str → Option Value} {base : Heap}
theorem ok_alike (T : Tx w K mg) : ∀ n, Fk P w K mg base (n + 1) (Ad K d__law_alike.at_) ["_law_found", "_law_due"] (sp_alike K n)
  | 0 => mkF T.f__law_alike sc__law_alike rfl (fun _ _ _ _ _ _ us hl => match us, hl with | [_, _], _ => rfl) (fun _ _ _ _ h => h.elim) (fun _ _ _ _ _ _ _ _ _ _ _ h => h.elim)
  | n + 1 => ok__law_alike T (ok_alike T n)
def sp_sign (K : PySem.W.Frag) : Sp := fun vs H Q _ => ∃ (h l : Addr), vs = [.ref h] ∧ DrAt H h l ∧ ∀ (c : Nat) H', okSign c → Kf [h, l] H H' → DrAt H' h l → Q (.str (S [c])) H'
end
end KT
set_option Elab.async false
set_option linter.all false
set_option maxRecDepth 100000
set_option maxHeartbeats 4000000
namespace KT
open PySem PySem.Spec PyProof.Rows L2 GxR
theorem empty_eq : Str.ofString "" = S [] := by decide +kernel
theorem joinL_one : ∀ cs : Ln, TL.joinL [] (cs.map fun c => [c]) = cs
  | [] => rfl
  | [c] => rfl
  | c :: d :: r => by
    have := joinL_one (d :: r)
    show [c] ++ ([] ++ TL.joinL [] ((d :: r).map fun c => [c])) = c :: d :: r
    rw [this]; rfl
theorem join_signs (cs : Ln) : Txt.join (Str.ofString "") (cs.map fun c => S [c]) = S cs := by
  rw [empty_eq]
  refine TL.ext_tl ?_
  rw [TL.join_eq, TL.tl_join]
  rw [show ((cs.map fun c => S [c]).map TL.tl) = cs.map fun c => [c] by rw [List.map_map]; rfl]
  exact joinL_one cs
theorem signs_len (cs : Ln) : ((cs.map fun c => S [c]).map (·.length)).sum = cs.length := by
  induction cs with
  | nil => rfl
  | cons c r ih =>
    simp only [List.map_cons, List.sum_cons, List.length_cons, ih]
    rw [S_len]; simp [Nat.add_comm]
theorem good_row {l : Ln} (h : l.length ≤ 60) (hs : ∀ c ∈ l, okSign c) : goodRow l = true := by
  unfold goodRow
  rw [decide_eq_true h]
  refine List.all_eq_true.mpr fun c hc => ?_
  rw [signB_eq]
  exact decide_eq_true (hs c hc)
theorem DrAt.upd {H : Hp} {h l D : Addr} {o : HO} (d : DrAt H h l) (n1 : D ≠ h) (n2 : D ≠ l) : DrAt (upd H D o) h l := by
  obtain ⟨a, c, xs, h1, h2, ne⟩ := d
  exact ⟨a, c, xs, (upd_ne n1.symm).trans h1, (upd_ne n2.symm).trans h2, ne⟩
section
variable {P : Program} {w : World} {K : PySem.W.Frag} {mg : Str → Option Value} {base : Heap}
def sp_text (K : PySem.W.Frag) : Sp := fun vs H Q _ => ∃ (h l : Addr), vs = [.ref h] ∧ DrAt H h l ∧ ∀ ls H', ls ≠ [] → goodB ls = true → Kf [h, l] H H' → DrAt H' h l → Q (.str (textS ls)) H'
end
end KT
set_option Elab.async false
set_option linter.all false
set_option maxRecDepth 100000
set_option maxHeartbeats 4000000
namespace KT
open PySem PySem.Spec PyProof.Rows L2 GxR
def Word (w : Ln) : Prop := 1 ≤ w.length ∧ w.length ≤ 6 ∧ ∀ c ∈ w, isLet c = true
def abcS : Str := Str.ofString "abcxyz"
theorem abc_ok : abcS.cps.toList.length = 6 ∧ (∀ c ∈ abcS.cps.toList, isLet c = true) ∧ abcS.length = 6 := by decide +kernel
section
variable {P : Program} {w : World} {K : PySem.W.Frag} {mg : Str → Option Value} {base : Heap}
def sp_words (K : PySem.W.Frag) : Sp := fun vs H Q _ => ∃ (h l : Addr) (m : Nat), vs = [.ref h, .int m] ∧ DrAt H h l ∧ m ≤ 12 ∧ ∀ ws D H', ws.length = m → (∀ w ∈ ws, Word w) → H D = none → H' D = some (.lst (rowsV ws)) → Kf [h, l] H H' → DrAt H' h l → Q (.ref D) H'
theorem sc__law_words : FnScope ["_law_h", "_law_many", "_law_n", "_law_k"] ["_law_h", "_law_many"] (defScope s__law_words) := ⟨rfl, rfl, rfl, by decide +kernel, rfl, by decide +kernel, by decide +kernel⟩
theorem ok__law_words (T : Tx w K mg) : Fk P w K mg base 2 (Ad K d__law_words.at_) ["_law_h", "_law_many"] (sp_words K) := by
  have F__law_next := ok__law_next (P := P) (base := base) T
  refine mkF T.f__law_words sc__law_words rfl (fun _ _ _ _ _ _ us hl => match us, hl with | [_, _], _ => rfl) (fun vs H Q E h => by obtain ⟨_, _, _, rfl, _⟩ := h; rfl) (fun cdv A outer s H vs Q E hcd hcode hr h => ?_)
  refine ⟨_, (pss_one (ps_ret (pe_lc (own := [("_law_n", 2)]) (by rfl) sc__law_words.nd (pi_range1 (by rfl) T.n_range (pa_cons (pv 1) pa_nil)) (blkOk_by (own := [("_law_n", 2)]) (N := ["_law_h", "_law_many", "_law_n", "_law_k"]) (sc := defScope s__law_words) (by decide +kernel)) (fun _ _ _ _ _ => (pg_name (i := 2) sc__law_words.nd rfl (.inl rfl))) (fun _ _ _ _ _ => pts_nil) (fun _ _ _ _ _ => (pe_joinB (K := K) rfl pe_str (pe_lc (own := [("_law_k", 3)]) (by rfl) sc__law_words.nd (pi_range1 (by rfl) T.n_range (pa_cons (pe_op op_add pe_int (pe_cF F__law_next (hr.mono (by decide)) T.g__law_next passL (pa_cons (pv 0) (pa_cons pe_int pa_nil)))) pa_nil)) (blkOk_by (own := [("_law_k", 3)]) (by kernel_rfl)) (fun _ _ _ _ _ => (pg_name (i := 3) sc__law_words.nd rfl (.inl rfl))) (fun _ _ _ _ _ => pts_nil) (fun _ _ _ _ _ => (pe_ix ix_str pe_str (pe_cF F__law_next (hr.mono (by decide)) T.g__law_next passL (pa_cons (pv 0) (pa_cons pe_int pa_nil))) (fun _ _ => rfl))))))))), ?_⟩
  obtain ⟨h, l, m, rfl, hD, hm, kQ⟩ := h
  refine ⟨_, rfl, _, rfl, by omega, by omega, fun D nD => ?_⟩
  have nDh : D ≠ h ∧ D ≠ l := by
    obtain ⟨_, _, _, d1, d2, _⟩ := hD
    exact ⟨(ne_of_none d1 nD).symm, (ne_of_none d2 nD).symm⟩
  obtain ⟨nDh, nDl⟩ := nDh
  refine lc_range (lo := 0) (n := (m : Int).toNat) (fun i H2 => Kq [h, l] H H2 ∧ DrAt H2 h l ∧ ∃ ws : List Ln, ws.length = i ∧ (∀ w ∈ ws, Word w) ∧ H2 D = some (.lst (rowsV ws))) ⟨(Kq.alloc nD), hD.kq (Kq.alloc nD), [], rfl, by simp, upd_same⟩ ?_ ?_
  · rintro j H2 hj ⟨kj, hDj, ws, hwl, hws, hDD⟩
    refine ⟨rfl, ?_⟩
    unfold tYes
    dsimp only
    rw [if_pos rfl]
    refine ⟨⟨_, rfl⟩, _, rfl, h, l, 6, rfl, hDj, by decide, by decide, fun r H3 hr k3 hD3 => ?_⟩
    refine ⟨_, _, rfl, rfl, _, rfl, by omega, by omega, fun D2 nD2 => ?_⟩
    have g3 : H3 D = some (.lst (rowsV ws)) := k3.q.gets hDD (by simp [nDh, nDl])
    have nn : D2 ≠ h ∧ D2 ≠ l ∧ D2 ≠ D := by
      obtain ⟨_, _, _, d1, d2, _⟩ := hD3
      exact ⟨(ne_of_none d1 nD2).symm, (ne_of_none d2 nD2).symm, (ne_of_none g3 nD2).symm⟩
    obtain ⟨n2h, n2l, n2D⟩ := nn
    refine lc_range (lo := 0) (n := (1 + (r : Int)).toNat) (vs := [3]) (σ := [some (.ref h), some (.int m), some (.int (0 + (j : Int))), none]) (g := gName 3) (tt := tYes) (te := tOp rIxS (tC (V.str (Str.ofString "abcxyz"))) (tCF (sp_next K) E0 (tCons (tVar 0) (tCons (tC (V.int 6)) tNil)))) (Qd := fun H2 => ∃ a p, ∃ ys : List Str, V.str (Str.ofString "") = V.str a ∧ [V.ref D2] = [V.ref p] ∧ (SqL K H2 p (ys.map V.str) ∨ SqT K H2 p (ys.map V.str)) ∧ (ys.map (·.length)).sum + ys.length * a.length ≤ 16777216 ∧ ∃ acc, H2 D = some (.lst acc) ∧ acc.length < sizeLine ∧ Kq [h, l] H (upd H2 D (.lst (acc ++ [.str (Txt.join a ys)]))) ∧ DrAt (upd H2 D (.lst (acc ++ [.str (Txt.join a ys)]))) h l ∧ ∃ ws : List Ln, ws.length = j + 1 ∧ (∀ w ∈ ws, Word w) ∧ upd H2 D (.lst (acc ++ [.str (Txt.join a ys)])) D = some (.lst (rowsV ws))) (fun i H4 => Kq [h, l] H3 H4 ∧ DrAt H4 h l ∧ ∃ cs : Ln, cs.length = i ∧ (∀ c ∈ cs, isLet c = true) ∧ H4 D2 = some (.lst (cs.map fun c => .str (S [c])))) ⟨(Kq.alloc nD2), hD3.kq (Kq.alloc nD2), [], rfl, by simp, upd_same⟩ ?_ ?_
    · rintro i H4 hi ⟨ki, hDi, cs, hcl, hcs, hDD2⟩
      refine ⟨rfl, ?_⟩
      unfold tYes
      dsimp only
      rw [if_pos rfl]
      refine ⟨_, rfl, h, l, 6, rfl, hDi, by decide, by decide, fun r2 H5 hr2 k5 hD5 => ?_⟩
      have h1 : r2 < abcS.cps.toList.length := by rw [abc_ok.1]; exact hr2
      refine ⟨abcS, _, _, rfl, rfl, line16 (by decide +kernel), cps_at rfl (List.getElem?_eq_getElem h1), ?_⟩
      have hc := abc_ok.2.1 _ (List.getElem_mem h1)
      generalize abcS.cps.toList[r2] = c at hc ⊢
      have g : H5 D2 = some (.lst (cs.map fun c => .str (S [c]))) := k5.q.gets hDD2 (by simp [n2h, n2l])
      refine ⟨_, g, ?_, (ki.trans k5.q).writeF nD2 g, hD5.upd n2h n2l, cs ++ [c], by simp [hcl], fun d hd => ?_, ?_⟩
      · rw [List.length_map]; exact small1000 (by omega)
      · rcases List.mem_append.mp hd with z | z
        · exact hcs d z
        · rw [List.mem_singleton.mp z]; exact hc
      · rw [upd_same, List.map_append]; rfl
    · rintro H4 ⟨ki, hDi, cs, hcl, hcs, hDD2⟩
      refine ⟨Str.ofString "", D2, cs.map fun c => S [c], rfl, rfl, .inl (SqL.of (by rw [List.map_map]; exact hDD2)), ?_, ?_⟩
      · rw [signs_len, List.length_map, empty_eq, S_len]; simp; omega
      rw [join_signs]
      have kk : Kq [h, l] H2 H4 := k3.q.trans ki
      have g4 : H4 D = some (.lst (rowsV ws)) := ki.gets g3 (by simp [nDh, nDl])
      refine ⟨_, g4, small1000 (by rw [rowsV_len]; omega), (kj.trans kk).writeF nD g4, hDi.upd nDh nDl, ws ++ [cs], by simp [hwl], fun w hw => ?_, ?_⟩
      · rcases List.mem_append.mp hw with z | z
        · exact hws w z
        · rw [List.mem_singleton.mp z]; exact ⟨by omega, by omega, hcs⟩
      · rw [upd_same, ← rowsV_app]; rfl
  · rintro H2 ⟨kj, hDj, ws, hwl, hws, hDD⟩
    exact kQ ws D H2 (by omega) hws nD hDD ⟨kj, hD.wr, hDj.wr⟩ hDj
end
end KT
set_option Elab.async false
set_option linter.all false
set_option maxRecDepth 100000
set_option maxHeartbeats 4000000
namespace KT
open PySem PySem.Spec PyProof.Rows L2 GxR
theorem runK_single (ed : EdSt) {ky : Ky} (h : ky.single = true) : ∃ st, runK ed ky = .fin (ed.page.does ky).isSome st ∧ st.page = (ed.page.does ky).getD ed.page := by
  unfold runK
  rw [doK_eq]
  have ha : addT ⟨ed.page, [], 0⟩ = some ⟨ed.page, [], 1⟩ := rfl
  rw [ha]
  have hp : ∀ st, playR ed.tapes (under ed.tapes 20) ky st = singleR ky st := fun st => by cases ky <;> first | rfl | cases h
  show ∃ st, playR ed.tapes (under ed.tapes 20) ky ⟨ed.page, [], 1⟩ = _ ∧ _
  rw [hp]
  unfold singleR
  cases hd : ed.page.does ky with
  | none => exact ⟨_, rfl, rfl⟩
  | some g => exact ⟨_, rfl, rfl⟩
def sp_Editor (K : PySem.W.Frag) : Sp := fun vs H Q E => ∃ ls, vs = [.str (textS ls)] ∧ ls ≠ [] ∧ goodB ls = true ∧ TabG H (tS K) ∧ ∀ m H', (∀ b ∈ m.l, H b = none) → Kq [] H H' → EdAt K H' m (EdSt.new ls) → Q (.ref m.e) H'
theorem good_parts {ls : List Ln} (hg : goodB ls = true) : ls.length ≤ 12 ∧ (∀ l ∈ ls, l.length ≤ 60) ∧ ∀ l ∈ ls, 10 ∉ l := by
  unfold goodB at hg
  simp only [Bool.and_eq_true, decide_eq_true_eq, List.all_eq_true] at hg
  have hrow : ∀ l ∈ ls, l.length ≤ 60 ∧ l.all signB = true := fun l hl => by
    have := hg.2 l hl
    unfold goodRow at this
    simp only [Bool.and_eq_true, decide_eq_true_eq] at this
    exact this
  exact ⟨hg.1, fun l hl => (hrow l hl).1, fun l hl => good_no10 (hrow l hl).2⟩
section
variable {P : Program} {w : World} {K : PySem.W.Frag} {mg : Str → Option Value} {base : Heap}
theorem new_Editor {E : XK} : ∀ vs H Q, sp_Editor K vs H Q E → ∀ x dx, H x = none → H dx = none → dx ≠ x →
    sp_Editor___init__ K (.ref x :: vs) (upd (upd H dx (.own x)) x (.ins (He.ga K "Editor") dx [])) (fun v H2 => v = .non ∧ Q (.ref x) H2) E := by
  rintro vs H Q ⟨ls, rfl, hne, hg, hT, k⟩ x dx nx ndx ne
  obtain ⟨h12, h60, h10⟩ := good_parts hg
  have k0 : Kq [] H (upd (upd H dx (.own x)) x (.ins (He.ga K "Editor") dx [])) := Kq.made nx ndx ne
  refine ⟨x, dx, ls, rfl, upd_same, hne, h10, fun l hl => Nat.le_trans (h60 l hl) (by decide), Nat.le_trans h12 (by decide), k0.tab _ hT, fun _ t pr un ud H' n1 n2 n3 n4 kq hE => ⟨rfl, k ⟨x, t, pr, un, ud⟩ H' ?_ (k0.fresh kq fun c hc => by rw [List.mem_singleton.mp hc]; exact nx) hE⟩, fun e => by rw [hg] at e; cases e⟩
  intro b hb
  simp only [EdM.l, List.mem_cons, List.not_mem_nil, or_false] at hb
  rcases hb with rfl | rfl | rfl | rfl | rfl
  · exact nx
  · exact k0.fr _ n1
  · exact k0.fr _ n2
  · exact k0.fr _ n3
  · exact k0.fr _ n4
/-- no address in both -/
def Dj (A B : List Addr) : Prop := ∀ a ∈ A, a ∉ B
theorem Dj.fresh {A B : List Addr} {H : Hp} (h : ∀ a ∈ A, H a = none) (hb : ∀ b ∈ B, H b ≠ none) : Dj A B := fun a ha hb' => hb a hb' (h a ha)
theorem Dj.step {A A' B : List Addr} {H : Hp} (d : Dj A B) (h : ∀ a ∈ A', a ∈ A ∨ H a = none) (hb : ∀ b ∈ B, H b ≠ none) : Dj A' B := fun a ha hb' => by
  rcases h a ha with z | z
  · exact d a z hb'
  · exact hb a hb' z
theorem Dj.symm {A B : List Addr} (d : Dj A B) : Dj B A := fun a ha hb => d a hb ha
theorem DrAt.some {H : Hp} {h l : Addr} (d : DrAt H h l) : ∀ b ∈ [h, l], H b ≠ none := fun b hb => by
  obtain ⟨o, e, _⟩ := d.wr b hb
  rw [e]; simp
theorem EdAt.some {K : PySem.W.Frag} {H : Hp} {m : EdM} {ed : EdSt} (h : EdAt K H m ed) : ∀ b ∈ m.l, H b ≠ none := fun b hb => by
  obtain ⟨o, e, _⟩ := h.wr b hb
  rw [e]; simp
def sp_law (K : PySem.W.Frag) : Sp := fun vs H Q _ => ∃ (a : Addr) (ns : List Int), vs = [.ref a] ∧ SqL K H a (ns.map V.int) ∧ TabG H (tS K) ∧ ∀ H', Q (.bl true) H'
end
end KT
set_option Elab.async false
set_option linter.all false
set_option maxRecDepth 100000
set_option maxHeartbeats 4000000
namespace KT
open PySem PySem.Spec PyProof.Rows L2 GxR
/-- rows of two words -/
def zipW (a b : List Ln) : List Ln := List.zipWith (fun x y => x ++ 32 :: y) a b
theorem zipW_len {a b : List Ln} {m : Nat} (ha : a.length = m) (hb : b.length = m) : (zipW a b).length = m := by
  unfold zipW; rw [List.length_zipWith, ha, hb, Nat.min_self]
theorem zipW_at {a b : List Ln} {i : Nat} (ha : i < a.length) (hb : i < b.length) : (zipW a b).take (i + 1) = (zipW a b).take i ++ [a[i] ++ 32 :: b[i]] := by
  have hl : i < (zipW a b).length := by unfold zipW; rw [List.length_zipWith]; omega
  rw [List.take_succ_eq_append_getElem hl]
  congr 2
  exact List.getElem_zipWith
theorem zipW_mem {a b : List Ln} {l : Ln} (h : l ∈ zipW a b) : ∃ w ∈ a, ∃ v ∈ b, l = w ++ 32 :: v := by
  unfold zipW at h
  rw [List.mem_iff_getElem] at h
  obtain ⟨i, hi, e⟩ := h
  rw [List.getElem_zipWith] at e
  exact ⟨_, List.getElem_mem _, _, List.getElem_mem _, e.symm⟩
theorem sp_eq : Str.ofString " " = S [32] := by decide +kernel
theorem bang_eq : Str.ofString "!" = S [33] := by decide +kernel
theorem repl_nl {ls : List Ln} (h : ls ≠ []) (h10 : ∀ l ∈ ls, 10 ∉ l) : Txt.replace (textS ls) (Str.ofString "\n") (Str.ofString "") = textS [ls.flatten] := by
  have e : (Str.ofString "\n") = ⟨#[10]⟩ := nl_eq
  have e2 := textS_split h h10
  rw [nl_eq] at e2
  rw [e, StrLaws.replace_one, e2, empty_eq, ← TL.join_eq]
  refine TL.ext_tl ?_
  unfold textS
  rw [TL.join_eq, TL.join_eq, TL.tl_join, TL.tl_join, S_tls, S_tls]
  show TL.joinL [] ls = ls.flatten
  clear h h10 e2
  induction ls with
  | nil => rfl
  | cons a r ih =>
    cases r with
    | nil => simp [TL.joinL]
    | cons b r =>
      show a ++ ([] ++ TL.joinL [] (b :: r)) = _
      rw [ih]; simp
theorem zip_turn : ∀ (a b : List Ln), (∀ w ∈ a, Word w) → (zipW a b).map turnL = zipW b a
  | [], b, _ => by cases b <;> rfl
  | _ :: _, [], _ => rfl
  | w :: a, v :: b, h => by
    show turnL (w ++ 32 :: v) :: (zipW a b).map turnL = (v ++ 32 :: w) :: zipW b a
    rw [turnL_words (h w (by simp)).2.2, zip_turn a b fun x hx => h x (List.mem_cons_of_mem _ hx)]
theorem flat_len {B : Nat} : ∀ ls : List Ln, (∀ l ∈ ls, l.length ≤ B) → ls.flatten.length ≤ ls.length * B
  | [], _ => by simp
  | a :: r, h => by
    have h1 := h a (by simp)
    have h2 := flat_len r fun x hx => h x (List.mem_cons_of_mem _ hx)
    rw [List.flatten_cons, List.length_append, List.length_cons, Nat.succ_mul]; omega
theorem text_inj {a b : List Ln} (ha : a ≠ []) (hb : b ≠ []) (h1 : ∀ l ∈ a, 10 ∉ l) (h2 : ∀ l ∈ b, 10 ∉ l) (e : textS a = textS b) : a = b := by
  have e1 := textS_split ha h1
  rw [e, textS_split hb h2] at e1
  have := congrArg (List.map TL.tl) e1
  rw [S_tls, S_tls] at this
  exact this.symm
theorem edF_no_press (p t : Addr) (r : V) (pr un ud : Addr) : (edF p t r pr un ud).lookup ("press" : Str) = none := by kernel_rfl
theorem edF_no_text (p t : Addr) (r : V) (pr un ud : Addr) : (edF p t r pr un ud).lookup ("text" : Str) = none := by kernel_rfl
theorem edF_no_back (p t : Addr) (r : V) (pr un ud : Addr) : (edF p t r pr un ud).lookup ("back" : Str) = none := by kernel_rfl
theorem edF_no_place (p t : Addr) (r : V) (pr un ud : Addr) : (edF p t r pr un ud).lookup ("place" : Str) = none := by kernel_rfl
theorem shaped00 : SeqAt.shaped (.tuple [.int 0, .int 0]) = true := by
  unfold SeqAt.shaped
  simp [PyData.canLay0, PyData.canLayAll0, PyData.depth, PyData.depthAll]
theorem eqv00 : PyData.eqv (.tuple [.int 0, .int 0]) (.tuple [.int 0, .int 0]) = true := by simp [PyData.eqv, PyData.eqvAll]
theorem edF_no_tape (p t : Addr) (r : V) (pr un ud : Addr) : (edF p t r pr un ud).lookup ("tape" : Str) = none := by kernel_rfl
theorem KeysAt.app {K : PySem.W.Frag} {H : Hp} {as bs : List Addr} {ks ls : List Ky} (h : KeysAt K H as ks) (h' : KeysAt K H bs ls) : KeysAt K H (as ++ bs) (ks ++ ls) := by
  induction h with
  | nil => exact h'
  | cons h _ ih => exact .cons h ih
def hashS : Str := Str.ofString "#*->"
theorem hash_ok : hashS.cps.toList.length = 4 ∧ (∀ c ∈ hashS.cps.toList, okSign c) ∧ hashS.length = 4 := by decide +kernel
theorem rowsV_at {ls : List Ln} {i : Nat} (h : i < ls.length) : (rowsV ls)[i]? = some (.str (S ls[i])) := by
  unfold rowsV
  rw [List.getElem?_map, List.getElem?_eq_getElem h]; rfl
theorem rk1 {K : PySem.W.Frag} {z : Str} {ky : Ky} {σ : L2.St} {H : Hp} {Q : V → Hp → Prop} (hk : keyV ky = [.str z]) (h : ∀ a H', Kq [] H H' → KeyAt K H' a ky → Q (.ref a) H') : tTup (tCons (tC (.str z)) tNil) σ H Q :=
  ⟨line16 (by show 1 ≤ 1000000; decide), fun q nq => h q _ (Kq.alloc nq) (by unfold KeyAt; rw [hk]; exact SqT.of upd_same)⟩
theorem rk2 {K : PySem.W.Frag} {y z : Str} {ky : Ky} {σ : L2.St} {H : Hp} {Q : V → Hp → Prop} (hk : keyV ky = [.str y, .str z]) (h : ∀ a H', Kq [] H H' → KeyAt K H' a ky → Q (.ref a) H') : tTup (tCons (tC (.str y)) (tCons (tC (.str z)) tNil)) σ H Q :=
  ⟨line16 (by show 2 ≤ 1000000; decide), fun q nq => h q _ (Kq.alloc nq) (by unfold KeyAt; rw [hk]; exact SqT.of upd_same)⟩
theorem rk2v {K : PySem.W.Frag} {y z : Str} {i : Nat} {ky : Ky} {σ : L2.St} {H : Hp} {Q : V → Hp → Prop} (hk : keyV ky = [.str y, .str z]) (hi : σ[i]? = some (some (.str z))) (h : ∀ a H', Kq [] H H' → KeyAt K H' a ky → Q (.ref a) H') : tTup (tCons (tC (.str y)) (tCons (tVar i) tNil)) σ H Q :=
  ⟨_, hi, line16 (by show 2 ≤ 1000000; decide), fun q nq => h q _ (Kq.alloc nq) (by unfold KeyAt; rw [hk]; exact SqT.of upd_same)⟩
section
variable {P : Program} {w : World} {K : PySem.W.Frag} {mg : Str → Option Value} {base : Heap}
theorem sc_law : FnScope ["_law_script", "_law_k", "_law_row", "_law_h", "_law_case", "_law_many", "_law_ones", "_law_others", "_law_text", "_law_sign", "_law_cases", "_law_turned", "_law_turn", "_law_tape", "_law_due", "_law_name", "_law_editor"] ["_law_script"] (defScope s_law) := ⟨rfl, rfl, rfl, by decide +kernel, rfl, by decide +kernel, by decide +kernel⟩
theorem ok_law (T : Tx w K mg) (B : TabB base mg (cS K) (tS K)) : Fk P w K mg base 71 (Ad K d_law.at_) ["_law_script"] (sp_law K) := by
  have F_Editor___init__ := ok_Editor___init__ (P := P) (base := base) T B
  have F_Editor_back := ok_Editor_back (P := P) (base := base) T
  have F_Editor_place := ok_Editor_place (P := P) (base := base) T
  have F_Editor_press := ok_Editor_press (P := P) (base := base) T B
  have F_Editor_tape := ok_Editor_tape (P := P) (base := base) T B
  have F_Editor_text := ok_Editor_text (P := P) (base := base) T
  have F__law_alike := ok_alike (P := P) (base := base) T 1
  have F__law_mix := ok__law_mix (P := P) (base := base) T
  have F__law_next := ok__law_next (P := P) (base := base) T
  have F__law_words := ok__law_words (P := P) (base := base) T
  refine mkF T.f_law sc_law rfl (fun _ _ _ _ _ _ us hl => match us, hl with | [_], _ => rfl) (fun vs H Q E h => by obtain ⟨_, _, rfl, _⟩ := h; rfl) (fun cdv A outer s H vs Q E hcd hcode hr h => ?_)
  have po : PassesOwn (model P w) (CxD P w K mg base ["_law_script", "_law_k", "_law_row", "_law_h", "_law_case", "_law_many", "_law_ones", "_law_others", "_law_text", "_law_sign", "_law_cases", "_law_turned", "_law_turn", "_law_tape", "_law_due", "_law_name", "_law_editor"] d_law cdv A outer s H E).A (CxD P w K mg base ["_law_script", "_law_k", "_law_row", "_law_h", "_law_case", "_law_many", "_law_ones", "_law_others", "_law_text", "_law_sign", "_law_cases", "_law_turned", "_law_turn", "_law_tape", "_law_due", "_law_name", "_law_editor"] d_law cdv A outer s H E).env (CxD P w K mg base ["_law_script", "_law_k", "_law_row", "_law_h", "_law_case", "_law_many", "_law_ones", "_law_others", "_law_text", "_law_sign", "_law_cases", "_law_turned", "_law_turn", "_law_tape", "_law_due", "_law_name", "_law_editor"] d_law cdv A outer s H E).xe := passes_of rfl
  refine ⟨_, (pss_cons (ps_asg (pe_cF F__law_mix (hr.mono (by decide)) T.g__law_mix px (pa_cons (pv 0) (pa_cons pe_int pa_nil))) (pg_name (i := 3) sc_law.nd rfl (.inl rfl)))
      (pss_cons (ps_asg (pe_cF F__law_next (hr.mono (by decide)) T.g__law_next px (pa_cons (pv 3) (pa_cons pe_int pa_nil))) (pg_name (i := 4) sc_law.nd rfl (.inl rfl)))
      (pss_cons (ps_asg (pe_op op_add pe_int (pe_cF F__law_next (hr.mono (by decide)) T.g__law_next px (pa_cons (pv 3) (pa_cons (pe_ix ix_list (pe_lst (pa_cons pe_int (pa_cons pe_int (pa_cons pe_int pa_nil)))) (pv 4) (fun _ _ => rfl)) pa_nil)))) (pg_name (i := 5) sc_law.nd rfl (.inl rfl)))
      (pss_cons (ps_asg (pe_tup (pa_cons (pe_cF F__law_words (hr.mono (by decide)) T.g__law_words px (pa_cons (pv 3) (pa_cons (pv 5) pa_nil))) (pa_cons (pe_cF F__law_words (hr.mono (by decide)) T.g__law_words px (pa_cons (pv 3) (pa_cons (pv 5) pa_nil))) pa_nil))) (pg_tup rfl (pgs_cons (pg_name (i := 6) sc_law.nd rfl (.inr rfl)) (pgs_cons (pg_name (i := 7) sc_law.nd rfl (.inr rfl)) pgs_nil))))
      (pss_cons (ps_asg (pe_join pe_str (pe_lc (own := [("_law_k", 1)]) (by rfl) sc_law.nd (pi_range1 (by rfl) T.n_range (pa_cons (pv 5) pa_nil)) (blkOk_by (own := [("_law_k", 1)]) (N := ["_law_script", "_law_k", "_law_row", "_law_h", "_law_case", "_law_many", "_law_ones", "_law_others", "_law_text", "_law_sign", "_law_cases", "_law_turned", "_law_turn", "_law_tape", "_law_due", "_law_name", "_law_editor"]) (sc := defScope s_law) (by decide +kernel)) (fun _ _ _ _ _ => (pg_name (i := 1) sc_law.nd rfl (.inl rfl))) (fun _ _ _ _ _ => pts_nil) (fun _ _ _ _ _ => (pe_op op_add_str (pe_op op_add_str (pe_ix (ix_listB (K := K) rfl) (pv 6) (pv 1) (fun _ _ => rfl)) pe_str) (pe_ix (ix_listB (K := K) rfl) (pv 7) (pv 1) (fun _ _ => rfl)))))) (pg_name (i := 8) sc_law.nd rfl (.inl rfl)))
      (pss_cons (ps_asg (pe_ix ix_str pe_str (pe_cF F__law_next (hr.mono (by decide)) T.g__law_next px (pa_cons (pv 3) (pa_cons pe_int pa_nil))) (fun _ _ => rfl)) (pg_name (i := 9) sc_law.nd rfl (.inr rfl)))
      (pss_cons (ps_asg (pe_lst (pa_cons (pe_tup (pa_cons (pe_tup (pa_cons (pe_tup (pa_cons pe_str pa_nil)) (pa_cons (pe_tup (pa_cons pe_str (pa_cons (pv 9) pa_nil))) (pa_cons (pe_tup (pa_cons pe_str pa_nil)) pa_nil)))) (pa_cons (pe_join pe_str (pe_lc (own := [("_law_row", 2)]) (by rfl) sc_law.nd (pi_list (pe_split (pv 8) pe_str)) (blkOk_by (own := [("_law_row", 2)]) (N := ["_law_script", "_law_k", "_law_row", "_law_h", "_law_case", "_law_many", "_law_ones", "_law_others", "_law_text", "_law_sign", "_law_cases", "_law_turned", "_law_turn", "_law_tape", "_law_due", "_law_name", "_law_editor"]) (sc := defScope s_law) (by decide +kernel)) (fun _ _ _ _ _ => (pg_name (i := 2) sc_law.nd rfl (.inl rfl))) (fun _ _ _ _ _ => pts_nil) (fun _ _ _ _ _ => (pe_op op_add_str (pv 9) (pv 2))))) pa_nil))) pa_nil)) (pg_name (i := 10) sc_law.nd rfl (.inl rfl)))
      (pss_cons (ps_asg (pe_join pe_str (pe_lc (own := [("_law_k", 1)]) (by rfl) sc_law.nd (pi_range1 (by rfl) T.n_range (pa_cons (pv 5) pa_nil)) (blkOk_by (own := [("_law_k", 1)]) (N := ["_law_script", "_law_k", "_law_row", "_law_h", "_law_case", "_law_many", "_law_ones", "_law_others", "_law_text", "_law_sign", "_law_cases", "_law_turned", "_law_turn", "_law_tape", "_law_due", "_law_name", "_law_editor"]) (sc := defScope s_law) (by decide +kernel)) (fun _ _ _ _ _ => (pg_name (i := 1) sc_law.nd rfl (.inl rfl))) (fun _ _ _ _ _ => pts_nil) (fun _ _ _ _ _ => (pe_op op_add_str (pe_op op_add_str (pe_ix (ix_listB (K := K) rfl) (pv 7) (pv 1) (fun _ _ => rfl)) pe_str) (pe_ix (ix_listB (K := K) rfl) (pv 6) (pv 1) (fun _ _ => rfl)))))) (pg_name (i := 11) sc_law.nd rfl (.inl rfl)))
      (pss_cons (ps_asg (pe_tup (pa_cons (pe_tup (pa_cons pe_str pa_nil)) (pa_cons (pe_tup (pa_cons pe_str pa_nil)) (pa_cons (pe_tup (pa_cons pe_str (pa_cons pe_str pa_nil))) (pa_cons (pe_tup (pa_cons pe_str pa_nil)) (pa_cons (pe_tup (pa_cons pe_str (pa_cons pe_str pa_nil))) (pa_cons (pe_tup (pa_cons pe_str pa_nil)) (pa_cons (pe_tup (pa_cons pe_str pa_nil)) (pa_cons (pe_tup (pa_cons pe_str pa_nil)) (pa_cons (pe_tup (pa_cons pe_str pa_nil)) pa_nil)))))))))) (pg_name (i := 12) sc_law.nd rfl (.inl rfl)))
      (pss_cons (ps_expr (pe_bm PySem.F.plainAttrs_list PySem.F.slot_list_append PySem.F.type_list_append mt_append (pv 10) (pa_cons (pe_tup (pa_cons (pe_op op_catU (pv 12) (pe_tup (pa_cons (pe_tup (pa_cons pe_str pa_nil)) (pa_cons (pe_tup (pa_cons pe_str pa_nil)) (pa_cons (pe_tup (pa_cons pe_str pa_nil)) pa_nil))))) (pa_cons (pv 11) pa_nil))) pa_nil)))
      (pss_cons (ps_expr (pe_bm PySem.F.plainAttrs_list PySem.F.slot_list_append PySem.F.type_list_append mt_append (pv 10) (pa_cons (pe_tup (pa_consU (peu_tup (pau_cons (peu_tup (pau_cons peu_str pa_nil)) (pa_cons (pe_tup (pa_cons pe_str pa_nil)) (pa_cons (pe_tup (pa_cons pe_str pa_nil)) (pa_cons (pe_tup (pa_cons pe_str pa_nil)) pa_nil))))) (pat_cons (CwR.pet_replC (pv 8)) pat_nil))) pa_nil)))
      (pss_cons (ps_asg (pe_ix ix_list (pv 10) (pv 4) (fun _ _ => rfl)) (pg_tup rfl (pgs_cons (pg_name (i := 13) sc_law.nd rfl (.inl rfl)) (pgs_cons (pg_name (i := 14) sc_law.nd rfl (.inl rfl)) pgs_nil))))
      (pss_cons (ps_for po rfl (pi_str pe_str) (pg_name (i := 15) sc_law.nd rfl (.inl rfl)) (pss_cons (ps_asg (pe_kF (spN := sp_Editor K) T.k_Editor F_Editor___init__ (hr.mono (by decide)) T.g_Editor px new_Editor (pa_cons (pv 8) pa_nil)) (pg_name (i := 16) sc_law.nd rfl (.inl rfl)))
      (pss_cons (ps_expr (pe_mF _ (pv 16) T.c_Editor T.m_Editor_tape F_Editor_tape (hr.mono (by decide)) px (pa_cons (pv 15) (pa_cons (pv 13) pa_nil))))
      (pss_cons (ps_if ((pw_or (pt_cmpR op_isnot_bl (pe_mF _ (pv 16) T.c_Editor T.m_Editor_press F_Editor_press (hr.mono (by decide)) px (pa_cons (pe_tup (pa_cons pe_str (pa_cons (pv 15) pa_nil))) pa_nil)) pe_bl (nomark _)) (pw_or1 (pt_not (pt_val (pe_cF F__law_alike (hr.mono (by decide)) T.g__law_alike px (pa_cons (pe_mF0 _ (pv 16) T.c_Editor T.m_Editor_text F_Editor_text (hr.mono (by decide)) px) (pa_cons (pv 14) pa_nil)))))))).pt (pss_one (ps_ret pe_bl)) pss_nil)
      (pss_cons (ps_if ((pw_or (pt_not (pt_val (pe_cF F__law_alike (hr.mono (by decide)) T.g__law_alike px (pa_cons (pe_mF0 _ (pv 16) T.c_Editor T.m_Editor_back F_Editor_back (hr.mono (by decide)) px) (pa_cons (pe_cmpR op_ne (pv 8) (pv 14) (nomark _)) pa_nil))))) (pw_or1 (pt_cmpR op_ne (pe_mF0 _ (pv 16) T.c_Editor T.m_Editor_text F_Editor_text (hr.mono (by decide)) px) (pv 8) (nomark _))))).pt (pss_one (ps_ret pe_bl)) pss_nil)
      (pss_one (ps_if ((pw_and (pt_cmpR op_ne (pv 8) (pv 14) (nomark _)) (pw_and1 (pt_cmpR (op_neD hr.units) (pe_mF0 _ (pv 16) T.c_Editor T.m_Editor_place F_Editor_place (hr.mono (by decide)) px) (pe_tup (pa_cons pe_int (pa_cons pe_int pa_nil))) (nomark _))))).pt (pss_one (ps_ret pe_bl)) pss_nil)))))))
      (pss_one (ps_ret pe_bl))))))))))))))), ?_⟩
  obtain ⟨a, ns, rfl, ha, hT, kQ⟩ := h
  refine ⟨_, rfl, a, ns, 37, rfl, ha, fun h l H1 nh nll k1 hD => ?_⟩
  refine ⟨_, rfl, h, l, 3, rfl, hD, by decide, by decide, fun c H2 hc k2 hD2 => ?_⟩
  have hT2 := k2.q.tab _ (k1.tab _ hT)
  refine ⟨_, rfl, line16 (by show 3 ≤ 1000000; decide), fun p np => ?_⟩
  have k3 : Kq [] H2 (upd H2 p (.lst [.int 11, .int 11, .int 4])) := Kq.alloc np
  have hX : ∃ X : Nat, ([.int 11, .int 11, .int 4] : List V)[c]? = some (.int X) ∧ 1 ≤ X ∧ X ≤ 11 ∧ (c = 2 → X ≤ 4) := match c, hc with
    | 0, _ => ⟨11, rfl, by decide, by decide, by decide⟩
    | 1, _ => ⟨11, rfl, by decide, by decide, by decide⟩
    | 2, _ => ⟨4, rfl, by decide, by decide, by decide⟩
  obtain ⟨X, eX, X1, X11, X4⟩ := hX
  refine ⟨_, rfl, p, _, _, .int X, rfl, rfl, SqL.of upd_same, at_of rfl eX, h, l, X, rfl, hD2.kq k3, X1, by omega, fun r H3 hr k4 hD3 => ?_⟩
  refine ⟨_, _, rfl, rfl, ?_⟩
  have hT3 := k4.q.tab _ (k3.tab _ hT2)
  have em : V.int ((1 : Int) + (r : Int)) = .int ((r + 1 : Nat) : Int) := by congr 1; omega
  refine ⟨_, rfl, _, rfl, h, l, r + 1, congrArg (fun v => [V.ref h, v]) em, hD3, by omega, fun ws D1 H4 hlws hwws nD1 hD1 k5 hD4 => ?_⟩
  refine ⟨_, rfl, _, rfl, h, l, r + 1, congrArg (fun v => [V.ref h, v]) em, hD4, by omega, fun vs D2 H5 hlvs hwvs nD2 hD2 k6 hD5 => ⟨line16 (by show 2 ≤ 1000000; decide), fun q nq => ⟨q, _, rfl, SqT.of upd_same, rfl, _, _, rfl, _, _, rfl, rfl, ?_⟩⟩⟩
  have kq6 : Kq [] H5 (upd H5 q (.tup [.ref D1, .ref D2])) := Kq.alloc nq
  have nn1 : D1 ≠ h ∧ D1 ≠ l := by obtain ⟨_, _, _, d1, d2, _⟩ := hD3; exact ⟨(ne_of_none d1 nD1).symm, (ne_of_none d2 nD1).symm⟩
  have nn2 : D2 ≠ h ∧ D2 ≠ l := by obtain ⟨_, _, _, d1, d2, _⟩ := hD4; exact ⟨(ne_of_none d1 nD2).symm, (ne_of_none d2 nD2).symm⟩
  have gD1 := kq6.get (k6.q.gets hD1 (by simp [nn1]))
  have gD2 := kq6.get hD2
  have hT6 := kq6.tab _ (k6.q.tab _ (k5.q.tab _ hT3))
  have hD6 := hD5.kq kq6
  generalize (upd H5 q (.tup [.ref D1, .ref D2])) = H6 at gD1 gD2 hT6 hD6 ⊢
  have lenW : ∀ w : Ln, Word w → w.length ≤ 6 := fun w hw => hw.2.1
  have lenZ : ∀ a b : List Ln, (∀ w ∈ a, Word w) → (∀ w ∈ b, Word w) → ∀ x ∈ zipW a b, x.length ≤ 13 := fun a b ha hb x hx => by
    obtain ⟨w, hw, v, hv, rfl⟩ := zipW_mem hx
    have h1 := lenW _ (ha w hw)
    have h2 := lenW _ (hb v hv)
    rw [List.length_append, List.length_cons]; omega
  have sumW : ∀ (B : Nat) (ls : List Ln), (∀ x ∈ ls, x.length ≤ B) → ((ls.map S).map (·.length)).sum ≤ ls.length * B := fun B ls => by
    induction ls with
    | nil => intro _; simp
    | cons a b ih =>
      intro hh
      have h2 := ih fun x hx => hh x (List.mem_cons_of_mem _ hx)
      have h1 := hh a List.mem_cons_self
      simp only [List.map_cons, List.sum_cons, List.length_cons, S_len, Nat.succ_mul]
      omega
  refine ⟨⟨_, rfl⟩, _, rfl, _, rfl, by omega, by omega, fun D3 nD3 => ?_⟩
  have neD3 : D3 ≠ D1 ∧ D3 ≠ D2 := ⟨(ne_of_none gD1 nD3).symm, (ne_of_none gD2 nD3).symm⟩
  refine lc_range (lo := 0) (n := (1 + (r : Int)).toNat) (vs := [1]) (fun i H' => Kq [] H6 H' ∧ H' D3 = some (.lst (rowsV ((zipW ws vs).take i)))) ⟨Kq.alloc nD3, upd_same⟩ ?_ ?_
  · rintro i H' hi ⟨kq, hDD⟩
    refine ⟨rfl, ?_⟩
    unfold tYes
    dsimp only
    rw [if_pos rfl]
    have hia : i < ws.length := by omega
    have hib : i < vs.length := by omega
    refine ⟨_, rfl, _, rfl, D1, _, _, .str (S ws[i]), rfl, rfl, SqL.of (kq.get gD1), at_of (j := i) (by omega) (rowsV_at hia), _, _, rfl, rfl, line16 ?_, _, rfl, _, rfl, D2, _, _, .str (S vs[i]), rfl, rfl, SqL.of (kq.get gD2), at_of (j := i) (by omega) (rowsV_at hib), _, _, rfl, rfl, line16 ?_, ?_⟩
    · have := lenW _ (hwws _ (List.getElem_mem hia))
      rw [sp_eq]; simp only [S_len, List.length_cons, List.length_nil]; omega
    · have h1 := lenW _ (hwws _ (List.getElem_mem hia))
      have h2 := lenW _ (hwvs _ (List.getElem_mem hib))
      rw [sp_eq, S_app]; simp only [S_len, List.length_append, List.length_cons, List.length_nil]; omega
    rw [sp_eq, S_app, S_app, List.append_assoc]
    refine ⟨_, hDD, line16 ?_, kq.writeF nD3 hDD, ?_⟩
    · rw [rowsV_len, List.length_take]; omega
    · rw [upd_same, zipW_at hia hib, ← rowsV_app]; rfl
  rintro H7 ⟨k7, gD3⟩
  have tkD3 : (zipW ws vs).take (1 + (r : Int)).toNat = zipW ws vs := List.take_of_length_le (by rw [zipW_len hlws hlvs]; omega)
  rw [tkD3] at gD3
  refine ⟨nl, D3, (zipW ws vs).map S, rfl, rfl, .inl (SqL.of (by rw [List.map_map]; exact gD3)), ?_, ?_⟩
  · have := sumW 13 (zipW ws vs) (lenZ ws vs hwws hwvs)
    rw [List.length_map, show nl.length = 1 by rw [nl_eq]; rfl]
    rw [zipW_len hlws hlvs] at this ⊢
    omega
  have hmem : ∀ l ∈ zipW ws vs, ∃ w v, l = w ++ 32 :: v ∧ Word w ∧ Word v := fun l hl => by
    obtain ⟨w, hw, v, hv, e⟩ := zipW_mem hl
    exact ⟨w, v, e, hwws w hw, hwvs v hv⟩
  have hlen : (zipW ws vs).length = r + 1 := zipW_len hlws hlvs
  have hne : zipW ws vs ≠ [] := fun e => by rw [e] at hlen; simp at hlen
  have h13 := lenZ ws vs hwws hwvs
  have h10 : ∀ l ∈ zipW ws vs, 10 ∉ l := fun l hl h10 => by
    obtain ⟨w, v, rfl, hw, hv⟩ := hmem l hl
    rcases List.mem_append.mp h10 with z | z
    · have := hw.2.2 10 z; cases this
    · rcases List.mem_cons.mp z with z | z
      · cases z
      · have := hv.2.2 10 z; cases this
  have hD7 := hD6.kq k7
  have hT7 := k7.tab _ hT6
  refine ⟨_, rfl, h, l, 4, rfl, hD7, by decide, by decide, fun r3 H8 hr3 k8 hD8 => ?_⟩
  have h1 : r3 < hashS.cps.toList.length := by rw [hash_ok.1]; exact hr3
  refine ⟨hashS, _, _, rfl, rfl, line16 (by decide +kernel), cps_at rfl (List.getElem?_eq_getElem h1), ?_⟩
  have hsc : okSign hashS.cps.toList[r3] := hash_ok.2.1 _ (List.getElem_mem _)
  generalize hashS.cps.toList[r3] = sg at hsc ⊢
  -- keys of case 0
  refine ⟨line16 (by show 1 ≤ 1000000; decide), fun a1 na1 => ?_⟩
  have ka1 : Kq [] H8 (upd H8 a1 (.tup [.str "home"])) := Kq.alloc na1
  have ga1 : KeyAt K (upd H8 a1 (.tup [.str "home"])) a1 .home := SqT.of upd_same
  generalize (upd H8 a1 (.tup [.str "home"])) = H9 at ka1 ga1 ⊢
  refine ⟨_, rfl, line16 (by show 2 ≤ 1000000; decide), fun a2 na2 => ?_⟩
  have ka2 : Kq [] H9 (upd H9 a2 (.tup [.str "put", .str ⟨#[sg]⟩])) := Kq.alloc na2
  have ga2 : KeyAt K (upd H9 a2 (.tup [.str "put", .str ⟨#[sg]⟩])) a2 (.put [sg]) := SqT.of upd_same
  generalize (upd H9 a2 (.tup [.str "put", .str ⟨#[sg]⟩])) = Ha at ka2 ga2 ⊢
  refine ⟨line16 (by show 1 ≤ 1000000; decide), fun a3 na3 => ?_⟩
  have ka3 : Kq [] Ha (upd Ha a3 (.tup [.str "down"])) := Kq.alloc na3
  have ga3 : KeyAt K (upd Ha a3 (.tup [.str "down"])) a3 .down := SqT.of upd_same
  generalize (upd Ha a3 (.tup [.str "down"])) = Hb at ka3 ga3 ⊢
  refine ⟨line16 (by show 3 ≤ 1000000; decide), fun t0 nt0 => ?_⟩
  have kt0 : Kq [] Hb (upd Hb t0 (.tup [.ref a1, .ref a2, .ref a3])) := Kq.alloc nt0
  have gt0 : TapeAt K (upd Hb t0 (.tup [.ref a1, .ref a2, .ref a3])) t0 (headT sg ++ [.down]) := ⟨[a1, a2, a3], SqT.of upd_same, kt0.keys (.cons (ka3.key (ka2.key ga1)) (.cons (ka3.key ga2) (.cons ga3 .nil)))⟩
  have k8c := ((ka1.trans ka2).trans ka3).trans kt0
  generalize (upd Hb t0 (.tup [.ref a1, .ref a2, .ref a3])) = Hc at kt0 gt0 k8c ⊢
  have etx : Txt.join nl ((zipW ws vs).map S) = textS (zipW ws vs) := rfl
  have hsz : sizeLine = 16777216 := sizeLine_eq
  have htl : (textS (zipW ws vs)).length ≤ 1000000 := Nat.le_trans (textS_len h13) (by rw [hlen]; omega)
  refine ⟨⟨_, rfl⟩, _, rfl, ⟨_, rfl⟩, _, nl, rfl, rfl, by rw [nl_eq]; rfl, by rw [etx]; omega, fun p1 np1 => ?_⟩
  rw [etx, textS_split hne h10, show ((zipW ws vs).map S).map V.str = rowsV (zipW ws vs) by unfold rowsV; rw [List.map_map]; rfl]
  have kp1 : Kq [] Hc (upd Hc p1 (.lst (rowsV (zipW ws vs)))) := Kq.alloc np1
  refine ⟨p1, rfl, ⟨_, SqL.of upd_same⟩, fun D4 nD4 => ?_⟩
  have gp1 : (upd Hc p1 (.lst (rowsV (zipW ws vs)))) p1 = some (.lst (rowsV (zipW ws vs))) := upd_same
  generalize (upd Hc p1 (.lst (rowsV (zipW ws vs)))) = Hd at kp1 gp1 nD4 ⊢
  refine lc_list (K := K) (a := p1) (xs := rowsV (zipW ws vs)) (vs := [2]) (fun i H' => Kq [] Hd H' ∧ H' D4 = some (.lst (rowsV (((zipW ws vs).take i).map (sg :: ·))))) ⟨Kq.alloc nD4, upd_same⟩ (fun i H' _ z => SqL.of (z.1.get gp1)) ?_ ?_
  · rintro i x H' hx ⟨kq, hDD⟩
    refine ⟨rfl, ?_⟩
    unfold tYes
    dsimp only
    rw [if_pos rfl]
    have hi : i < (zipW ws vs).length := by
      have := (List.getElem?_eq_some_iff.mp hx).1
      rwa [rowsV_len] at this
    rw [rowsV_at hi] at hx
    cases hx
    refine ⟨_, rfl, _, rfl, _, _, rfl, rfl, line16 ?_, ?_⟩
    · have h13i := h13 _ (List.getElem_mem hi)
      have e1 : (⟨#[sg]⟩ : Str).length = 1 := rfl
      rw [e1, S_len]; omega
    have es : (⟨#[sg]⟩ : Str) ++ S (zipW ws vs)[i] = S (sg :: (zipW ws vs)[i]) := S_app [sg] _
    rw [es]
    refine ⟨_, hDD, line16 ?_, kq.writeF nD4 hDD, ?_⟩
    · rw [rowsV_len, List.length_map, List.length_take]; omega
    · rw [upd_same, List.take_succ_eq_append_getElem hi, List.map_append, ← rowsV_app]; rfl
  rintro Hg ⟨ke, gD4⟩
  rw [rowsV_len, List.take_length] at gD4
  refine ⟨nl, D4, ((zipW ws vs).map (sg :: ·)).map S, rfl, rfl, .inl (SqL.of (by rw [List.map_map]; exact gD4)), ?_, ?_⟩
  · have := sumW 14 ((zipW ws vs).map (sg :: ·)) (fun x hx => by
      obtain ⟨y, hy, rfl⟩ := List.mem_map.mp hx
      have := h13 y hy
      rw [List.length_cons]; omega)
    rw [List.length_map, show nl.length = 1 by rw [nl_eq]; rfl]
    rw [List.length_map, hlen] at this
    rw [List.length_map, hlen]
    omega
  have ed0 : Txt.join nl (((zipW ws vs).map (sg :: ·)).map S) = textS ((zipW ws vs).map (sg :: ·)) := rfl
  rw [ed0]
  have kHe := kp1.trans ke
  have gt0e := kHe.tape gt0
  refine ⟨line16 (by show 2 ≤ 1000000; decide), fun u0 nu0 => ⟨line16 (by show 1 ≤ 1000000; decide), fun C nC => ?_⟩⟩
  have ku0 : Kq [] Hg (upd Hg u0 (.tup [.ref t0, .str (textS ((zipW ws vs).map (sg :: ·)))])) := Kq.alloc nu0
  have kC : Kq [] (upd Hg u0 (.tup [.ref t0, .str (textS ((zipW ws vs).map (sg :: ·)))])) (upd (upd Hg u0 (.tup [.ref t0, .str (textS ((zipW ws vs).map (sg :: ·)))])) C (.lst [.ref u0])) := Kq.alloc nC
  have gu0 := kC.get (upd_same (H := Hg) (a := u0) (o := .tup [.ref t0, .str (textS ((zipW ws vs).map (sg :: ·)))]))
  have gC0 : (upd (upd Hg u0 (.tup [.ref t0, .str (textS ((zipW ws vs).map (sg :: ·)))])) C (.lst [.ref u0])) C = some (.lst [.ref u0]) := upd_same
  have kHf := (kHe.trans ku0).trans kC
  generalize (upd (upd Hg u0 (.tup [.ref t0, .str (textS ((zipW ws vs).map (sg :: ·)))])) C (.lst [.ref u0])) = Hf at gu0 gC0 kHf kC ⊢
  have k7f : Kq [] H8 Hf := k8c.trans kHf
  have gt0f := kHf.tape gt0
  have gD1f := k7f.get (k8.q.gets (k7.get gD1) (by simp [nn1]))
  have gD2f := k7f.get (k8.q.gets (k7.get gD2) (by simp [nn2]))
  refine ⟨⟨_, rfl⟩, _, rfl, _, rfl, by omega, by omega, fun D5 nD5 => ?_⟩
  have neD5 : D5 ≠ D2 ∧ D5 ≠ D1 := ⟨(ne_of_none gD2f nD5).symm, (ne_of_none gD1f nD5).symm⟩
  refine lc_range (lo := 0) (n := (1 + (r : Int)).toNat) (vs := [1]) (fun i H' => Kq [] Hf H' ∧ H' D5 = some (.lst (rowsV ((zipW vs ws).take i)))) ⟨Kq.alloc nD5, upd_same⟩ ?_ ?_
  · rintro i H' hi ⟨kq, hDD⟩
    refine ⟨rfl, ?_⟩
    unfold tYes
    dsimp only
    rw [if_pos rfl]
    have hia : i < vs.length := by omega
    have hib : i < ws.length := by omega
    refine ⟨_, rfl, _, rfl, D2, _, _, .str (S vs[i]), rfl, rfl, SqL.of (kq.get gD2f), at_of (j := i) (by omega) (rowsV_at hia), _, _, rfl, rfl, line16 ?_, _, rfl, _, rfl, D1, _, _, .str (S ws[i]), rfl, rfl, SqL.of (kq.get gD1f), at_of (j := i) (by omega) (rowsV_at hib), _, _, rfl, rfl, line16 ?_, ?_⟩
    · have := lenW _ (hwvs _ (List.getElem_mem hia))
      rw [sp_eq]; simp only [S_len, List.length_cons, List.length_nil]; omega
    · have h1 := lenW _ (hwvs _ (List.getElem_mem hia))
      have h2 := lenW _ (hwws _ (List.getElem_mem hib))
      rw [sp_eq, S_app]; simp only [S_len, List.length_append, List.length_cons, List.length_nil]; omega
    rw [sp_eq, S_app, S_app, List.append_assoc]
    refine ⟨_, hDD, line16 ?_, kq.writeF nD5 hDD, ?_⟩
    · rw [rowsV_len, List.length_take]; omega
    · rw [upd_same, zipW_at hia hib, ← rowsV_app]; rfl
  rintro H10 ⟨k10, gD5⟩
  have tkD5 : (zipW vs ws).take (1 + (r : Int)).toNat = zipW vs ws := List.take_of_length_le (by rw [zipW_len hlvs hlws]; omega)
  rw [tkD5] at gD5
  refine ⟨nl, D5, (zipW vs ws).map S, rfl, rfl, .inl (SqL.of (by rw [List.map_map]; exact gD5)), ?_, ?_⟩
  · have := sumW 13 (zipW vs ws) (lenZ vs ws hwvs hwws)
    rw [List.length_map, show nl.length = 1 by rw [nl_eq]; rfl]
    rw [zipW_len hlvs hlws] at this ⊢
    omega
  have etu : Txt.join nl ((zipW vs ws).map S) = textS (zipW vs ws) := rfl
  rw [etu, bang_eq, sp_eq]
  have gt0g := k10.tape gt0f
  have gu0g := k10.get gu0
  have gCg := k10.get gC0
  have kz : Kq [] H8 H10 := k7f.trans k10
  refine ⟨line16 (by show 1 ≤ 1000000; decide), fun b1 nb1 => ?_⟩
  have kb1 : Kq [] H10 (upd H10 b1 (.tup [.str "home"])) := Kq.alloc nb1
  have gb1 : KeyAt K (upd H10 b1 (.tup [.str "home"])) b1 .home := SqT.of upd_same
  generalize (upd H10 b1 (.tup [.str "home"])) = J1 at kb1 gb1 ⊢
  refine ⟨line16 (by show 1 ≤ 1000000; decide), fun b2 nb2 => ?_⟩
  have kb2 : Kq [] J1 (upd J1 b2 (.tup [.str "take"])) := Kq.alloc nb2
  have gb2 : KeyAt K (upd J1 b2 (.tup [.str "take"])) b2 .take := SqT.of upd_same
  generalize (upd J1 b2 (.tup [.str "take"])) = J2 at kb2 gb2 ⊢
  refine ⟨line16 (by show 2 ≤ 1000000; decide), fun b3 nb3 => ?_⟩
  have kb3 : Kq [] J2 (upd J2 b3 (.tup [.str "put", .str (S [33])])) := Kq.alloc nb3
  have gb3 : KeyAt K (upd J2 b3 (.tup [.str "put", .str (S [33])])) b3 (.put [33]) := SqT.of upd_same
  generalize (upd J2 b3 (.tup [.str "put", .str (S [33])])) = J3 at kb3 gb3 ⊢
  refine ⟨line16 (by show 1 ≤ 1000000; decide), fun b4 nb4 => ?_⟩
  have kb4 : Kq [] J3 (upd J3 b4 (.tup [.str "end"])) := Kq.alloc nb4
  have gb4 : KeyAt K (upd J3 b4 (.tup [.str "end"])) b4 .end_ := SqT.of upd_same
  generalize (upd J3 b4 (.tup [.str "end"])) = J4 at kb4 gb4 ⊢
  refine ⟨line16 (by show 2 ≤ 1000000; decide), fun b5 nb5 => ?_⟩
  have kb5 : Kq [] J4 (upd J4 b5 (.tup [.str "put", .str (S [32])])) := Kq.alloc nb5
  have gb5 : KeyAt K (upd J4 b5 (.tup [.str "put", .str (S [32])])) b5 (.put [32]) := SqT.of upd_same
  generalize (upd J4 b5 (.tup [.str "put", .str (S [32])])) = J5 at kb5 gb5 ⊢
  refine ⟨line16 (by show 1 ≤ 1000000; decide), fun b6 nb6 => ?_⟩
  have kb6 : Kq [] J5 (upd J5 b6 (.tup [.str "lay"])) := Kq.alloc nb6
  have gb6 : KeyAt K (upd J5 b6 (.tup [.str "lay"])) b6 .lay := SqT.of upd_same
  generalize (upd J5 b6 (.tup [.str "lay"])) = J6 at kb6 gb6 ⊢
  refine ⟨line16 (by show 1 ≤ 1000000; decide), fun b7 nb7 => ?_⟩
  have kb7 : Kq [] J6 (upd J6 b7 (.tup [.str "home"])) := Kq.alloc nb7
  have gb7 : KeyAt K (upd J6 b7 (.tup [.str "home"])) b7 .home := SqT.of upd_same
  generalize (upd J6 b7 (.tup [.str "home"])) = J7 at kb7 gb7 ⊢
  refine ⟨line16 (by show 1 ≤ 1000000; decide), fun b8 nb8 => ?_⟩
  have kb8 : Kq [] J7 (upd J7 b8 (.tup [.str "right"])) := Kq.alloc nb8
  have gb8 : KeyAt K (upd J7 b8 (.tup [.str "right"])) b8 .right := SqT.of upd_same
  generalize (upd J7 b8 (.tup [.str "right"])) = J8 at kb8 gb8 ⊢
  refine ⟨line16 (by show 1 ≤ 1000000; decide), fun b9 nb9 => ?_⟩
  have kb9 : Kq [] J8 (upd J8 b9 (.tup [.str "right"])) := Kq.alloc nb9
  have gb9 : KeyAt K (upd J8 b9 (.tup [.str "right"])) b9 .right := SqT.of upd_same
  generalize (upd J8 b9 (.tup [.str "right"])) = J9 at kb9 gb9 ⊢
  have JK : KeysAt K J9 [b1, b2, b3, b4, b5, b6, b7, b8, b9] [.home, .take, .put [33], .end_, .put [32], .lay, .home, .right, .right] := (.cons (kb9.key (kb8.key (kb7.key (kb6.key (kb5.key (kb4.key (kb3.key (kb2.key gb1)))))))) (.cons (kb9.key (kb8.key (kb7.key (kb6.key (kb5.key (kb4.key (kb3.key gb2))))))) (.cons (kb9.key (kb8.key (kb7.key (kb6.key (kb5.key (kb4.key gb3)))))) (.cons (kb9.key (kb8.key (kb7.key (kb6.key (kb5.key gb4))))) (.cons (kb9.key (kb8.key (kb7.key (kb6.key gb5)))) (.cons (kb9.key (kb8.key (kb7.key gb6))) (.cons (kb9.key (kb8.key gb7)) (.cons (kb9.key gb8) (.cons gb9 .nil)))))))))
  have JT : Kq [] H10 J9 := ((((((((kb1.trans kb2).trans kb3).trans kb4).trans kb5).trans kb6).trans kb7).trans kb8).trans kb9)
  refine ⟨line16 (by show 9 ≤ 1000000; decide), fun tt ntt => ?_⟩
  have ktt : Kq [] J9 (upd J9 tt (.tup [.ref b1, .ref b2, .ref b3, .ref b4, .ref b5, .ref b6, .ref b7, .ref b8, .ref b9])) := Kq.alloc ntt
  have stt : SqT K (upd J9 tt (.tup [.ref b1, .ref b2, .ref b3, .ref b4, .ref b5, .ref b6, .ref b7, .ref b8, .ref b9])) tt (([b1, b2, b3, b4, b5, b6, b7, b8, b9] : List Addr).map V.ref) := SqT.of upd_same
  generalize (upd J9 tt (.tup [.ref b1, .ref b2, .ref b3, .ref b4, .ref b5, .ref b6, .ref b7, .ref b8, .ref b9])) = M0 at ktt stt ⊢
  have gCm := ktt.get (JT.get gCg)
  refine ⟨_, rfl, .inl ⟨rfl, _, SqL.of gCm⟩, _, rfl, ?_⟩
  refine ⟨line16 (by show 1 ≤ 1000000; decide), fun c1 nc1 => ?_⟩
  have kc1 : Kq [] M0 (upd M0 c1 (.tup [.str "rub"])) := Kq.alloc nc1
  have gc1 : KeyAt K (upd M0 c1 (.tup [.str "rub"])) c1 .rub := SqT.of upd_same
  generalize (upd M0 c1 (.tup [.str "rub"])) = M1 at kc1 gc1 ⊢
  refine ⟨line16 (by show 1 ≤ 1000000; decide), fun c2 nc2 => ?_⟩
  have kc2 : Kq [] M1 (upd M1 c2 (.tup [.str "rub"])) := Kq.alloc nc2
  have gc2 : KeyAt K (upd M1 c2 (.tup [.str "rub"])) c2 .rub := SqT.of upd_same
  generalize (upd M1 c2 (.tup [.str "rub"])) = M2 at kc2 gc2 ⊢
  refine ⟨line16 (by show 1 ≤ 1000000; decide), fun c3 nc3 => ?_⟩
  have kc3 : Kq [] M2 (upd M2 c3 (.tup [.str "down"])) := Kq.alloc nc3
  have gc3 : KeyAt K (upd M2 c3 (.tup [.str "down"])) c3 .down := SqT.of upd_same
  generalize (upd M2 c3 (.tup [.str "down"])) = M3 at kc3 gc3 ⊢
  have MK : KeysAt K M3 [c1, c2, c3] [.rub, .rub, .down] := (.cons (kc3.key (kc2.key gc1)) (.cons (kc3.key gc2) (.cons gc3 .nil)))
  have MT : Kq [] M0 M3 := ((kc1.trans kc2).trans kc3)
  refine ⟨line16 (by show 3 ≤ 1000000; decide), fun t3 nt3 => ?_⟩
  have kt3 : Kq [] M3 (upd M3 t3 (.tup [.ref c1, .ref c2, .ref c3])) := Kq.alloc nt3
  have st3 : SqT K (upd M3 t3 (.tup [.ref c1, .ref c2, .ref c3])) t3 (([c1, c2, c3] : List Addr).map V.ref) := SqT.of upd_same
  generalize (upd M3 t3 (.tup [.ref c1, .ref c2, .ref c3])) = N0 at kt3 st3 ⊢
  have sttn := kt3.tup (MT.tup stt)
  refine ⟨tt, t3, _, _, rfl, rfl, sttn, st3, line16 (by show 9 + 3 ≤ 1000000; decide), fun t1 N1 kc1 gt1 => ⟨_, rfl, line16 (by show 2 ≤ 1000000; decide), fun u1 nu1 => ?_⟩⟩
  have ku1 : Kq [] N1 (upd N1 u1 (.tup [.ref t1, .str (textS (zipW vs ws))])) := Kq.alloc nu1
  have gu1 : (upd N1 u1 (.tup [.ref t1, .str (textS (zipW vs ws))])) u1 = some (.tup [.ref t1, .str (textS (zipW vs ws))]) := upd_same
  have gt1' : TapeAt K N1 t1 (turnT ++ [.down]) := ⟨[b1, b2, b3, b4, b5, b6, b7, b8, b9] ++ [c1, c2, c3], by rw [List.map_append]; exact gt1, (kc1.keys (kt3.keys (MT.keys (ktt.keys JK)))).app (kc1.keys (kt3.keys MK))⟩
  generalize (upd N1 u1 (.tup [.ref t1, .str (textS (zipW vs ws))])) = N2 at ku1 gu1 ⊢
  have kn : Kq [] H10 N2 := (((JT.trans ktt).trans MT).trans kt3).trans (kc1.trans ku1)
  have gCn := kn.get gCg
  refine ⟨C, _, _, rfl, rfl, gCn, small1000 (by show 1 ≤ 1000; decide), ?_⟩
  have kw : Kf [C] N2 (upd N2 C (.lst ([.ref u0] ++ [.ref u1]))) := Kf.write gCn (by simp) rfl fun b hb => by rw [List.mem_singleton.mp hb]; exact ⟨_, gCn, rfl⟩
  have gCp : (upd N2 C (.lst ([.ref u0] ++ [.ref u1]))) C = some (.lst [.ref u0, .ref u1]) := upd_same
  generalize (upd N2 C (.lst ([.ref u0] ++ [.ref u1]))) = P0 at kw gCp ⊢
  have gt0p := kw.tape (kn.tape gt0g)
  have gu0p := kw.get (kn.get gu0g) rfl
  have gt1p := kw.tape (ku1.tape gt1')
  have gu1p := kw.get gu1 rfl
  have gTp : TabG P0 (tS K) := kw.q.tab _ (kn.tab _ (kz.tab _ (k8.q.tab _ hT7)))
  refine ⟨_, rfl, .inl ⟨rfl, _, SqL.of gCp⟩, ?_⟩
  refine ⟨line16 (by show 1 ≤ 1000000; decide), fun d1 nd1 => ?_⟩
  have kd1 : Kq [] P0 (upd P0 d1 (.tup [.str "end"])) := Kq.alloc nd1
  have gd1 : KeyAt K (upd P0 d1 (.tup [.str "end"])) d1 .end_ := SqT.of upd_same
  generalize (upd P0 d1 (.tup [.str "end"])) = P1 at kd1 gd1 ⊢
  refine ⟨line16 (by show 1 ≤ 1000000; decide), fun d2 nd2 => ?_⟩
  have kd2 : Kq [] P1 (upd P1 d2 (.tup [.str "down"])) := Kq.alloc nd2
  have gd2 : KeyAt K (upd P1 d2 (.tup [.str "down"])) d2 .down := SqT.of upd_same
  generalize (upd P1 d2 (.tup [.str "down"])) = P2 at kd2 gd2 ⊢
  refine ⟨line16 (by show 1 ≤ 1000000; decide), fun d3 nd3 => ?_⟩
  have kd3 : Kq [] P2 (upd P2 d3 (.tup [.str "home"])) := Kq.alloc nd3
  have gd3 : KeyAt K (upd P2 d3 (.tup [.str "home"])) d3 .home := SqT.of upd_same
  generalize (upd P2 d3 (.tup [.str "home"])) = P3 at kd3 gd3 ⊢
  refine ⟨line16 (by show 1 ≤ 1000000; decide), fun d4 nd4 => ?_⟩
  have kd4 : Kq [] P3 (upd P3 d4 (.tup [.str "rub"])) := Kq.alloc nd4
  have gd4 : KeyAt K (upd P3 d4 (.tup [.str "rub"])) d4 .rub := SqT.of upd_same
  generalize (upd P3 d4 (.tup [.str "rub"])) = P4 at kd4 gd4 ⊢
  have PK : KeysAt K P4 [d1, d2, d3, d4] [.end_, .down, .home, .rub] := (.cons (kd4.key (kd3.key (kd2.key gd1))) (.cons (kd4.key (kd3.key gd2)) (.cons (kd4.key gd3) (.cons gd4 .nil))))
  have PT : Kq [] P0 P4 := (((kd1.trans kd2).trans kd3).trans kd4)
  refine ⟨line16 (by show 4 ≤ 1000000; decide), fun t2 nt2 => ?_⟩
  have kt2 : Kq [] P4 (upd P4 t2 (.tup [.ref d1, .ref d2, .ref d3, .ref d4])) := Kq.alloc nt2
  have st2 : SqT K (upd P4 t2 (.tup [.ref d1, .ref d2, .ref d3, .ref d4])) t2 (([d1, d2, d3, d4] : List Addr).map V.ref) := SqT.of upd_same
  have gt2 : TapeAt K (upd P4 t2 (.tup [.ref d1, .ref d2, .ref d3, .ref d4])) t2 joinT := ⟨[d1, d2, d3, d4], st2, kt2.keys PK⟩
  generalize (upd P4 t2 (.tup [.ref d1, .ref d2, .ref d3, .ref d4])) = R0 at kt2 st2 gt2 ⊢
  refine ⟨_, rfl, _, rfl, ?_, ?_⟩
  · rw [empty_eq]; show (textS (zipW ws vs)).length + ((textS (zipW ws vs)).length + 1) * 0 ≤ 16777216; omega
  rw [repl_nl hne h10]
  refine ⟨line16 (by show 2 ≤ 1000000; decide), fun u2 nu2 => ?_⟩
  have ku2 : Kq [] R0 (upd R0 u2 (.tup [.ref t2, .str (textS [(zipW ws vs).flatten])])) := Kq.alloc nu2
  have gu2 : (upd R0 u2 (.tup [.ref t2, .str (textS [(zipW ws vs).flatten])])) u2 = some (.tup [.ref t2, .str (textS [(zipW ws vs).flatten])]) := upd_same
  generalize (upd R0 u2 (.tup [.ref t2, .str (textS [(zipW ws vs).flatten])])) = R1 at ku2 gu2 ⊢
  have kr : Kq [] P0 R1 := (PT.trans kt2).trans ku2
  have gCr := kr.get gCp
  refine ⟨C, _, _, rfl, rfl, gCr, small1000 (by show 2 ≤ 1000; decide), ?_⟩
  have kv : Kf [C] R1 (upd R1 C (.lst ([.ref u0, .ref u1] ++ [.ref u2]))) := Kf.write gCr (by simp) rfl fun b hb => by rw [List.mem_singleton.mp hb]; exact ⟨_, gCr, rfl⟩
  have gCs : (upd R1 C (.lst ([.ref u0, .ref u1] ++ [.ref u2]))) C = some (.lst [.ref u0, .ref u1, .ref u2]) := upd_same
  generalize (upd R1 C (.lst ([.ref u0, .ref u1] ++ [.ref u2]))) = R2 at kv gCs ⊢
  have gt0s := kv.tape (kr.tape gt0p)
  have gu0s := kv.get (kr.get gu0p) rfl
  have gt1s := kv.tape (kr.tape gt1p)
  have gu1s := kv.get (kr.get gu1p) rfl
  have gt2s := kv.tape (ku2.tape gt2)
  have gu2s := kv.get gu2 rfl
  have gTs : TabG R2 (tS K) := kv.q.tab _ (kr.tab _ gTp)
  clear gt0p gu0p gt1p gu1p gt2 gu2 gTp
  have single_ok : ∀ k ∈ turnT ++ [Ky.down], k.Ok := by
    intro k hk
    simp only [turnT, List.mem_append, List.mem_cons, List.not_mem_nil, or_false] at hk
    rcases hk with (rfl | rfl | rfl | rfl | rfl | rfl | rfl | rfl | rfl | rfl | rfl) | rfl <;> first | trivial | exact ⟨rfl, by decide⟩
  have key : ∃ u T ks, ∃ dl : List Ln, ([.ref u0, .ref u1, .ref u2] : List V)[c]? = some (.ref u) ∧ R2 u = some (.tup [.ref T, .str (textS dl)]) ∧ TapeAt K R2 T ks ∧ (∀ k ∈ ks, k.Ok) ∧ ks.length ≤ 30 ∧ dl ≠ [] ∧ (∀ l ∈ dl, 10 ∉ l) ∧
      (∀ (tp : Nat → List Ky) (n : Nat), tp n = ks → ∃ st', doK tp 20 (.till n) ⟨⟨zipW ws vs, 0, 0, []⟩, [], 0⟩ = .fin true st' ∧ st'.page.rows = dl) := by
    match c, hc, X4 with
    | 0, _, _ =>
      refine ⟨u0, t0, _, _, rfl, gu0s, gt0s, ?_, by show 3 ≤ 30; decide, ?_, ?_, fun tp n e => ?_⟩
      · intro k hk
        simp only [headT, List.mem_append, List.mem_cons, List.not_mem_nil, or_false] at hk
        rcases hk with (rfl | rfl) | rfl <;> first | trivial | exact ⟨rfl, fun c hc => by rw [List.mem_singleton.mp hc]; exact hsc⟩
      · intro e; exact hne (List.map_eq_nil_iff.mp e)
      · intro l hl h
        obtain ⟨y, hy, rfl⟩ := List.mem_map.mp hl
        rcases List.mem_cons.mp h with z | z
        · rw [← z] at hsc; exact absurd hsc.1 (by decide)
        · exact h10 y hy z
      · rw [till_key, e]
        obtain ⟨st', q1, q2⟩ := till_rows (tp := tp) (d := 19) (body := headT sg) (f := (sg :: ·)) (p := fun l => l.length ≤ 13) (by intro k hk; simp only [headT, List.mem_cons, List.not_mem_nil, or_false] at hk; rcases hk with rfl | rfl <;> rfl) (fun g hg hl => headT_run g hg hl) (zipW ws vs) [] ⟨⟨zipW ws vs, 0, 0, []⟩, [], 1⟩ 401 hne rfl rfl h13 (by omega) (by show 1 + (zipW ws vs).length * 4 ≤ 400; omega)
        exact ⟨st', q1, q2⟩
    | 1, _, _ =>
      refine ⟨u1, t1, _, _, rfl, gu1s, gt1s, single_ok, by show 12 ≤ 30; decide, ?_, ?_, fun tp n e => ?_⟩
      · intro e; rw [← zip_turn ws vs hwws] at e; exact hne (List.map_eq_nil_iff.mp e)
      · intro l hl h
        obtain ⟨w, hw, v, hv, rfl⟩ := zipW_mem hl
        rcases List.mem_append.mp h with z | z
        · have := (hwvs w hw).2.2 10 z; cases this
        · rcases List.mem_cons.mp z with z | z
          · cases z
          · have := (hwws v hv).2.2 10 z; cases this
      · rw [till_key, e, ← zip_turn ws vs hwws]
        obtain ⟨st', q1, q2⟩ := till_rows (tp := tp) (d := 19) (body := turnT) (f := turnL) (p := fun l => ∃ w v, l = w ++ 32 :: v ∧ w ≠ [] ∧ (∀ c ∈ w, isLet c = true) ∧ w.length ≤ 6 ∧ v.length ≤ 6) (by decide) (fun g hg hl => turnT_run g hg hl) (zipW ws vs) [] ⟨⟨zipW ws vs, 0, 0, []⟩, [], 1⟩ 401 hne rfl rfl (fun l hl => by
          obtain ⟨w, v, e1, hw, hv⟩ := hmem l hl
          exact ⟨w, v, e1, fun z => by rw [z] at hw; exact absurd hw.1 (by decide), hw.2.2, hw.2.1, hv.2.1⟩) (by omega) (by show 1 + (zipW ws vs).length * 13 ≤ 400; omega)
        exact ⟨st', q1, q2⟩
    | 2, _, X4 =>
      refine ⟨u2, t2, _, _, rfl, gu2s, gt2s, ?_, by show 4 ≤ 30; decide, by simp, ?_, fun tp n e => ?_⟩
      · intro k hk
        simp only [joinT, List.mem_cons, List.not_mem_nil, or_false] at hk
        rcases hk with rfl | rfl | rfl | rfl <;> trivial
      · intro l hl h
        rw [List.mem_singleton.mp hl] at h
        obtain ⟨x, hx, hy⟩ := List.mem_flatten.mp h
        exact h10 x hx hy
      · rw [till_key, e]
        have hX4 := X4 rfl
        have hf := flat_len (zipW ws vs) h13
        generalize zipW ws vs = Z at hne hf hlen ⊢
        cases Z with
        | nil => exact absurd rfl hne
        | cons x rest =>
          rw [List.length_cons] at hlen
          obtain ⟨st', q1, q2⟩ := till_join (tp := tp) (d := 19) rest x ⟨⟨x :: rest, 0, 0, []⟩, [], 1⟩ 401 rfl rfl (by omega) (by rw [List.flatten_cons, List.length_cons] at hf; have : (rest.length + 1) * 13 ≤ 52 := Nat.mul_le_mul_right 13 (show rest.length + 1 ≤ 4 by omega); omega) (by show 1 + (rest.length + 1) * 5 ≤ 400; omega)
          exact ⟨st', q1, by rw [q2, List.flatten_cons]⟩
  obtain ⟨u, T_, ks, dl, eu, gu, gT, kok, k30, dne, d10, hrun⟩ := key
  refine ⟨_, rfl, _, rfl, C, _, _, .ref u, rfl, rfl, SqL.of gCs, at_of rfl eu, u, _, rfl, SqT.of gu, rfl, _, _, rfl, _, _, rfl, rfl, ?_⟩
  refine ⟨_, rfl, ?_⟩
  refine for_strS (fun i σ H' => TapeAt K H' T_ ks ∧ TabG H' (tS K) ∧ ∃ v w, σ = [some (.ref a), none, none, some (.ref h), some (.int c), some (.int (1 + (r : Int))), some (.ref D1), some (.ref D2), some (.str (textS (zipW ws vs))), some (.str ⟨#[sg]⟩), some (.ref C), some (.str (textS (zipW vs ws))), some (.ref tt), some (.ref T_), some (.str (textS dl)), v, w]) ⟨gT, gTs, none, none, rfl⟩ ?_ ?_
  rotate_left
  · rintro σ H' _
    exact kQ H'
  rintro i ch σ H' hch ⟨gT, gTs, v, w, rfl⟩
  have hname : ∃ n, n < 8 ∧ (⟨#[ch]⟩ : Str) = nameS n := by
    have ea : (Str.ofString "ah").cps = #[97, 104] := by decide +kernel
    rw [ea] at hch
    match i, hch with
    | 0, hch => cases hch; exact ⟨0, by decide, rfl⟩
    | 1, hch => cases hch; exact ⟨7, by decide, rfl⟩
  obtain ⟨n, hn, en⟩ := hname
  rw [en]
  have hgood : goodB (zipW ws vs) = true := by
    unfold goodB
    rw [decide_eq_true (show (zipW ws vs).length ≤ 12 by omega), Bool.true_and]
    refine List.all_eq_true.mpr fun l hl => good_row (Nat.le_trans (h13 l hl) (by decide)) fun c hc => ?_
    obtain ⟨w, v, rfl, hw, hv⟩ := hmem l hl
    have lo : ∀ c, isLet c = true → okSign c := fun c hc => by
      unfold isLet at hc
      simp only [Bool.and_eq_true, decide_eq_true_eq] at hc
      exact ⟨by omega, by omega⟩
    rcases List.mem_append.mp hc with z | z
    · exact lo c (hw.2.2 c z)
    · rcases List.mem_cons.mp z with z | z
      · rw [z]; decide
      · exact lo c (hv.2.2 c z)
  refine ⟨_, rfl, zipW ws vs, rfl, hne, hgood, gTs, fun m S1 fm ka hE => ?_⟩
  obtain ⟨dx, p9, ap, au, ad, e1, _⟩ := hE.ex
  have gT1 := ka.tape gT
  obtain ⟨as, sT, kT⟩ := gT1
  refine ⟨_, rfl, m.e, dx, _, rfl, e1, edF_no_tape _ _ _ _ _ _, _, rfl, _, rfl, m, _, n, T_, as, ks, rfl, hE, hn, sT, kT, kok, k30, fun S2 kf hE2 => ?_⟩
  obtain ⟨st', q1, q2⟩ := hrun (fun i => if i = n then ks else (EdSt.new (zipW ws vs)).tapes i) n (if_pos rfl)
  have gT2 := kf.tape (ka.tape gT)
  obtain ⟨dx2, p2, ap2, au2, ad2, e2, _⟩ := hE2.ex
  refine ⟨_, rfl, m.e, dx2, _, rfl, e2, edF_no_press _ _ _ _ _ _, _, rfl, line16 (by show 2 ≤ 1000000; decide), fun ak nak => ?_⟩
  have kq3 : Kq [] S2 (upd S2 ak (.tup [.str "till", .str (nameS n)])) := Kq.alloc nak
  have hk3 : KeyAt K (upd S2 ak (.tup [.str "till", .str (nameS n)])) ak (.till n) := SqT.of upd_same
  generalize (upd S2 ak (.tup [.str "till", .str (nameS n)])) = S3 at kq3 hk3 ⊢
  have hE3 := hE2.kq kq3
  have gT3 := kq3.tape gT2
  refine ⟨m, _, ak, .till n, rfl, hE3, ⟨Nat.zero_le _, Nat.zero_le _, Nat.zero_le _⟩, hk3, hn, (fun e => by have := q1.symm.trans e; cases this), fun b st m2 S4 hr2 f1 f2 f3 f4 f5 k9 hE4 => ?_⟩
  have hr3 := q1.symm.trans hr2
  cases hr3
  have gT4 := k9.tape gT3
  refine ⟨_, _, rfl, rfl, ?_⟩
  refine ⟨_, rfl, iteF ?_⟩
  obtain ⟨dx4, p4, ap4, au4, ad4, e4, _⟩ := hE4.ex
  rw [f1] at e4
  refine ⟨_, rfl, m.e, dx4, _, rfl, e4, edF_no_text _ _ _ _ _ _, m2, _, by rw [f1], hE4, _, rfl, _, _, rfl, ?_, fun S5 k5 => ⟨_, rfl, iteF ?_⟩⟩
  · show Al S4 0 (.str (textS st'.page.rows)) (.str (textS dl))
    rw [q2]; exact .str _ _
  have hE5 := hE4.kq k5
  obtain ⟨dx5, p5, ap5, au5, ad5, e5, _⟩ := hE5.ex
  rw [f1] at e5
  have gT5 := k5.tape gT4
  have hu : (doneE { EdSt.new (zipW ws vs) with tapes := fun i => if i = n then ks else (EdSt.new (zipW ws vs)).tapes i } (.till n) st'.page).units = if dl = zipW ws vs then [] else [(⟨zipW ws vs, 0, 0, []⟩, st'.page)] := by
    show (if st'.page.rows = zipW ws vs then [] else [] ++ [(_, st'.page)]) = _
    rw [q2]; rfl
  have hpr : (doneE { EdSt.new (zipW ws vs) with tapes := fun i => if i = n then ks else (EdSt.new (zipW ws vs)).tapes i } (.till n) st'.page).page.rows = dl := q2
  refine ⟨_, rfl, m.e, dx5, _, rfl, e5, edF_no_back _ _ _ _ _ _, m2, _, by rw [f1], hE5, ⟨Nat.zero_le _, ?_, ?_⟩, fun S6 k6 hE6 => ?_⟩
  · rw [hu]; split <;> simp
  · show (if st'.page.rows = zipW ws vs then [] else []).length ≤ 900
    split <;> exact Nat.zero_le _
  have gT6 := k6.tape gT5
  refine ⟨_, rfl, _, rfl, rfl, ?_⟩
  have al : ∀ a b : Bool, a = b → Al S6 0 (.bl a) (.bl b) := fun a b e => e ▸ .bl _ _
  have hneq : dl ≠ zipW ws vs → V.str (textS (zipW ws vs)) ≠ V.str (textS dl) := fun hz e => hz (text_inj hne dne h10 d10 (V.str.inj e)).symm
  refine ⟨_, _, rfl, al _ _ ?_, fun S7 k7' => ⟨_, rfl, iteF ?_⟩⟩
  · by_cases hz : dl = zipW ws vs
    · rw [hu, if_pos hz, hz, decide_eq_true rfl]; rfl
    · rw [hu, if_neg hz, decide_eq_false (hneq hz)]; rfl
  have hE7 := hE6.kq k7'
  have gT7 := k7'.tape gT6
  have hbr : (backE (doneE { EdSt.new (zipW ws vs) with tapes := fun i => if i = n then ks else (EdSt.new (zipW ws vs)).tapes i } (.till n) st'.page)).page.rows = zipW ws vs := by
    unfold backE
    by_cases hz : dl = zipW ws vs
    · rw [hu, if_pos hz]; exact hpr.trans hz
    · rw [hu, if_neg hz]; rfl
  have hbp : dl ≠ zipW ws vs → (backE (doneE { EdSt.new (zipW ws vs) with tapes := fun i => if i = n then ks else (EdSt.new (zipW ws vs)).tapes i } (.till n) st'.page)).page.row = 0 ∧ (backE (doneE { EdSt.new (zipW ws vs) with tapes := fun i => if i = n then ks else (EdSt.new (zipW ws vs)).tapes i } (.till n) st'.page)).page.col = 0 := fun hz => by
    unfold backE
    rw [hu, if_neg hz]
    exact ⟨rfl, rfl⟩
  obtain ⟨dx7, p7, ap7, au7, ad7, e7, _⟩ := hE7.ex
  rw [f1] at e7
  generalize backE (doneE { EdSt.new (zipW ws vs) with tapes := fun i => if i = n then ks else (EdSt.new (zipW ws vs)).tapes i } (.till n) st'.page) = edb at hE7 hbr hbp
  refine ⟨_, rfl, m.e, dx7, _, rfl, e7, edF_no_text _ _ _ _ _ _, m2, _, by rw [f1], hE7, _, rfl, rfl, _, rfl, iteN (fun z => absurd (by rw [hbr]) z) (fun _ => ?_)⟩
  refine ⟨_, rfl, _, rfl, rfl, _, rfl, iteN (fun z => ?_) (fun _ => ⟨gT7, hE7.sign, _, _, rfl⟩)⟩
  have hz : dl ≠ zipW ws vs := fun e => z (by rw [e])
  refine ⟨_, rfl, m.e, dx7, _, rfl, e7, edF_no_place _ _ _ _ _ _, m2, _, by rw [f1], hE7, fun q S8 k8' gq => ⟨line16 (by show 2 ≤ 1000000; decide), fun z8 nz8 => ?_⟩⟩
  rw [(hbp hz).1, (hbp hz).2] at gq
  have k9' : Kq [] S8 (upd S8 z8 (.tup [.int 0, .int 0])) := Kq.alloc nz8
  refine ⟨.tuple [.int 0, .int 0], .tuple [.int 0, .int 0], .tup (SqT.of (k9'.get gq)) (.cons (.int _) (.cons (.int _) .nil)), .tup (SqT.of upd_same) (.cons (.int _) (.cons (.int _) .nil)), shaped00, shaped00, _, rfl, ?_⟩
  rw [eqv00]
  exact iteF ⟨(k8'.trans k9').tape gT7, (hE7.kq (k8'.trans k9')).sign, _, _, rfl⟩
end
end KT
set_option Elab.async false
set_option linter.all false
set_option maxRecDepth 100000
set_option maxHeartbeats 0
namespace KT
open PySem PySem.Spec PyProof.Rows L2
open PySem.W PySem.Calls
abbrev qv : Program := PySem.W.view R.prog [57]
theorem map3 {α β γ δ : Type} {X : Option α} {a : α → β} {b : α → γ} {c : α → δ} {x : β} {y : γ} {z : δ} (h1 : X.map a = some x) (h2 : X.map b = some y) (h3 : X.map c = some z) : X.map (fun s => (a s, b s, c s)) = some (x, y, z) := by
  cases X with
  | none => cases h1
  | some s =>
    have e1 : a s = x := Option.some.inj h1
    have e2 : b s = y := Option.some.inj h2
    have e3 : c s = z := Option.some.inj h3
    show some (a s, b s, c s) = some (x, y, z)
    rw [e1, e2, e3]
noncomputable def endW (w : World) (os : OsState) : Option PySem.W.SharedT := HandSHeadRun.endF (HandSHeadRun.stepQ (HandSHeadRun.denQ HandSHeadRun.tabQ) R.prog w) 5000 R.prog w os
def wB (b : Bool) (w : World) : World := World.withFollow w "special-get-raises" b
theorem run1_false (w : World) (os : OsState) : (endW (wB false w) os).map (fun s => HandSHeadRun.looksF R.prog (boot_heap (wB false w).params) s.abs) = some true := by kernel_rfl
theorem run2_false (w : World) (os : OsState) : (endW (wB false w) os).map (fun s => HandSHeadRun.seenQ qv loose (importedModules R.prog.main.body) (fun s => PySem.W.xlAt qv [] s && PySem.W.recOk R.toRowW.records s) s.abs) = some (PySem.W.openGood qv loose) := by kernel_rfl
theorem run3_false (w : World) (os : OsState) : (endW (wB false w) os).map (fun s => ob s) = some (hk.val (wB false w)) := by kernel_rfl
theorem run_false (w : World) : HandSHeadRun.RunEq R qv hk ob 5000 loose (wB false w) := fun os => map3 (run1_false w os) (run2_false w os) (run3_false w os)
theorem run1_true (w : World) (os : OsState) : (endW (wB true w) os).map (fun s => HandSHeadRun.looksF R.prog (boot_heap (wB true w).params) s.abs) = some true := by kernel_rfl
theorem run2_true (w : World) (os : OsState) : (endW (wB true w) os).map (fun s => HandSHeadRun.seenQ qv loose (importedModules R.prog.main.body) (fun s => PySem.W.xlAt qv [] s && PySem.W.recOk R.toRowW.records s) s.abs) = some (PySem.W.openGood qv loose) := by kernel_rfl
theorem run3_true (w : World) (os : OsState) : (endW (wB true w) os).map (fun s => ob s) = some (hk.val (wB true w)) := by kernel_rfl
theorem run_true (w : World) : HandSHeadRun.RunEq R qv hk ob 5000 loose (wB true w) := fun os => map3 (run1_true w os) (run2_true w os) (run3_true w os)
theorem run (w : World) : HandSHeadRun.RunEq R qv hk ob 5000 loose w := PySem.W.byRow2 "special-get-raises" (P := fun w => HandSHeadRun.RunEq R qv hk ob 5000 loose w) run_false run_true w
end KT
set_option Elab.async false
set_option linter.all false
set_option maxRecDepth 100000
set_option maxHeartbeats 4000000
namespace KT
open PySem PySem.Spec PyProof.Rows L2
theorem end_binds {w : World} {K : PySem.W.Frag} {mg : Str → Option Value} (T : Tx w K mg) (s : Shared) (v : Value) : BindsTo s (fdOf K (Ad K d_law.at_)) ⟨[v], []⟩ [("_law_script", v)] := by
  have F := T.f_law
  unfold FnT at F
  have e : d_law.dvs K = [] := rfl
  rw [e] at F
  exact (FunD.bindsA (ps := ["_law_script"]) F fun _ _ _ _ _ _ us hl => match us, hl with | [_], _ => rfl) s [v] rfl
theorem end_law {w : World} {K : PySem.W.Frag} {h : Heap} {mg : Str → Option Value} {f : Addr} (X : K.In h) (G : h.Ns mainGlobals mg) (hfa : mg ("law" : Str) = some (.ref f)) (c : He.SaysX fa fn ts tf ex w h K) :
    LamX.LawAtS PySem.Challenge.rw_keytape_k11_known_tapes w K (L2.CX (PySem.Challenge.rw_keytape_k11_known_tapes).prog w) 71 63 "_law_script" mg f h := by
  have T : Tx w K mg := ⟨h, X, G, c⟩
  have e := hfa.symm.trans T.g_law
  cases e
  refine ⟨fdOf K (Ad K d_law.at_), [He.cT K ("are_signs", none)], sp_law K, fun p hp => ?_, fun p hp => ?_, fun p hp => ?_, fun s v => end_binds T s v, fun H a ns hl _ ht hS => ⟨a, ns, rfl, hS, ?_, fun _ => rfl⟩, fun base KX2 G2 B => ?_⟩
  · rw [List.mem_singleton.mp hp]; exact c.empty _ (by simp [tf])
  · rw [List.mem_singleton.mp hp]; exact c.out _ (by simp [tf])
  · rw [List.mem_singleton.mp hp]; exact PySem.W.codeHd_of_K X (c.hd _ (by simp [tf]))
  · exact ⟨#[], ht (He.cT K ("are_signs", none)) (by simp), by first | trivial | exact .nil | (show TriplesOk []; simp [TriplesOk])⟩
  · have b := B (He.cT K ("are_signs", none)) (by simp)
    exact (ok_law T ⟨b.code, b.bm, b.gP⟩).ok
end KT
open PySem PySem.W PySem.Calls PyProof.Rows
theorem PySem.Challenge.cw_keytape_k11_known_tapes_holds : PySem.Challenge.rw_keytape_k11_known_tapes.Holds := by
  w_on; o_law
  refine HandSHeadRun.head_any (r := OpenLaw.row PySem.Challenge.rw_keytape_k11_known_tapes) (q := view (OpenLaw.row PySem.Challenge.rw_keytape_k11_known_tapes).prog [57]) (H := KT.hk) (ob := KT.ob) (M := 5000) (loose := KT.loose) (d := HandSHeadRun.topDef (OpenLaw.row PySem.Challenge.rw_keytape_k11_known_tapes).prog 57) (kwd := []) KT.ob_eq
    (by kernel_rfl) (fun s => by kernel_rfl) KT.run (by kernel_rfl) (by kernel_rfl) (by kernel_rfl) (by rfl) (by first | assumption | decide +kernel) (by decide +kernel) ⟨rfl, rfl, rfl, rfl, rfl, by decide +kernel⟩ ?hw ?hc
  case hw => w_witness2
  case hc =>
    refine LamX.walk_ofTsE (l := PySem.Challenge.rw_keytape_k11_known_tapes) (n := 63) (k := 71) (x := "_law_script") (CX := fun w => L2.CX (PySem.Challenge.rw_keytape_k11_known_tapes).prog w) rfl (by decide) (by kernel_rfl) ⟨rfl, by decide, by decide⟩ ?F ?c
    case F =>
      intro w mg fa h Y G hmg0
      obtain ⟨K, KX, c⟩ := Y
      have hmg : mg ("law" : PySem.Str) = some (.ref fa) := by
        have e : (HandSHeadRun.topDef (OpenLaw.row PySem.Challenge.rw_keytape_k11_known_tapes).prog 57).name = ("law" : PySem.Str) := by kernel_rfl
        rw [← e]
        exact hmg0
      exact ⟨K, KX, KT.end_law KX G hmg c⟩
    case c =>
      intro w H s e s' hc
      obtain ⟨a, B, H', cls, d, _, _, _, _, _, _, _, hE⟩ := hc
      exact hE

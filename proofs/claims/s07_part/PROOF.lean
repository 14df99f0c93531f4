import PyProof.Rows.All
import Wide.All
import OpenK.AllK
import Wide.FinOn
import Open.SpecLaws
import KE.OsGo
import HandS.Base
import HandS.Call
import HandS.List
import HandS.Ends
import HandS.Exc
import HandS.TryOnly
import HandS.ExcOwn
import HandS.Spec
import HandS.Words
import HandS.WordsList
import HandS.WordsExc
import HandS.Comp
import HandS.Dict
import HandS.Iter
import HandS.WordsDict
import HandS.Walk
import PySem.Challenge.RW_spellednotes_s07_part
set_option Elab.async false
set_option linter.all false
set_option maxRecDepth 100000
set_option maxHeartbeats 2000000
namespace Sn
open PySem PySem.Spec PyProof.Rows L2
/-! ### Words of this proof: a def of the text with its promise; a number, a table of the top -/
def Has (P : Program) (w : World) (K : PySem.W.Frag) (mg : Str → Option Value) (base : Heap) (x : Str) (k : Nat) (ps : List Str) (sp : Sp) : Prop :=
  ∃ (f : Addr) (fd : FuncData), FnOk P w K mg base CX0 k f fd ps sp ∧ mg x = some (.ref f) ∧ PySem.W.keepIn K (.ref f) = true ∧ Binds K fd ps []
theorem pe_has {X : Cx} {x : Str} {k : Nat} {ps : List Str} {sp : Sp} {e : Expr} {es : List Expr} {p pos : Pos} {t : TA}
    (h : Has X.prog X.w X.K X.mg X.base x k ps sp) (hr : Room k X.A) (ha : PA X (e :: es) t) (hg : Gl X x := by rfl) (hdb : (x == ("__debug__" : Str)) = false := by decide)
    (he : starEach (e :: es) X.env = (false, eval e X.env) :: starEach es X.env := by rfl) (hpl : (backTo pos (starEach es X.env)).any (·.1) = false := by rfl) :
    PE X (.Call (.Name x p) (e :: es) [] pos) (tCall sp [] E0 t) := by
  obtain ⟨f, fd, F, g, kp, b⟩ := h
  exact pe_call F hr hg g kp b .nil pass0 ha hdb he hpl
theorem pe_globI {X : Cx} {x : Str} {n : Int} {pos : Pos} (hm : ∃ t, X.mg x = some (.int n t)) (hg : Gl X x := by rfl) (hd : (x == ("__debug__" : Str)) = false := by decide) : PE X (.Name x pos) (tC (.int n)) := by
  obtain ⟨t, ht⟩ := hm
  exact pe_glob hg ht ⟨t, rfl⟩ hd
/-- a written tuple of numbers of the top, at a name -/
def Tab (K : PySem.W.Frag) (mg : Str → Option Value) (x : Str) (ns : List Int) : Prop := ∃ a, mg x = some (.ref a) ∧ ∀ H, SqT K H a (ns.map V.int)
/-- its name as a value -/
def tGT (K : PySem.W.Frag) (ns : List Int) : TE := fun _ H Q => ∀ a, (∀ H, SqT K H a (ns.map V.int)) → Q (.ref a) H
theorem pe_globT {X : Cx} {x : Str} {ns : List Int} {pos : Pos} (hm : Tab X.K X.mg x ns) (hg : Gl X x := by rfl) (hd : (x == ("__debug__" : Str)) = false := by decide) : PE X (.Name x pos) (tGT X.K ns) := by
  obtain ⟨a, ha, hT⟩ := hm
  exact ⟨fun pins s σ H Q I h => (pe_glob (v := .ref a) hg ha rfl hd).run pins s σ H Q I (h a hT)⟩
theorem tGT_at {K : PySem.W.Frag} {ns : List Int} {σ : L2.St} {H : Hp} {Q : VK} (h : ∀ a, (∀ H, SqT K H a (ns.map V.int)) → Q (.ref a) H) : tGT K ns σ H Q := h
/-- an item of such a table -/
theorem at_tab {ns : List Int} {i : Int} (h0 : 0 ≤ i) (h1 : i < ns.length) : atI (ns.map V.int) i = some (V.int (ns.getD i.toNat 0)) := by
  obtain ⟨j, rfl⟩ : ∃ j : Nat, i = (j : Int) := ⟨i.toNat, by omega⟩
  refine atI_nat ?_
  have hj : j < ns.length := by omega
  simp [List.getElem?_map, List.getElem?_eq_getElem hj]
/-- a table's item, as a reading: the index lies in it -/
def tTab (ns : List Int) (ti : TE) : TE := fun σ H Q => ti σ H fun y H1 => ∃ i : Int, y = .int i ∧ (0 ≤ i ∧ i < ns.length) ∧ Q (.int (ns.getD i.toNat 0)) H1
theorem pe_tab {X : Cx} {x : Str} {ns : List Int} {p pos : Pos} {b : Expr} {ti : TE} (hm : Tab X.K X.mg x ns) (hi : PE X b ti) (hs : PlainIx b) (hg : Gl X x := by rfl) (hd : (x == ("__debug__" : Str)) = false := by decide) :
    PE X (.Subscript (.Name x p) b pos) (tTab ns ti) := by
  obtain ⟨a, ha, hT⟩ := hm
  have hr : IxR X (fun x y H Q => x = .ref a ∧ ∃ i : Int, y = .int i ∧ (0 ≤ i ∧ i < ns.length) ∧ Q (.int (ns.getD i.toNat 0)) H) := by
    rintro value slice pins s σ H x y v u Q I rx ry ⟨rfl, i, rfl, ⟨h0, h1⟩, q⟩ hs
    exact ix_tup value slice pins s σ H _ _ v u Q I rx ry ⟨a, _, i, _, rfl, rfl, hT H, at_tab h0 h1, q⟩ hs
  have e := pe_ix (pos := pos) hr (pe_glob (pos := p) (v := .ref a) hg ha rfl hd) hi hs
  have z : tOp (fun x y H Q => x = .ref a ∧ ∃ i : Int, y = .int i ∧ (0 ≤ i ∧ i < ns.length) ∧ Q (.int (ns.getD i.toNat 0)) H) (tC (.ref a)) ti = tTab ns ti := by
    funext σ H Q
    show ti σ H _ = ti σ H _
    congr 1
    funext y H1
    exact propext ⟨fun h => h.2, fun h => ⟨rfl, h⟩⟩
  rw [z] at e
  exact e
theorem in_ints {i : Int} : ∀ {ns : List Int}, inV (.int i) (ns.map V.int) = decide (i ∈ ns)
  | [] => by simp [inV]
  | n :: r => by
    have ih := in_ints (i := i) (ns := r)
    show (eqV (.int n) (.int i) || inV (.int i) (r.map V.int)) = _
    rw [ih]
    show ((n == i) || decide (i ∈ r)) = _
    by_cases h : n = i
    · subst h
      simp
    · have h' : ¬ i = n := fun z => h z.symm
      simp [h, h']
/-- is it in the table -/
def tInTab (ns : List Int) (ti : TE) : TE := fun σ H Q => ti σ H fun y H1 => ∃ i : Int, y = .int i ∧ Q (.bl (decide (i ∈ ns))) H1
theorem pe_inTab {X : Cx} {x : Str} {ns : List Int} {p pos : Pos} {b : Expr} {ti : TE} (hm : Tab X.K X.mg x ns) (hi : PE X b ti) (hg : Gl X x := by rfl) (hd : (x == ("__debug__" : Str)) = false := by decide) :
    PE X (.Compare b [.In] [.Name x p] pos) (tInTab ns ti) := by
  obtain ⟨a, ha, hT⟩ := hm
  have hr : OpR X (compareOp .In) (fun x y H Q => y = .ref a ∧ ∃ i : Int, x = .int i ∧ Q (.bl (decide (i ∈ ns))) H) := by
    rintro pins s σ H x y v u Q I rx ry ⟨rfl, i, rfl, q⟩
    refine op_in_seq pins s σ H _ _ v u Q I rx ry ⟨a, _, rfl, .inr (hT H), rfl, ?_, ?_⟩
    · rw [List.all_map]
      exact List.all_eq_true.mpr fun _ _ => rfl
    · rw [in_ints]
      exact q
  have e := pe_cmpR (pos := pos) hr hi (pe_glob (pos := p) (v := .ref a) hg ha rfl hd) rfl
  have z : tOp (fun x y H Q => y = .ref a ∧ ∃ i : Int, x = .int i ∧ Q (.bl (decide (i ∈ ns))) H) ti (tC (.ref a)) = tInTab ns ti := by
    funext σ H Q
    show ti σ H _ = ti σ H _
    congr 1
    funext y H1
    exact propext ⟨fun h => h.2, fun h => ⟨rfl, h⟩⟩
  rw [z] at e
  exact e
theorem pt_inTab {X : Cx} {x : Str} {ns : List Int} {p pos : Pos} {b : Expr} {ti : TE} (hm : Tab X.K X.mg x ns) (hi : PE X b ti) (hg : Gl X x := by rfl) (hd : (x == ("__debug__" : Str)) = false := by decide) :
    PT X (.Compare b [.In] [.Name x p] pos) (tB (tInTab ns ti)) := by
  obtain ⟨a, ha, hT⟩ := hm
  have hr : OpR X (compareOp .In) (fun x y H Q => y = .ref a ∧ ∃ i : Int, x = .int i ∧ Q (.bl (decide (i ∈ ns))) H) := by
    rintro pins s σ H x y v u Q I rx ry ⟨rfl, i, rfl, q⟩
    refine op_in_seq pins s σ H _ _ v u Q I rx ry ⟨a, _, rfl, .inr (hT H), rfl, ?_, ?_⟩
    · rw [List.all_map]
      exact List.all_eq_true.mpr fun _ _ => rfl
    · rw [in_ints]
      exact q
  have e := pt_cmpR (pos := pos) hr hi (pe_glob (pos := p) (v := .ref a) hg ha rfl hd) rfl
  have z : tTest (tOp (fun x y H Q => y = .ref a ∧ ∃ i : Int, x = .int i ∧ Q (.bl (decide (i ∈ ns))) H) ti (tC (.ref a))) = tB (tInTab ns ti) := by
    funext σ H Q
    show ti σ H _ = ti σ H _
    congr 1
    funext y H1
    exact propext ⟨fun h => h.2, fun h => ⟨rfl, h⟩⟩
  rw [z] at e
  exact e
/-- what the top has of a def -/
structure Def (K : PySem.W.Frag) (mg : Str → Option Value) (x : Str) (st : Stmt) (ps : List Str) (f : Addr) (fd : FuncData) : Prop where
  F : Fun K x x st f fd
  g : mg x = some (.ref f)
  bt : ∀ (s : Shared) (us : List Value), us.length = ps.length → BindsTo s fd ⟨us, []⟩ (ps.zip us)
theorem Def.b {K : PySem.W.Frag} {mg : Str → Option Value} {x : Str} {st : Stmt} {ps : List Str} {f : Addr} {fd : FuncData} (D : Def K mg x st ps f fd) : Binds K fd ps [] := fun s us _ hl => by
  rw [List.append_nil] at hl ⊢
  exact D.bt s us hl
theorem has_of {P : Program} {w : World} {K : PySem.W.Frag} {mg : Str → Option Value} {base : Heap} {x : Str} {st : Stmt} {ps : List Str} {k : Nat} {sp : Sp} (D : ∃ f fd, Def K mg x st ps f fd)
    (h : ∀ f fd, Def K mg x st ps f fd → FnOk P w K mg base CX0 k f fd ps sp) : Has P w K mg base x k ps sp := by
  obtain ⟨f, fd, D⟩ := D
  exact ⟨f, fd, h f fd D, D.g, D.F.kp, D.b⟩
theorem cxOf_K {CX : CXT} {P : Program} {w : World} {K : PySem.W.Frag} {mg : Str → Option Value} {base : Heap} {N : List Str} {q : Str} {sc : Scope} {f : Addr} {cd : Value} {A : Around} {o : List Env} {s : Shared} {H : Hp} {E : XK} : (cxOf CX P w K mg base N q sc f cd A o s H E).K = K := rfl
theorem Same.tup {K : PySem.W.Frag} {H H' : Hp} {a : Addr} {xs : List V} (e : Same H H') (h : SqT K H a xs) : SqT K H' a xs := by
  rcases h with (h | ⟨o, h⟩) | h
  · exact .inl (.inl (e _ _ h))
  · exact .inl (.inr ⟨o, e _ _ h⟩)
  · exact .inr h
theorem Same.new {H : Hp} {p : Addr} {o : HO} (hp : H p = none) : Same H (upd H p o) := fun b o' h => by
  rw [upd_ne (fun z => by rw [z, hp] at h; cases h)]
  exact h
theorem ne_new {H : Hp} {p q : Addr} {o : HO} (h : upd H p o q = none) : q ≠ p := fun z => by
  rw [z, upd_same] at h
  cases h
/-- tuple(xs), len(xs): their readings by name -/
def rTupOf (K : PySem.W.Frag) : List V → Hp → VK → Prop := fun xs H Q => ∃ p ys, xs = [.ref p] ∧ ((SqL K H p ys ∧ ∀ l, H l = none → Q (.ref l) (upd H l (.tup ys))) ∨ (SqT K H p ys ∧ Q (.ref p) H))
def rLenOf (K : PySem.W.Frag) : List V → Hp → VK → Prop := fun xs H Q => ∃ p ys, xs = [.ref p] ∧ (SqL K H p ys ∨ SqT K H p ys) ∧ Q (.int ys.length) H
theorem line {n : Nat} (h : n ≤ 1000000) : n ≤ sizeLine := Nat.le_trans h (by decide)
end Sn
namespace Sn
open PySem PySem.Spec PyProof.Rows L2
/-! ### The text: each def by its place in the program -/
def top (i : Nat) : Stmt := PySem.Challenge.pw_spellednotes_s07_part.main.body.getD i (.Pass ⟨0, 0, 0, 0⟩)
abbrev s_is_note : Stmt := top 15
theorem sc_is_note : FnScope ["letter", "raised", "octave"] ["letter", "raised", "octave"] (defScope s_is_note) := ⟨rfl, rfl, rfl, by decide +kernel, rfl, by decide +kernel, by decide +kernel⟩
abbrev s_is_interval : Stmt := top 16
theorem sc_is_interval : FnScope ["steps", "halves"] ["steps", "halves"] (defScope s_is_interval) := ⟨rfl, rfl, rfl, by decide +kernel, rfl, by decide +kernel, by decide +kernel⟩
abbrev s_is_key : Stmt := top 17
theorem sc_is_key : FnScope ["in_key"] ["in_key"] (defScope s_is_key) := ⟨rfl, rfl, rfl, by decide +kernel, rfl, by decide +kernel, by decide +kernel⟩
abbrev s_step_of : Stmt := top 18
theorem sc_step_of : FnScope ["letter", "octave"] ["letter", "octave"] (defScope s_step_of) := ⟨rfl, rfl, rfl, by decide +kernel, rfl, by decide +kernel, by decide +kernel⟩
abbrev s_sound_of : Stmt := top 19
theorem sc_sound_of : FnScope ["letter", "raised", "octave"] ["letter", "raised", "octave"] (defScope s_sound_of) := ⟨rfl, rfl, rfl, by decide +kernel, rfl, by decide +kernel, by decide +kernel⟩
abbrev s_moved : Stmt := top 20
theorem sc_moved : FnScope ["letter", "raised", "octave", "steps", "halves", "step", "new_letter", "new_octave", "sound"] ["letter", "raised", "octave", "steps", "halves"] (defScope s_moved) := ⟨rfl, rfl, rfl, by decide +kernel, rfl, by decide +kernel, by decide +kernel⟩
abbrev s_fifths_of : Stmt := top 21
theorem sc_fifths_of : FnScope ["letter", "raised"] ["letter", "raised"] (defScope s_fifths_of) := ⟨rfl, rfl, rfl, by decide +kernel, rfl, by decide +kernel, by decide +kernel⟩
abbrev s_interval_fifths : Stmt := top 22
theorem sc_interval_fifths : FnScope ["steps", "halves", "note"] ["steps", "halves"] (defScope s_interval_fifths) := ⟨rfl, rfl, rfl, by decide +kernel, rfl, by decide +kernel, by decide +kernel⟩
abbrev s_moved_key : Stmt := top 23
theorem sc_moved_key : FnScope ["in_key", "steps", "halves", "fifths"] ["in_key", "steps", "halves"] (defScope s_moved_key) := ⟨rfl, rfl, rfl, by decide +kernel, rfl, by decide +kernel, by decide +kernel⟩
abbrev s_notes_in : Stmt := top 24
theorem sc_notes_in : FnScope ["numbers", "start"] ["numbers"] (defScope s_notes_in) := ⟨rfl, rfl, rfl, by decide +kernel, rfl, by decide +kernel, by decide +kernel⟩
abbrev s_are_notes : Stmt := top 25
theorem sc_are_notes : FnScope ["notes", "letter", "raised", "octave"] ["notes"] (defScope s_are_notes) := ⟨rfl, rfl, rfl, by decide +kernel, rfl, by decide +kernel, by decide +kernel⟩
abbrev s_written_for : Stmt := top 26
theorem sc_written_for : FnScope ["letter", "raised", "octave", "steps", "halves", "note", "below", "above"] ["letter", "raised", "octave", "steps", "halves"] (defScope s_written_for) := ⟨rfl, rfl, rfl, by decide +kernel, rfl, by decide +kernel, by decide +kernel⟩
abbrev s_counted : Stmt := top 27
theorem sc_counted : FnScope ["numbers"] ["numbers"] (defScope s_counted) := ⟨rfl, rfl, rfl, by decide +kernel, rfl, by decide +kernel, by decide +kernel⟩
abbrev s_part : Stmt := top 28
theorem sc_part : FnScope ["steps", "halves", "lowest", "highest", "in_key", "notes", "sounding", "not_fitting", "answer", "letter", "raised", "octave", "fits"] ["steps", "halves", "lowest", "highest", "in_key", "notes"] (defScope s_part) := ⟨rfl, rfl, rfl, by decide +kernel, rfl, by decide +kernel, by decide +kernel⟩
/-- what the top has left -/
structure Txt (K : PySem.W.Frag) (mg : Str → Option Value) : Prop where
  c_REFUSED : ∃ t, mg "REFUSED" = some (.int (-1) t)
  c_LETTERS : ∃ t, mg "LETTERS" = some (.int (7) t)
  c_HALVES_IN_OCTAVE : ∃ t, mg "HALVES_IN_OCTAVE" = some (.int (12) t)
  c_MOST_RAISED : ∃ t, mg "MOST_RAISED" = some (.int (3) t)
  c_LOWEST_OCTAVE : ∃ t, mg "LOWEST_OCTAVE" = some (.int (-1) t)
  c_HIGHEST_OCTAVE : ∃ t, mg "HIGHEST_OCTAVE" = some (.int (9) t)
  c_MOST_STEPS : ∃ t, mg "MOST_STEPS" = some (.int (100) t)
  c_MOST_HALVES : ∃ t, mg "MOST_HALVES" = some (.int (200) t)
  c_MOST_IN_KEY : ∃ t, mg "MOST_IN_KEY" = some (.int (7) t)
  c_FIFTHS_IN_CIRCLE : ∃ t, mg "FIFTHS_IN_CIRCLE" = some (.int (12) t)
  c_FIFTHS_IN_RAISING : ∃ t, mg "FIFTHS_IN_RAISING" = some (.int (7) t)
  c_NUMBERS_IN_NOTE : ∃ t, mg "NUMBERS_IN_NOTE" = some (.int (3) t)
  c_HALVES_ABOVE_C : Tab K mg "HALVES_ABOVE_C" [0, 2, 4, 5, 7, 9, 11]
  c_FIFTHS_OF_LETTERS : Tab K mg "FIFTHS_OF_LETTERS" [0, 2, 4, -1, 1, 3, 5]
  b_abs : mg "abs" = none
  b_len : mg "len" = none
  b_list : mg "list" = none
  b_range : mg "range" = none
  b_tuple : mg "tuple" = none
  d_is_note : ∃ f fd, Def K mg "is_note" s_is_note ["letter", "raised", "octave"] f fd
  d_is_interval : ∃ f fd, Def K mg "is_interval" s_is_interval ["steps", "halves"] f fd
  d_is_key : ∃ f fd, Def K mg "is_key" s_is_key ["in_key"] f fd
  d_step_of : ∃ f fd, Def K mg "step_of" s_step_of ["letter", "octave"] f fd
  d_sound_of : ∃ f fd, Def K mg "sound_of" s_sound_of ["letter", "raised", "octave"] f fd
  d_moved : ∃ f fd, Def K mg "moved" s_moved ["letter", "raised", "octave", "steps", "halves"] f fd
  d_fifths_of : ∃ f fd, Def K mg "fifths_of" s_fifths_of ["letter", "raised"] f fd
  d_interval_fifths : ∃ f fd, Def K mg "interval_fifths" s_interval_fifths ["steps", "halves"] f fd
  d_moved_key : ∃ f fd, Def K mg "moved_key" s_moved_key ["in_key", "steps", "halves"] f fd
  d_notes_in : ∃ f fd, Def K mg "notes_in" s_notes_in ["numbers"] f fd
  d_are_notes : ∃ f fd, Def K mg "are_notes" s_are_notes ["notes"] f fd
  d_written_for : ∃ f fd, Def K mg "written_for" s_written_for ["letter", "raised", "octave", "steps", "halves"] f fd
  d_counted : ∃ f fd, Def K mg "counted" s_counted ["numbers"] f fd
  d_part : ∃ f fd, Def K mg "part" s_part ["steps", "halves", "lowest", "highest", "in_key", "notes"] f fd
end Sn
namespace Sn
open PySem PySem.Spec PyProof.Rows L2
/-! ### The mathematics -/
theorem nat_tab (l : Int) : ([0, 2, 4, 5, 7, 9, 11] : List Int).getD l.toNat 0 = Sw68.natural l := rfl
theorem fdiv7 (s : Int) : s.fdiv 7 = s / 7 := Int.fdiv_eq_ediv_of_nonneg s (by decide)
theorem fmod7 (s : Int) : s.fmod 7 = s % 7 := Int.fmod_eq_emod_of_nonneg s (by decide)
theorem note_iff {l r o : Int} : Sw68.noteOk ⟨l, r, o⟩ = true ↔ (0 ≤ l ∧ l ≤ 6) ∧ (-3 ≤ r ∧ r ≤ 3) ∧ (-1 ≤ o ∧ o ≤ 9) := by
  simp only [Sw68.noteOk, Bool.and_eq_true, decide_eq_true_eq]
  exact Iff.rfl
theorem ok_l {l r o : Int} (h : Sw68.noteOk ⟨l, r, o⟩ = true) : 0 ≤ l ∧ l ≤ 6 := by
  simp only [Sw68.noteOk, Bool.and_eq_true, decide_eq_true_eq] at h
  exact h.1
theorem int_in {z : Int} {l : List Int} (h : -2147483648 ≤ z ∧ z ≤ 2147483647) : Sw68Neutral.intIn (z :: l) = some (z, l) := by
  unfold Sw68Neutral.intIn
  exact if_pos ⟨by omega, by omega⟩
theorem note_in {a b c : Int} {l : List Int} (h1 : -2147483648 ≤ a ∧ a ≤ 2147483647) (h2 : -2147483648 ≤ b ∧ b ≤ 2147483647) (h3 : -2147483648 ≤ c ∧ c ≤ 2147483647) : Sw68Neutral.noteIn (a :: b :: c :: l) = some (⟨a, b, c⟩, l) := by
  unfold Sw68Neutral.noteIn
  rw [int_in h1]
  show (Option.bind (Sw68Neutral.intIn (b :: c :: l)) _) = _
  rw [int_in h2]
  show (Option.map _ (Sw68Neutral.intIn (c :: l))) = _
  rw [int_in h3]
  rfl
theorem interval_in {a b : Int} {l : List Int} (h1 : -2147483648 ≤ a ∧ a ≤ 2147483647) (h2 : -2147483648 ≤ b ∧ b ≤ 2147483647) : Sw68Neutral.intervalIn (a :: b :: l) = some (⟨a, b⟩, l) := by
  unfold Sw68Neutral.intervalIn
  rw [int_in h1]
  show (Option.map _ (Sw68Neutral.intIn (b :: l))) = _
  rw [int_in h2]
  rfl
def slotI (σ : L2.St) (i : Nat) : Int := match σ[i]? with
  | some (some (.int f)) => f
  | _ => 0
def lenAt (H : Hp) (B : Addr) : Nat := match H B with
  | some (.lst xs) => xs.length
  | _ => 0
theorem lenAt_of {H : Hp} {B : Addr} {xs : List V} (h : H B = some (.lst xs)) : lenAt H B = xs.length := by
  unfold lenAt
  rw [h]
theorem iteY {c : Bool} {A B : Prop} (h : c = true) (k : A) : if c = true then A else B := by
  rw [if_pos h]
  exact k
theorem iteN {c : Bool} {A B : Prop} (h : ¬ c = true) (k : B) : if c = true then A else B := by
  rw [if_neg h]
  exact k
def sp_is_note : Sp := fun vs H Q _ => ∃ l r o : Int, vs = [.int l, .int r, .int o] ∧ Q (.bl (Sw68.noteOk ⟨l, r, o⟩)) H
theorem ok_is_note {P : Program} {w : World} {K : PySem.W.Frag} {mg : Str → Option Value} {base : Heap} (T : Txt K mg) {f : Addr} {fd : FuncData} (D : Def K mg "is_note" s_is_note ["letter", "raised", "octave"] f fd) : FnOk P w K mg base CX0 1 f fd ["letter", "raised", "octave"] (sp_is_note) := by
  refine D.F.ok sc_is_note (fun vs H Q E h => ?_) (fun cdv A outer s H vs Q E hr h => ⟨_, (pss_cons (ps_if (pt_not (pt_chain op_le op_lt pe_int (pv 0) (pe_globI T.c_LETTERS))) (pss_one (ps_ret pe_bl)) pss_nil)
      (pss_cons (ps_if (pt_not (pt_chain op_le op_le (pe_un un_neg (pe_globI T.c_MOST_RAISED)) (pv 1) (pe_globI T.c_MOST_RAISED))) (pss_one (ps_ret pe_bl)) pss_nil)
      (pss_one (ps_ret (pe_chain op_le op_le (pe_globI T.c_LOWEST_OCTAVE) (pv 2) (pe_globI T.c_HIGHEST_OCTAVE)))))), ?_⟩)
  · obtain ⟨l, r, o, rfl, _⟩ := h
    rfl
  · obtain ⟨l, r, o, rfl, k⟩ := h
    have e : ∀ b, b = Sw68.noteOk ⟨l, r, o⟩ → Q (.bl b) H := fun b z => z ▸ k
    simp only [tSeq, tAsg, tIfS, tRet, tNext, tOp, tUn, tTest, tB, tNot, tAnd, tOr, tAndV, tOrV, tNotV, tChain, tVar, tC, tCons, tNil, tCall, tCB, tIf, tDrop, gName, tAug, ipI, rI, rI0, rU, CMul, CDiv, rEq, rNe, scal, tTab, tInTab, cxOf_K, L2.start, Nat.reduceAdd, Nat.reduceSub, Nat.sub_self, List.map_cons, List.map_nil, List.length_cons, List.length_nil, List.replicate, List.append_nil, List.cons_append, List.nil_append, List.set_cons_zero, List.set_cons_succ, List.getElem?_cons_zero, List.getElem?_cons_succ, Option.some.injEq, List.cons.injEq, V.int.injEq, V.bl.injEq, V.ref.injEq, and_true, true_and, exists_eq_left, and_assoc, exists_eq_left', exists_and_left, decide_eq_true_eq, Bool.true_eq_false, if_true, if_false]
    repeat' split
    all_goals
      apply e
      clear e k
      rw [Bool.eq_iff_iff, note_iff]
      simp at *
      try omega
theorem has_is_note {P : Program} {w : World} {K : PySem.W.Frag} {mg : Str → Option Value} {base : Heap} (T : Txt K mg) : Has P w K mg base "is_note" 1 ["letter", "raised", "octave"] (sp_is_note) :=
  has_of T.d_is_note fun f fd D => ok_is_note T D
def sp_is_interval : Sp := fun vs H Q _ => ∃ s h : Int, vs = [.int s, .int h] ∧ Q (.bl (Sw68.intervalOk ⟨s, h⟩)) H
theorem interval_iff {s h : Int} : Sw68.intervalOk ⟨s, h⟩ = true ↔ (-100 ≤ s ∧ s ≤ 100) ∧ (-200 ≤ h ∧ h ≤ 200) := by
  simp only [Sw68.intervalOk, Bool.and_eq_true, decide_eq_true_eq]
  exact Iff.rfl
theorem ok_is_interval {P : Program} {w : World} {K : PySem.W.Frag} {mg : Str → Option Value} {base : Heap} (T : Txt K mg) {f : Addr} {fd : FuncData} (D : Def K mg "is_interval" s_is_interval ["steps", "halves"] f fd) : FnOk P w K mg base CX0 1 f fd ["steps", "halves"] (sp_is_interval) := by
  refine D.F.ok sc_is_interval (fun vs H Q E h => ?_) (fun cdv A outer s H vs Q E hr h => ⟨_, (pss_one (ps_ret (pe_and (pe_chain op_le op_le (pe_un un_neg (pe_globI T.c_MOST_STEPS)) (pv 0) (pe_globI T.c_MOST_STEPS)) (pe_one (pe_chain op_le op_le (pe_un un_neg (pe_globI T.c_MOST_HALVES)) (pv 1) (pe_globI T.c_MOST_HALVES)))))), ?_⟩)
  · obtain ⟨s, h, rfl, _⟩ := h
    rfl
  · obtain ⟨s, h, rfl, k⟩ := h
    have e : ∀ b, b = Sw68.intervalOk ⟨s, h⟩ → Q (.bl b) H := fun b z => z ▸ k
    simp only [tSeq, tAsg, tIfS, tRet, tNext, tOp, tUn, tTest, tB, tNot, tAnd, tOr, tAndV, tOrV, tNotV, tChain, tVar, tC, tCons, tNil, tCall, tCB, tIf, tDrop, gName, tAug, ipI, rI, rI0, rU, CMul, CDiv, rEq, rNe, scal, tTab, tInTab, cxOf_K, L2.start, Nat.reduceAdd, Nat.reduceSub, Nat.sub_self, List.map_cons, List.map_nil, List.length_cons, List.length_nil, List.replicate, List.append_nil, List.cons_append, List.nil_append, List.set_cons_zero, List.set_cons_succ, List.getElem?_cons_zero, List.getElem?_cons_succ, Option.some.injEq, List.cons.injEq, V.int.injEq, V.bl.injEq, V.ref.injEq, and_true, true_and, exists_eq_left, and_assoc, exists_eq_left', exists_and_left, decide_eq_true_eq, Bool.true_eq_false, if_true, if_false]
    repeat' split
    all_goals
      apply e
      clear e k
      rw [Bool.eq_iff_iff, interval_iff]
      simp at *
      try omega
theorem has_is_interval {P : Program} {w : World} {K : PySem.W.Frag} {mg : Str → Option Value} {base : Heap} (T : Txt K mg) : Has P w K mg base "is_interval" 1 ["steps", "halves"] (sp_is_interval) :=
  has_of T.d_is_interval fun f fd D => ok_is_interval T D
def sp_is_key : Sp := fun vs H Q _ => ∃ k : Int, vs = [.int k] ∧ Q (.bl (Sw68.keyOk k)) H
theorem key_iff {k : Int} : Sw68.keyOk k = true ↔ (-7 ≤ k ∧ k ≤ 7) := by
  simp only [Sw68.keyOk, Bool.and_eq_true, decide_eq_true_eq]
  exact Iff.rfl
theorem ok_is_key {P : Program} {w : World} {K : PySem.W.Frag} {mg : Str → Option Value} {base : Heap} (T : Txt K mg) {f : Addr} {fd : FuncData} (D : Def K mg "is_key" s_is_key ["in_key"] f fd) : FnOk P w K mg base CX0 1 f fd ["in_key"] (sp_is_key) := by
  refine D.F.ok sc_is_key (fun vs H Q E h => ?_) (fun cdv A outer s H vs Q E hr h => ⟨_, (pss_one (ps_ret (pe_chain op_le op_le (pe_un un_neg (pe_globI T.c_MOST_IN_KEY)) (pv 0) (pe_globI T.c_MOST_IN_KEY)))), ?_⟩)
  · obtain ⟨k, rfl, _⟩ := h
    rfl
  · obtain ⟨k, rfl, q⟩ := h
    have e : ∀ b, b = Sw68.keyOk k → Q (.bl b) H := fun b z => z ▸ q
    simp only [tSeq, tAsg, tIfS, tRet, tNext, tOp, tUn, tTest, tB, tNot, tAnd, tOr, tAndV, tOrV, tNotV, tChain, tVar, tC, tCons, tNil, tCall, tCB, tIf, tDrop, gName, tAug, ipI, rI, rI0, rU, CMul, CDiv, rEq, rNe, scal, tTab, tInTab, cxOf_K, L2.start, Nat.reduceAdd, Nat.reduceSub, Nat.sub_self, List.map_cons, List.map_nil, List.length_cons, List.length_nil, List.replicate, List.append_nil, List.cons_append, List.nil_append, List.set_cons_zero, List.set_cons_succ, List.getElem?_cons_zero, List.getElem?_cons_succ, Option.some.injEq, List.cons.injEq, V.int.injEq, V.bl.injEq, V.ref.injEq, and_true, true_and, exists_eq_left, and_assoc, exists_eq_left', exists_and_left, decide_eq_true_eq, Bool.true_eq_false, if_true, if_false]
    repeat' split
    all_goals
      apply e
      clear e q
      rw [Bool.eq_iff_iff, key_iff]
      simp at *
      try omega
theorem has_is_key {P : Program} {w : World} {K : PySem.W.Frag} {mg : Str → Option Value} {base : Heap} (T : Txt K mg) : Has P w K mg base "is_key" 1 ["in_key"] (sp_is_key) :=
  has_of T.d_is_key fun f fd D => ok_is_key T D
def sp_step_of : Sp := fun vs H Q _ => ∃ l o : Int, vs = [.int l, .int o] ∧ Q (.int (7 * o + l)) H
theorem ok_step_of {P : Program} {w : World} {K : PySem.W.Frag} {mg : Str → Option Value} {base : Heap} (T : Txt K mg) {f : Addr} {fd : FuncData} (D : Def K mg "step_of" s_step_of ["letter", "octave"] f fd) : FnOk P w K mg base CX0 1 f fd ["letter", "octave"] (sp_step_of) := by
  refine D.F.ok sc_step_of (fun vs H Q E h => ?_) (fun cdv A outer s H vs Q E hr h => ⟨_, (pss_one (ps_ret (pe_op op_add (pe_op op_mul (pe_globI T.c_LETTERS) (pv 1)) (pv 0)))), ?_⟩)
  · obtain ⟨l, o, rfl, _⟩ := h
    rfl
  · obtain ⟨l, o, rfl, k⟩ := h
    simp only [tSeq, tAsg, tIfS, tRet, tNext, tOp, tUn, tTest, tB, tNot, tAnd, tOr, tAndV, tOrV, tNotV, tChain, tVar, tC, tCons, tNil, tCall, tCB, tIf, tDrop, gName, tAug, ipI, rI, rI0, rU, CMul, CDiv, rEq, rNe, scal, tTab, tInTab, cxOf_K, L2.start, Nat.reduceAdd, Nat.reduceSub, Nat.sub_self, List.map_cons, List.map_nil, List.length_cons, List.length_nil, List.replicate, List.append_nil, List.cons_append, List.nil_append, List.set_cons_zero, List.set_cons_succ, List.getElem?_cons_zero, List.getElem?_cons_succ, Option.some.injEq, List.cons.injEq, V.int.injEq, V.bl.injEq, V.ref.injEq, and_true, true_and, exists_eq_left, and_assoc, exists_eq_left', exists_and_left, decide_eq_true_eq, Bool.true_eq_false, if_true, if_false]
    exact ⟨.inl (by decide), k⟩
theorem has_step_of {P : Program} {w : World} {K : PySem.W.Frag} {mg : Str → Option Value} {base : Heap} (T : Txt K mg) : Has P w K mg base "step_of" 1 ["letter", "octave"] (sp_step_of) :=
  has_of T.d_step_of fun f fd D => ok_step_of T D
def sp_sound_of : Sp := fun vs H Q _ => ∃ l r o : Int, vs = [.int l, .int r, .int o] ∧ (0 ≤ l ∧ l ≤ 6) ∧ Q (.int (12 * (o + 1) + Sw68.natural l + r)) H
theorem ok_sound_of {P : Program} {w : World} {K : PySem.W.Frag} {mg : Str → Option Value} {base : Heap} (T : Txt K mg) {f : Addr} {fd : FuncData} (D : Def K mg "sound_of" s_sound_of ["letter", "raised", "octave"] f fd) : FnOk P w K mg base CX0 1 f fd ["letter", "raised", "octave"] (sp_sound_of) := by
  refine D.F.ok sc_sound_of (fun vs H Q E h => ?_) (fun cdv A outer s H vs Q E hr h => ⟨_, (pss_one (ps_ret (pe_op op_add (pe_op op_add (pe_op op_mul (pe_globI T.c_HALVES_IN_OCTAVE) (pe_op op_add (pv 2) pe_int)) (pe_tab T.c_HALVES_ABOVE_C (pv 0) (fun _ _ => rfl))) (pv 1)))), ?_⟩)
  · obtain ⟨l, r, o, rfl, _⟩ := h
    rfl
  · obtain ⟨l, r, o, rfl, hl, k⟩ := h
    simp only [tSeq, tAsg, tIfS, tRet, tNext, tOp, tUn, tTest, tB, tNot, tAnd, tOr, tAndV, tOrV, tNotV, tChain, tVar, tC, tCons, tNil, tCall, tCB, tIf, tDrop, gName, tAug, ipI, rI, rI0, rU, CMul, CDiv, rEq, rNe, scal, tTab, tInTab, cxOf_K, L2.start, Nat.reduceAdd, Nat.reduceSub, Nat.sub_self, List.map_cons, List.map_nil, List.length_cons, List.length_nil, List.replicate, List.append_nil, List.cons_append, List.nil_append, List.set_cons_zero, List.set_cons_succ, List.getElem?_cons_zero, List.getElem?_cons_succ, Option.some.injEq, List.cons.injEq, V.int.injEq, V.bl.injEq, V.ref.injEq, and_true, true_and, exists_eq_left, and_assoc, exists_eq_left', exists_and_left, decide_eq_true_eq, Bool.true_eq_false, if_true, if_false]
    exact ⟨.inl (by decide), hl.1, (by omega), k⟩
theorem has_sound_of {P : Program} {w : World} {K : PySem.W.Frag} {mg : Str → Option Value} {base : Heap} (T : Txt K mg) : Has P w K mg base "sound_of" 1 ["letter", "raised", "octave"] (sp_sound_of) :=
  has_of T.d_sound_of fun f fd D => ok_sound_of T D
def mv (l r o s h : Int) : Sw68.Note := Sw68.Note.moved ⟨l, r, o⟩ ⟨s, h⟩
def sp_moved : Sp := fun vs H Q _ => ∃ l r o s h : Int, vs = [.int l, .int r, .int o, .int s, .int h] ∧ (0 ≤ l ∧ l ≤ 6) ∧
  ∀ (H' : Hp) (p : Addr), H' p = some (.tup [.int (mv l r o s h).letter, .int (mv l r o s h).alt, .int (mv l r o s h).octave]) → Same H H' → Q (.ref p) H'
theorem mv_eq (l r o s h : Int) : mv l r o s h = ⟨(7 * o + l + s) % 7, 12 * (o + 1) + Sw68.natural l + r + h - (12 * ((7 * o + l + s) / 7 + 1) + Sw68.natural ((7 * o + l + s) % 7)), (7 * o + l + s) / 7⟩ := by
  unfold mv Sw68.Note.moved Sw68.spelled Sw68.Note.step Sw68.Note.sound
  simp only [fdiv7, fmod7]
theorem ok_moved {P : Program} {w : World} {K : PySem.W.Frag} {mg : Str → Option Value} {base : Heap} (T : Txt K mg) {f : Addr} {fd : FuncData} (D : Def K mg "moved" s_moved ["letter", "raised", "octave", "steps", "halves"] f fd) : FnOk P w K mg base CX0 2 f fd ["letter", "raised", "octave", "steps", "halves"] (sp_moved) := by
  refine D.F.ok sc_moved (fun vs H Q E h => ?_) (fun cdv A outer s H vs Q E hr h => ⟨_, (pss_cons (ps_set (i := 5) sc_moved.nd rfl (Or.inl rfl) (pe_op op_add (pe_has (has_step_of T) (hr.mono (by decide)) (pa_cons (pv 0) (pa_cons (pv 2) pa_nil))) (pv 3)))
      (pss_cons (ps_set (i := 6) sc_moved.nd rfl (Or.inl rfl) (pe_op op_mod (pv 5) (pe_globI T.c_LETTERS)))
      (pss_cons (ps_set (i := 7) sc_moved.nd rfl (Or.inl rfl) (pe_op op_fdiv (pv 5) (pe_globI T.c_LETTERS)))
      (pss_cons (ps_set (i := 8) sc_moved.nd rfl (Or.inl rfl) (pe_op op_add (pe_has (has_sound_of T) (hr.mono (by decide)) (pa_cons (pv 0) (pa_cons (pv 1) (pa_cons (pv 2) pa_nil)))) (pv 4)))
      (pss_one (ps_ret (pe_tup (pa_cons (pv 6) (pa_cons (pe_op op_sub (pv 8) (pe_has (has_sound_of T) (hr.mono (by decide)) (pa_cons (pv 6) (pa_cons pe_int (pa_cons (pv 7) pa_nil))))) (pa_cons (pv 7) pa_nil)))))))))), ?_⟩)
  · obtain ⟨l, r, o, s, h, rfl, _⟩ := h
    rfl
  · obtain ⟨l, r, o, s, h, rfl, hl, k⟩ := h
    simp only [tSeq, tAsg, tIfS, tRet, tNext, tOp, tUn, tTest, tB, tNot, tAnd, tOr, tAndV, tOrV, tNotV, tChain, tVar, tC, tCons, tNil, tCall, tCB, tIf, tDrop, gName, tAug, ipI, rI, rI0, rU, CMul, CDiv, rEq, rNe, scal, tTab, tInTab, cxOf_K, L2.start, Nat.reduceAdd, Nat.reduceSub, Nat.sub_self, List.map_cons, List.map_nil, List.length_cons, List.length_nil, List.replicate, List.append_nil, List.cons_append, List.nil_append, List.set_cons_zero, List.set_cons_succ, List.getElem?_cons_zero, List.getElem?_cons_succ, Option.some.injEq, List.cons.injEq, V.int.injEq, V.bl.injEq, V.ref.injEq, and_true, true_and, exists_eq_left, and_assoc, exists_eq_left', exists_and_left, decide_eq_true_eq, Bool.true_eq_false, if_true, if_false, sp_step_of, sp_sound_of, tTup, Int.add_zero]
    refine ⟨by decide, by decide, by decide, hl.1, hl.2, by omega, by omega, line (by decide), fun p hp => k _ p ?_ (Same.new hp)⟩
    rw [upd_same, mv_eq]
theorem has_moved {P : Program} {w : World} {K : PySem.W.Frag} {mg : Str → Option Value} {base : Heap} (T : Txt K mg) : Has P w K mg base "moved" 2 ["letter", "raised", "octave", "steps", "halves"] (sp_moved) :=
  has_of T.d_moved fun f fd D => ok_moved T D
def sp_fifths_of : Sp := fun vs H Q _ => ∃ l r : Int, vs = [.int l, .int r] ∧ (0 ≤ l ∧ l ≤ 6) ∧ Q (.int (Sw68.fifths ⟨l, r, 0⟩)) H
theorem ok_fifths_of {P : Program} {w : World} {K : PySem.W.Frag} {mg : Str → Option Value} {base : Heap} (T : Txt K mg) {f : Addr} {fd : FuncData} (D : Def K mg "fifths_of" s_fifths_of ["letter", "raised"] f fd) : FnOk P w K mg base CX0 1 f fd ["letter", "raised"] (sp_fifths_of) := by
  refine D.F.ok sc_fifths_of (fun vs H Q E h => ?_) (fun cdv A outer s H vs Q E hr h => ⟨_, (pss_one (ps_ret (pe_op op_add (pe_tab T.c_FIFTHS_OF_LETTERS (pv 0) (fun _ _ => rfl)) (pe_op op_mul (pe_globI T.c_FIFTHS_IN_RAISING) (pv 1))))), ?_⟩)
  · obtain ⟨l, r, rfl, _⟩ := h
    rfl
  · obtain ⟨l, r, rfl, hl, k⟩ := h
    simp only [tSeq, tAsg, tIfS, tRet, tNext, tOp, tUn, tTest, tB, tNot, tAnd, tOr, tAndV, tOrV, tNotV, tChain, tVar, tC, tCons, tNil, tCall, tCB, tIf, tDrop, gName, tAug, ipI, rI, rI0, rU, CMul, CDiv, rEq, rNe, scal, tTab, tInTab, cxOf_K, L2.start, Nat.reduceAdd, Nat.reduceSub, Nat.sub_self, List.map_cons, List.map_nil, List.length_cons, List.length_nil, List.replicate, List.append_nil, List.cons_append, List.nil_append, List.set_cons_zero, List.set_cons_succ, List.getElem?_cons_zero, List.getElem?_cons_succ, Option.some.injEq, List.cons.injEq, V.int.injEq, V.bl.injEq, V.ref.injEq, and_true, true_and, exists_eq_left, and_assoc, exists_eq_left', exists_and_left, decide_eq_true_eq, Bool.true_eq_false, if_true, if_false]
    exact ⟨hl.1, by omega, .inl (by decide), k⟩
theorem has_fifths_of {P : Program} {w : World} {K : PySem.W.Frag} {mg : Str → Option Value} {base : Heap} (T : Txt K mg) : Has P w K mg base "fifths_of" 1 ["letter", "raised"] (sp_fifths_of) :=
  has_of T.d_fifths_of fun f fd D => ok_fifths_of T D
def sp_interval_fifths (K : PySem.W.Frag) : Sp := fun vs H Q _ => ∃ s h : Int, vs = [.int s, .int h] ∧ ∀ H', Same H H' → Q (.int (Sw68.Interval.fifths ⟨s, h⟩)) H'
theorem if_eq (s h : Int) : Sw68.fifths ⟨(mv 0 0 0 s h).letter, (mv 0 0 0 s h).alt, 0⟩ = Sw68.Interval.fifths ⟨s, h⟩ := by
  unfold Sw68.Interval.fifths Sw68.fifths
  rw [mv_eq]
  simp only [Sw68.spelled, fdiv7, fmod7]
  have e1 : 7 * 0 + 0 + s = s := by omega
  have e2 : Sw68.natural 0 = 0 := rfl
  have e3 : 12 * (0 + 1) + Sw68.natural 0 + 0 + h = 12 + h := by omega
  rw [e1, e3]
theorem ok_interval_fifths {P : Program} {w : World} {K : PySem.W.Frag} {mg : Str → Option Value} {base : Heap} (T : Txt K mg) {f : Addr} {fd : FuncData} (D : Def K mg "interval_fifths" s_interval_fifths ["steps", "halves"] f fd) : FnOk P w K mg base CX0 3 f fd ["steps", "halves"] (sp_interval_fifths K) := by
  refine D.F.ok sc_interval_fifths (fun vs H Q E h => ?_) (fun cdv A outer s H vs Q E hr h => ⟨_, (pss_cons (ps_set (i := 2) sc_interval_fifths.nd rfl (Or.inl rfl) (pe_has (has_moved T) (hr.mono (by decide)) (pa_cons pe_int (pa_cons pe_int (pa_cons pe_int (pa_cons (pv 0) (pa_cons (pv 1) pa_nil)))))))
      (pss_one (ps_ret (pe_has (has_fifths_of T) (hr.mono (by decide)) (pa_cons (pe_ix ix_tup (pv 2) pe_int (fun _ _ => rfl)) (pa_cons (pe_ix ix_tup (pv 2) pe_int (fun _ _ => rfl)) pa_nil)))))), ?_⟩)
  · obtain ⟨s, h, rfl, _⟩ := h
    rfl
  · obtain ⟨s, h, rfl, k⟩ := h
    simp only [tSeq, tAsg, tIfS, tRet, tNext, tOp, tUn, tTest, tB, tNot, tAnd, tOr, tAndV, tOrV, tNotV, tChain, tVar, tC, tCons, tNil, tCall, tCB, tIf, tDrop, gName, tAug, ipI, rI, rI0, rU, CMul, CDiv, rEq, rNe, scal, tTab, tInTab, cxOf_K, L2.start, Nat.reduceAdd, Nat.reduceSub, Nat.sub_self, List.map_cons, List.map_nil, List.length_cons, List.length_nil, List.replicate, List.append_nil, List.cons_append, List.nil_append, List.set_cons_zero, List.set_cons_succ, List.getElem?_cons_zero, List.getElem?_cons_succ, Option.some.injEq, List.cons.injEq, V.int.injEq, V.bl.injEq, V.ref.injEq, and_true, true_and, exists_eq_left, and_assoc, exists_eq_left', exists_and_left, decide_eq_true_eq, Bool.true_eq_false, if_true, if_false, sp_moved, sp_fifths_of]
    refine ⟨by decide, by decide, fun H1 p hp sm => ⟨p, _, 0, _, rfl, rfl, SqT.of hp, rfl, p, _, 1, _, rfl, rfl, SqT.of hp, rfl, _, rfl, _, rfl, ?_⟩⟩
    rw [if_eq]
    have e : (mv 0 0 0 s h).letter = (7 * 0 + 0 + s) % 7 := by rw [mv_eq]
    rw [e]
    exact ⟨by omega, by omega, k _ sm⟩
theorem has_interval_fifths {P : Program} {w : World} {K : PySem.W.Frag} {mg : Str → Option Value} {base : Heap} (T : Txt K mg) : Has P w K mg base "interval_fifths" 3 ["steps", "halves"] (sp_interval_fifths K) :=
  has_of T.d_interval_fifths fun f fd D => ok_interval_fifths T D
def kM (k : Int) : Int := if 7 < k then k - 12 * ((k - 7 + 11) / 12) else if k < -7 then k + 12 * ((-7 - k + 11) / 12) else k
theorem kM_down {f : Int} (h : 7 < f) : kM (f - 12) = kM f := by
  unfold kM
  repeat' split
  all_goals omega
theorem kM_up {f : Int} (h : f < -7) : kM (f + 12) = kM f := by
  unfold kM
  repeat' split
  all_goals omega
theorem kM_id {f : Int} (h : f ≤ 7) (h' : -7 ≤ f) : kM f = f := by
  unfold kM
  repeat' split
  all_goals omega
def sp_moved_key (K : PySem.W.Frag) : Sp := fun vs H Q _ => ∃ k s h : Int, vs = [.int k, .int s, .int h] ∧ ∀ H', Same H H' → Q (.int (Sw68.keyMoved k ⟨s, h⟩)) H'
theorem ok_moved_key {P : Program} {w : World} {K : PySem.W.Frag} {mg : Str → Option Value} {base : Heap} (T : Txt K mg) {f : Addr} {fd : FuncData} (D : Def K mg "moved_key" s_moved_key ["in_key", "steps", "halves"] f fd) : FnOk P w K mg base CX0 4 f fd ["in_key", "steps", "halves"] (sp_moved_key K) := by
  refine D.F.ok sc_moved_key (fun vs H Q E h => ?_) (fun cdv A outer s H vs Q E hr h => ⟨_, (pss_cons (ps_set (i := 3) sc_moved_key.nd rfl (Or.inl rfl) (pe_op op_add (pv 0) (pe_has (has_interval_fifths T) (hr.mono (by decide)) (pa_cons (pv 1) (pa_cons (pv 2) pa_nil)))))
      (pss_cons (ps_while PassesOwn.never (pt_cmpR op_gt (pv 3) (pe_globI T.c_MOST_IN_KEY) (nomark _))
      (pss_one (ps_aug (i := 3) sc_moved_key.nd rfl (Or.inl rfl) (pe_globI T.c_FIFTHS_IN_CIRCLE) ip_sub)))
      (pss_cons (ps_while PassesOwn.never (pt_cmpR op_lt (pv 3) (pe_un un_neg (pe_globI T.c_MOST_IN_KEY)) (nomark _))
      (pss_one (ps_aug (i := 3) sc_moved_key.nd rfl (Or.inl rfl) (pe_globI T.c_FIFTHS_IN_CIRCLE) ip_add)))
      (pss_one (ps_ret (pv 3)))))), ?_⟩)
  · obtain ⟨k, s, h, rfl, _⟩ := h
    rfl
  · obtain ⟨k, s, h, rfl, q⟩ := h
    simp only [tSeq, tAsg, tIfS, tRet, tNext, tOp, tUn, tTest, tB, tNot, tAnd, tOr, tAndV, tOrV, tNotV, tChain, tVar, tC, tCons, tNil, tCall, tCB, tIf, tDrop, gName, tAug, ipI, rI, rI0, rU, CMul, CDiv, rEq, rNe, scal, tTab, tInTab, cxOf_K, L2.start, Nat.reduceAdd, Nat.reduceSub, Nat.sub_self, List.map_cons, List.map_nil, List.length_cons, List.length_nil, List.replicate, List.append_nil, List.cons_append, List.nil_append, List.set_cons_zero, List.set_cons_succ, List.getElem?_cons_zero, List.getElem?_cons_succ, Option.some.injEq, List.cons.injEq, V.int.injEq, V.bl.injEq, V.ref.injEq, and_true, true_and, exists_eq_left, and_assoc, exists_eq_left', exists_and_left, decide_eq_true_eq, Bool.true_eq_false, if_true, if_false, sp_interval_fifths]
    intro H' sm
    have q1 := q H' sm
    change Q (.int (kM (k + Sw68.Interval.fifths ⟨s, h⟩))) H' at q1
    generalize k + Sw68.Interval.fifths ⟨s, h⟩ = g at q1 ⊢
    refine while_by (fun σ H1 => H1 = H' ∧ ∃ f : Int, σ = [some (.int k), some (.int s), some (.int h), some (.int f)] ∧ kM f = kM g) (fun σ _ => (slotI σ 3).toNat) ⟨rfl, g, rfl, rfl⟩ ?_ ?_
    · rintro σ H1 ⟨rfl, f, rfl, e⟩
      simp only [tSeq, tAsg, tIfS, tRet, tNext, tOp, tUn, tTest, tB, tNot, tAnd, tOr, tAndV, tOrV, tNotV, tChain, tVar, tC, tCons, tNil, tCall, tCB, tIf, tDrop, gName, tAug, ipI, rI, rI0, rU, CMul, CDiv, rEq, rNe, scal, tTab, tInTab, cxOf_K, L2.start, Nat.reduceAdd, Nat.reduceSub, Nat.sub_self, List.map_cons, List.map_nil, List.length_cons, List.length_nil, List.replicate, List.append_nil, List.cons_append, List.nil_append, List.set_cons_zero, List.set_cons_succ, List.getElem?_cons_zero, List.getElem?_cons_succ, Option.some.injEq, List.cons.injEq, V.int.injEq, V.bl.injEq, V.ref.injEq, and_true, true_and, exists_eq_left, and_assoc, exists_eq_left', exists_and_left, decide_eq_true_eq, Bool.true_eq_false, if_true, if_false]
      by_cases c : 7 < f
      · rw [if_pos c]
        refine ⟨by rw [kM_down c, e], ?_⟩
        show (f - 12).toNat < f.toNat
        omega
      · rw [if_neg c]
        refine while_by (fun σ H1' => H1' = H1 ∧ ∃ f : Int, σ = [some (.int k), some (.int s), some (.int h), some (.int f)] ∧ f ≤ 7 ∧ kM f = kM g) (fun σ _ => (7 - slotI σ 3).toNat) ⟨rfl, f, rfl, by omega, e⟩ ?_ ?_
        · rintro σ H2 ⟨rfl, f, rfl, le, e⟩
          simp only [tSeq, tAsg, tIfS, tRet, tNext, tOp, tUn, tTest, tB, tNot, tAnd, tOr, tAndV, tOrV, tNotV, tChain, tVar, tC, tCons, tNil, tCall, tCB, tIf, tDrop, gName, tAug, ipI, rI, rI0, rU, CMul, CDiv, rEq, rNe, scal, tTab, tInTab, cxOf_K, L2.start, Nat.reduceAdd, Nat.reduceSub, Nat.sub_self, List.map_cons, List.map_nil, List.length_cons, List.length_nil, List.replicate, List.append_nil, List.cons_append, List.nil_append, List.set_cons_zero, List.set_cons_succ, List.getElem?_cons_zero, List.getElem?_cons_succ, Option.some.injEq, List.cons.injEq, V.int.injEq, V.bl.injEq, V.ref.injEq, and_true, true_and, exists_eq_left, and_assoc, exists_eq_left', exists_and_left, decide_eq_true_eq, Bool.true_eq_false, if_true, if_false]
          by_cases c : f < -7
          · rw [if_pos c]
            refine ⟨by omega, by rw [kM_up c, e], ?_⟩
            show (7 - (f + 12)).toNat < (7 - f).toNat
            omega
          · rw [if_neg c]
            rw [← e, kM_id le (by omega)] at q1
            exact q1
        · intro σ H Q Q' hq h
          simp only [tTest, tOp, tVar, tC, rI0, tUn, rU] at h ⊢
          obtain ⟨v, hv, i, e0, i1, j1, e1, e2, b, e3, h⟩ := h
          exact ⟨v, hv, i, e0, i1, j1, e1, e2, b, e3, hq _ _ h⟩
    · intro σ H Q Q' hq h
      simp only [tTest, tOp, tVar, tC, rI0, tUn, rU] at h ⊢
      obtain ⟨v, hv, i1, j1, e1, e2, b, e3, h⟩ := h
      exact ⟨v, hv, i1, j1, e1, e2, b, e3, hq _ _ h⟩
theorem has_moved_key {P : Program} {w : World} {K : PySem.W.Frag} {mg : Str → Option Value} {base : Heap} (T : Txt K mg) : Has P w K mg base "moved_key" 4 ["in_key", "steps", "halves"] (sp_moved_key K) :=
  has_of T.d_moved_key fun f fd D => ok_moved_key T D
/-! the parse -/
theorem many_in {A : Type} {p : List Int → Option (A × List Int)} {e : A → List Int} {ok : A → Prop} (hp : ∀ l x r, p l = some (x, r) → l = e x ++ r ∧ ok x) :
    ∀ (k : Nat) (l : List Int) (xs : List A) (r : List Int), Sw68Neutral.many_ p k l = some (xs, r) → l = xs.flatMap e ++ r ∧ xs.length = k ∧ ∀ x ∈ xs, ok x
  | 0, l, xs, r, h => by
    unfold Sw68Neutral.many_ at h
    injection h with h
    injection h with h1 h2
    subst h1 h2
    exact ⟨rfl, rfl, fun x hx => nomatch hx⟩
  | k + 1, l, xs, r, h => by
    unfold Sw68Neutral.many_ at h
    cases e1 : p l with
    | none => rw [e1] at h; cases h
    | some x =>
      rw [e1] at h
      obtain ⟨x, l1⟩ := x
      obtain ⟨e1, o1⟩ := hp l x l1 e1
      change Option.map _ (Sw68Neutral.many_ p k l1) = _ at h
      cases e2 : Sw68Neutral.many_ p k l1 with
      | none => rw [e2] at h; cases h
      | some y =>
        rw [e2] at h
        obtain ⟨ys, r'⟩ := y
        injection h with h
        injection h with h1 h2
        have h1' : x :: ys = xs := h1
        have h2' : r' = r := h2
        subst h1' h2'
        obtain ⟨e3, e4, e5⟩ := many_in hp k l1 ys r' e2
        refine ⟨?_, by rw [List.length_cons, e4], fun z hz => ?_⟩
        · rw [e1, e3, List.flatMap_cons, List.append_assoc]
        · rcases List.mem_cons.mp hz with rfl | hz
          · exact o1
          · exact e5 z hz
/-- a list behind how many it has -/
def encL {A : Type} (e : A → List Int) (xs : List A) : List Int := (xs.length : Int) :: xs.flatMap e
theorem list_in {A : Type} {p : List Int → Option (A × List Int)} {e : A → List Int} {ok : A → Prop} (hp : ∀ l x r, p l = some (x, r) → l = e x ++ r ∧ ok x)
    (l : List Int) (xs : List A) (r : List Int) (h : Sw68Neutral.listIn p l = some (xs, r)) : l = encL e xs ++ r ∧ (xs.length ≤ 60 ∧ ∀ x ∈ xs, ok x) := by
  unfold Sw68Neutral.listIn at h
  cases l with
  | nil => cases h
  | cons n l =>
    by_cases c : 0 ≤ n ∧ n ≤ 60
    · have h' : (if 0 ≤ n ∧ n ≤ 60 then Sw68Neutral.many_ p n.toNat l else none) = some (xs, r) := h
      rw [if_pos c] at h'
      obtain ⟨h1, h2, h3⟩ := many_in hp _ _ _ _ h'
      refine ⟨?_, by omega, h3⟩
      unfold encL
      rw [List.cons_append, ← h1, h2, Int.toNat_of_nonneg c.1]
    · have h' : (if 0 ≤ n ∧ n ≤ 60 then Sw68Neutral.many_ p n.toNat l else none) = some (xs, r) := h
      rw [if_neg c] at h'
      cases h'
theorem int_in_inv {l : List Int} {z : Int} {r : List Int} (h : Sw68Neutral.intIn l = some (z, r)) : l = z :: r ∧ (-2147483648 ≤ z ∧ z ≤ 2147483647) := by
  unfold Sw68Neutral.intIn at h
  cases l with
  | nil => cases h
  | cons n l =>
    have h' : (if -(2 ^ 31) ≤ n ∧ n < 2 ^ 31 then some (n, l) else none) = some (z, r) := h
    by_cases c : -(2 ^ 31 : Int) ≤ n ∧ n < 2 ^ 31
    · rw [if_pos c] at h'
      injection h' with h'
      injection h' with h1 h2
      subst h1 h2
      exact ⟨rfl, by omega⟩
    · rw [if_neg c] at h'
      cases h'
abbrev outN (n : Sw68.Note) : List Int := [n.letter, n.alt, n.octave]
theorem note_in_inv (l : List Int) (x : Sw68.Note) (r : List Int) (h : Sw68Neutral.noteIn l = some (x, r)) : l = outN x ++ r ∧ True := by
  unfold Sw68Neutral.noteIn at h
  cases e1 : Sw68Neutral.intIn l with
  | none => rw [e1] at h; cases h
  | some a =>
    rw [e1] at h
    obtain ⟨a, l1⟩ := a
    change Option.bind (Sw68Neutral.intIn l1) _ = _ at h
    cases e2 : Sw68Neutral.intIn l1 with
    | none => rw [e2] at h; cases h
    | some b =>
      rw [e2] at h
      obtain ⟨b, l2⟩ := b
      change Option.map _ (Sw68Neutral.intIn l2) = _ at h
      cases e3 : Sw68Neutral.intIn l2 with
      | none => rw [e3] at h; cases h
      | some c =>
        rw [e3] at h
        obtain ⟨c, l3⟩ := c
        injection h with h
        injection h with h1 h2
        have h1' : (⟨a, b, c⟩ : Sw68.Note) = x := h1
        have h2' : l3 = r := h2
        subst h1' h2'
        obtain ⟨rfl, _⟩ := int_in_inv e1
        obtain ⟨rfl, _⟩ := int_in_inv e2
        obtain ⟨rfl, _⟩ := int_in_inv e3
        exact ⟨rfl, trivial⟩
/-- the numbers of bars of notes -/
abbrev encB (bs : List (List Sw68.Note)) : List Int := encL (encL outN) bs
theorem all_inv {A : Type} {x : Option (A × List Int)} {a : A} (h : Sw68Neutral.all_ x = some a) : x = some (a, []) := by
  unfold Sw68Neutral.all_ at h
  cases x with
  | none => cases h
  | some y =>
    obtain ⟨y, l⟩ := y
    cases l with
    | nil =>
      injection h with h
      have h' : y = a := h
      rw [h']
    | cons z l => cases h
theorem asked_call {c : List Int} (h : Sw68Neutral.asked [c] = true) : ∃ x, Sw68Neutral.callOf c = some x := by
  unfold Sw68Neutral.asked at h
  rw [Bool.and_eq_true] at h
  have h1 := h.1
  rw [List.all_cons, Bool.and_eq_true] at h1
  exact Option.isSome_iff_exists.mp h1.1
/-! ### notes in the heap: a list of tuples -/
abbrev vN (n : Sw68.Note) : List V := [.int n.letter, .int n.alt, .int n.octave]
def NotesAt (H : Hp) (a : Addr) (ns : List Sw68.Note) : Prop := ∃ rs : List Addr, H a = some (.lst (rs.map V.ref)) ∧ Paired (fun r n => H r = some (.tup (vN n))) rs ns
theorem Same.notes {H H' : Hp} {a : Addr} {ns : List Sw68.Note} (s : Same H H') (h : NotesAt H a ns) : NotesAt H' a ns := by
  obtain ⟨rs, h1, h2⟩ := h
  exact ⟨rs, s _ _ h1, L2.Paired.mapP h2 fun r n h => s _ _ h⟩
theorem paired_at {α β : Type} {F : α → β → Prop} : ∀ {l₁ : List α} {l₂ : List β}, Paired F l₁ l₂ → ∀ {i : Nat} {x : α}, l₁[i]? = some x → ∃ y, l₂[i]? = some y ∧ F x y
  | _, _, .nil, i, x, h => by simp at h
  | _, _, .cons h1 h2, 0, x, h => by
    rw [List.getElem?_cons_zero] at h
    injection h with h
    subst h
    exact ⟨_, rfl, h1⟩
  | _, _, .cons h1 h2, i + 1, x, h => by
    rw [List.getElem?_cons_succ] at h
    obtain ⟨y, e, f⟩ := paired_at h2 h
    exact ⟨y, by rw [List.getElem?_cons_succ]; exact e, f⟩
theorem ref_at {rs : List Addr} {i : Nat} {x : V} (h : (rs.map V.ref)[i]? = some x) : ∃ r, rs[i]? = some r ∧ x = .ref r := by
  rw [List.getElem?_map] at h
  cases e : rs[i]? with
  | none => rw [e] at h; cases h
  | some r =>
    rw [e] at h
    injection h with h
    exact ⟨r, rfl, h.symm⟩
theorem drop_at {α : Type} {l : List α} {i : Nat} {x : α} (h : l[i]? = some x) : l.drop i = x :: l.drop (i + 1) := by
  obtain ⟨hi, e⟩ := List.getElem?_eq_some_iff.mp h
  rw [List.drop_eq_getElem_cons hi, e]
theorem take_at {α : Type} {l : List α} {i : Nat} {x : α} (h : l[i]? = some x) : l.take (i + 1) = l.take i ++ [x] := by
  rw [List.take_add_one, h]
  rfl
theorem Same.upd {H H' : Hp} {p : Addr} {o : HO} (s : Same H H') (hp : H p = none) : Same H (upd H' p o) := fun b o' h => by
  rw [upd_ne (fun z => by rw [z, hp] at h; cases h)]
  exact s _ _ h
/-- all but the thing at l stays -/
def SameB (l : Addr) (H H' : Hp) : Prop := ∀ b o, b ≠ l → H b = some o → H' b = some o
theorem SameB.refl {l : Addr} {H : Hp} : SameB l H H := fun _ _ _ h => h
theorem SameB.same {l : Addr} {H H1 H2 : Hp} (a : SameB l H H1) (b : Same H1 H2) : SameB l H H2 := fun x o n h => b _ _ (a x o n h)
theorem SameB.upd {l : Addr} {H H1 : Hp} {o : HO} (a : SameB l H H1) : SameB l H (upd H1 l o) := fun x o' n h => by
  rw [upd_ne n]
  exact a x o' n h
theorem SameB.notes {l : Addr} {H H' : Hp} {a : Addr} {ns : List Sw68.Note} {n : Int} {xs : List V} (s : SameB l H H') (hl : H l = some (.lst (.int n :: xs))) (h : NotesAt H a ns) : NotesAt H' a ns := by
  obtain ⟨rs, h1, h2⟩ := h
  refine ⟨rs, s _ _ ?_ h1, L2.Paired.mapP h2 fun r n h => s _ _ ?_ h⟩
  · intro z
    rw [z, hl] at h1
    injection h1 with h1
    injection h1 with h1
    cases rs with
    | nil => cases h1
    | cons r rs =>
      rw [List.map_cons] at h1
      injection h1 with h1
      cases h1
  · intro z
    rw [z, hl] at h
    injection h with h
    cases h
theorem rg3 {n : Nat} (h : n ≤ 1000000) : RgC 0 ((3 * n : Nat) : Int) 3 n := by
  have e : Builtin.Range.rangeSize 0 ((3 * n : Nat) : Int) 3 = (n : Int) := by
    unfold Builtin.Range.rangeSize
    rw [if_pos (by decide)]
    split <;> omega
  refine ⟨by decide, by decide, ?_, e⟩
  unfold Builtin.Range.small
  rw [e]
  unfold Builtin.Range.rangeFitsLong
  have b : ∀ x : Int, -2 ^ 63 ≤ x → x < 2 ^ 63 → (decide (-2 ^ 63 ≤ x) && decide (x < 2 ^ 63)) = true := fun x h0 h1 => by rw [decide_eq_true h0, decide_eq_true h1]; rfl
  rw [if_pos (show (3 : Int) > 0 by decide), b 0 (by omega) (by omega), b 3 (by omega) (by omega), b (n : Int) (by omega) (by omega), b ((3 * n : Nat) : Int) (by omega) (by omega), b (((3 * n : Nat) : Int) + (3 - 1)) (by omega) (by omega), Bool.or_true]
  rfl
theorem cut_mid (A B C : List V) {i j : Int} (hi : i = (A.length : Nat)) (hj : j = (A.length + B.length : Nat)) : cutV (A ++ (B ++ C)) (some i) (some j) = B := by
  subst hi hj
  unfold cutV
  rw [HT.sIx_nat, HT.sIx_nat]
  have e1 : min A.length (A ++ (B ++ C)).length = A.length := by
    rw [List.length_append]
    omega
  have e2 : min (A.length + B.length) (A ++ (B ++ C)).length = A.length + B.length := by
    rw [List.length_append, List.length_append]
    omega
  rw [e1, e2, List.drop_left, Nat.add_sub_cancel_left, List.take_left]
theorem flat_outN (ns : List Sw68.Note) : (ns.flatMap outN).length = 3 * ns.length := by
  induction ns with
  | nil => rfl
  | cons x l ih =>
    rw [List.flatMap_cons, List.length_append, ih, List.length_cons]
    show 3 + 3 * l.length = 3 * (l.length + 1)
    omega
theorem note_cut {ns : List Sw68.Note} {i : Nat} {x : Sw68.Note} (h : ns[i]? = some x) : cutV ((ns.flatMap outN).map V.int) (some (0 + (i : Int) * 3)) (some (0 + (i : Int) * 3 + 3)) = vN x := by
  have hi : i < ns.length := (List.getElem?_eq_some_iff.mp h).1
  have e : ns = ns.take i ++ (x :: ns.drop (i + 1)) := by rw [← drop_at h, List.take_append_drop]
  have e2 : (ns.flatMap outN).map V.int = ((ns.take i).flatMap outN).map V.int ++ (vN x ++ ((ns.drop (i + 1)).flatMap outN).map V.int) := by
    conv => lhs; rw [e]
    rw [List.flatMap_append, List.flatMap_cons, List.map_append, List.map_append]
    rfl
  have l : (((ns.take i).flatMap outN).map V.int).length = 3 * i := by
    rw [List.length_map, flat_outN, List.length_take]
    omega
  rw [e2]
  exact cut_mid _ _ _ (by rw [l]; omega) (by rw [l]; show _ = ((3 * i + 3 : Nat) : Int); omega)
def sp_notes_in (K : PySem.W.Frag) : Sp := fun vs H Q _ => ∃ (a : Addr) (ns : List Sw68.Note), vs = [.ref a] ∧ SqL K H a ((ns.flatMap outN).map V.int) ∧ ns.length ≤ 60 ∧
  ∀ (H' : Hp) (p : Addr), NotesAt H' p ns → Same H H' → H p = none → Q (.ref p) H'
theorem ok_notes_in {P : Program} {w : World} {K : PySem.W.Frag} {mg : Str → Option Value} {base : Heap} (T : Txt K mg) {f : Addr} {fd : FuncData} (D : Def K mg "notes_in" s_notes_in ["numbers"] f fd) : FnOk P w K mg base CX0 1 f fd ["numbers"] (sp_notes_in K) := by
  refine D.F.ok sc_notes_in (fun vs H Q E h => ?_) (fun cdv A outer s H vs Q E hr h => ⟨_, (pss_one (ps_ret (pe_lc (own := [("start", 1)]) (g := (gName 1)) (tt := tYes) (te := (tCB (rTupOf K) (tCons (tSl (rSlL K) (tVar 0) (tPart (tVar 1)) (tPart (tOp (rI0 fun i j => V.int (i + j)) (tVar 1) (tC (V.int (3)))))) tNil))) rfl sc_notes_in.nd (pi_range3 (by rfl) T.b_range (pa_cons pe_int (pa_cons (pe_callB call_len_seq (by rfl) T.b_len PySem.boot_len (pa_cons (pv 0) pa_nil)) (pa_cons (pe_globI T.c_NUMBERS_IN_NOTE) pa_nil)))) (blkOk_by (N := ["numbers", "start"]) (sc := defScope s_notes_in) (by decide +kernel)) (fun _ _ _ _ _ => (pg_name (i := 1) sc_notes_in.nd rfl (Or.inl rfl))) (fun _ _ _ _ _ => pts_nil) (fun _ _ _ _ _ => (pe_callTy call_tuple_of (by rfl) T.b_tuple (by decide +kernel) (pa_cons (pe_slice sl_list (pv 0) (po_some (pv 1)) (po_some (pe_op op_add (pv 1) (pe_globI T.c_NUMBERS_IN_NOTE)))) pa_nil)))))), ?_⟩)
  · obtain ⟨a, ns, rfl, _⟩ := h
    rfl
  · obtain ⟨a, ns, rfl, ha, hl, k⟩ := h
    simp only [tSeq, tAsg, tIfS, tRet, tNext, tOp, tUn, tTest, tB, tNot, tAnd, tOr, tAndV, tOrV, tNotV, tChain, tVar, tC, tCons, tNil, tCall, tCB, tIf, tDrop, gName, tAug, ipI, rI, rI0, rU, CMul, CDiv, rEq, rNe, scal, tTab, tInTab, cxOf_K, L2.start, Nat.reduceAdd, Nat.reduceSub, Nat.sub_self, List.map_cons, List.map_nil, List.length_cons, List.length_nil, List.replicate, List.append_nil, List.cons_append, List.nil_append, List.set_cons_zero, List.set_cons_succ, List.getElem?_cons_zero, List.getElem?_cons_succ, Option.some.injEq, List.cons.injEq, V.int.injEq, V.bl.injEq, V.ref.injEq, and_true, true_and, exists_eq_left, and_assoc, exists_eq_left', exists_and_left, decide_eq_true_eq, Bool.true_eq_false, if_true, if_false]
    refine ⟨_, rfl, a, rfl, _, .inl ha, 0, _, 3, ns.length, rfl, ?_, fun D hD => lc_it walk_rangeC
      (fun i Hc => Same H Hc ∧ ∃ rs : List Addr, Hc D = some (.lst (rs.map V.ref)) ∧ Paired (fun r n => Hc r = some (.tup (vN n))) rs (ns.take i)) ?_ (fun _ _ _ _ => trivial) ?_ ?_⟩
    · rw [List.length_map, flat_outN]
      exact rg3 (by omega)
    · exact ⟨Same.new hD, [], upd_same, .nil⟩
    · rintro i x Hc H' hi ⟨sm, rs, hrs, hp⟩ ⟨rfl, rfl⟩
      have hx : ns[i]? = some ns[i] := List.getElem?_eq_getElem hi
      simp only [tYes, eq_self, if_true]
      refine ⟨rfl, ?_⟩
      refine ⟨_, rfl, _, rfl, _, rfl, _, rfl, _, _, rfl, rfl, _, rfl, a, _, rfl, Same.seq sm ha, fun p1 hp1 => ⟨p1, _, rfl, .inl ⟨SqL.of upd_same, fun p2 hp2 => ?_⟩⟩⟩
      rw [note_cut hx] at hp2 ⊢
      have s2 : Same H' (upd (upd H' p1 (.lst (vN ns[i]))) p2 (.tup (vN ns[i]))) := (Same.new hp1).trans (Same.new hp2)
      refine ⟨rs.map V.ref, s2 _ _ hrs, line ?_, Same.upd (Same.trans sm s2) hD, rs ++ [p2], upd_same.trans (by rw [List.map_append]; rfl), ?_⟩
      · rw [List.length_map]
        have := hp.length
        rw [List.length_take] at this
        omega
      · rw [take_at hx]
        refine Paired.snoc (L2.Paired.mapP hp fun r n h => ?_) ?_
        · rw [upd_ne (ne_of h hrs (fun z => nomatch z))]
          exact s2 _ _ h
        · rw [upd_ne (ne_of upd_same (s2 _ _ hrs) (fun z => nomatch z))]
          exact upd_same
    · rintro Hc ⟨sm, rs, hrs, hp⟩
      rw [List.take_length] at hp
      exact k Hc D ⟨rs, hrs, hp⟩ sm hD
theorem has_notes_in {P : Program} {w : World} {K : PySem.W.Frag} {mg : Str → Option Value} {base : Heap} (T : Txt K mg) : Has P w K mg base "notes_in" 1 ["numbers"] (sp_notes_in K) :=
  has_of T.d_notes_in fun f fd D => ok_notes_in T D
def sp_are_notes : Sp := fun vs H Q _ => ∃ (a : Addr) (ns : List Sw68.Note), vs = [.ref a] ∧ NotesAt H a ns ∧ Q (.bl (ns.all Sw68.noteOk)) H
theorem ok_are_notes {P : Program} {w : World} {K : PySem.W.Frag} {mg : Str → Option Value} {base : Heap} (T : Txt K mg) {f : Addr} {fd : FuncData} (D : Def K mg "are_notes" s_are_notes ["notes"] f fd) : FnOk P w K mg base CX0 2 f fd ["notes"] (sp_are_notes) := by
  refine D.F.ok sc_are_notes (fun vs H Q E h => ?_) (fun cdv A outer s H vs Q E hr h => ⟨_, (pss_cons (ps_for PassesOwn.never rfl (pi_list (pv 0)) (pg_tup rfl (pgs_cons (pg_name (i := 1) sc_are_notes.nd rfl (Or.inl rfl)) (pgs_cons (pg_name (i := 2) sc_are_notes.nd rfl (Or.inl rfl)) (pgs_cons (pg_name (i := 3) sc_are_notes.nd rfl (Or.inl rfl)) pgs_nil))))
      (pss_one (ps_if (pt_not (pt_val (pe_has (has_is_note T) (hr.mono (by decide)) (pa_cons (pv 1) (pa_cons (pv 2) (pa_cons (pv 3) pa_nil)))))) (pss_one (ps_ret pe_bl)) pss_nil)))
      (pss_one (ps_ret pe_bl))), ?_⟩)
  · obtain ⟨a, ns, rfl, _⟩ := h
    rfl
  · obtain ⟨a, ns, rfl, ⟨rs, hrs, hp⟩, k⟩ := h
    simp only [tSeq, tAsg, tIfS, tRet, tNext, tOp, tUn, tTest, tB, tNot, tAnd, tOr, tAndV, tOrV, tNotV, tChain, tVar, tC, tCons, tNil, tCall, tCB, tIf, tDrop, gName, tAug, ipI, rI, rI0, rU, CMul, CDiv, rEq, rNe, scal, tTab, tInTab, cxOf_K, L2.start, Nat.reduceAdd, Nat.reduceSub, Nat.sub_self, List.map_cons, List.map_nil, List.length_cons, List.length_nil, List.replicate, List.append_nil, List.cons_append, List.nil_append, List.set_cons_zero, List.set_cons_succ, List.getElem?_cons_zero, List.getElem?_cons_succ, Option.some.injEq, List.cons.injEq, V.int.injEq, V.bl.injEq, V.ref.injEq, and_true, true_and, exists_eq_left, and_assoc, exists_eq_left', exists_and_left, decide_eq_true_eq, Bool.true_eq_false, if_true, if_false]
    refine ⟨_, rfl, a, rfl, ⟨_, SqL.of hrs⟩, for_list (xs := rs.map V.ref) (fun i σ Hc => Hc = H ∧ (∃ s1 s2 s3, σ = [some (.ref a), s1, s2, s3]) ∧ ((ns.take i).all Sw68.noteOk) = true) ⟨rfl, ⟨_, _, _, rfl⟩, rfl⟩ ?_ ?_ ?_⟩
    · rintro i σ Hc _ ⟨rfl, _, _⟩
      exact SqL.of hrs
    · rintro i x σ Hc hx ⟨rfl, ⟨s1, s2, s3, rfl⟩, all⟩
      obtain ⟨r, hr', rfl⟩ := ref_at hx
      obtain ⟨n, hn, ht⟩ := paired_at hp hr'
      refine ⟨r, vN n, rfl, SqT.of ht, rfl, _, _, rfl, _, _, rfl, _, _, rfl, rfl, ?_⟩
      simp only [tSeq, tAsg, tIfS, tRet, tNext, tOp, tUn, tTest, tB, tNot, tAnd, tOr, tAndV, tOrV, tNotV, tChain, tVar, tC, tCons, tNil, tCall, tCB, tIf, tDrop, gName, tAug, ipI, rI, rI0, rU, CMul, CDiv, rEq, rNe, scal, tTab, tInTab, cxOf_K, L2.start, Nat.reduceAdd, Nat.reduceSub, Nat.sub_self, List.map_cons, List.map_nil, List.length_cons, List.length_nil, List.replicate, List.append_nil, List.cons_append, List.nil_append, List.set_cons_zero, List.set_cons_succ, List.getElem?_cons_zero, List.getElem?_cons_succ, Option.some.injEq, List.cons.injEq, V.int.injEq, V.bl.injEq, V.ref.injEq, and_true, true_and, exists_eq_left, and_assoc, exists_eq_left', exists_and_left, decide_eq_true_eq, Bool.true_eq_false, if_true, if_false, sp_is_note]
      cases c : Sw68.noteOk ⟨n.letter, n.alt, n.octave⟩ with
      | false =>
        have z : ns.all Sw68.noteOk = false := by
          rw [← Bool.not_eq_true]
          intro z
          have := List.all_eq_true.mp z n (List.mem_of_getElem? hn)
          rw [c] at this
          cases this
        rw [z] at k
        exact iteT k
      | true =>
        refine iteF ⟨⟨_, rfl⟩, ?_⟩
        rw [take_at hn, List.all_append, all, List.all_cons, c]
        rfl
    · rintro σ Hc ⟨rfl, _, all⟩
      rw [List.length_map, hp.length, List.take_length] at all
      rw [all] at k
      exact k
theorem has_are_notes {P : Program} {w : World} {K : PySem.W.Frag} {mg : Str → Option Value} {base : Heap} (T : Txt K mg) : Has P w K mg base "are_notes" 2 ["notes"] (sp_are_notes) :=
  has_of T.d_are_notes fun f fd D => ok_are_notes T D
/-! ### part: what it is asked, what it answers -/
theorem part_inv {s h lo hi k : Int} {ns : List Int} (q : PySw68.part_asked s h lo hi k ns = true) :
    ∃ xs : List Sw68.Note, ns = xs.flatMap outN ∧ xs.length ≤ 60 ∧ PySw68.part s h lo hi k ns = Sw68Neutral.out (Sw68.step (.part ⟨⟨s, h⟩, lo, hi⟩ k xs)) := by
  obtain ⟨x, hx⟩ := asked_call q
  have hx' : Sw68Neutral.callOf (6 :: s :: h :: lo :: hi :: k :: ((ns.length : Int) / 3) :: ns) = some x := hx
  have e : Sw68Neutral.all_ ((Sw68Neutral.intervalIn (s :: h :: lo :: hi :: k :: ((ns.length : Int) / 3) :: ns)).bind fun i => (Sw68Neutral.intIn i.2).bind fun a => (Sw68Neutral.intIn a.2).bind fun b => (Sw68Neutral.intIn b.2).bind fun k => (Sw68Neutral.listIn Sw68Neutral.noteIn k.2).map fun y => (Sw68.Call.part ⟨i.1, a.1, b.1⟩ k.1 y.1, y.2)) = some x := hx'
  have e := all_inv e
  unfold Sw68Neutral.intervalIn at e
  cases e1 : Sw68Neutral.intIn (s :: h :: lo :: hi :: k :: ((ns.length : Int) / 3) :: ns) with
  | none => rw [e1] at e; cases e
  | some a =>
    rw [e1] at e
    obtain ⟨a, l1⟩ := a
    obtain ⟨z, _⟩ := int_in_inv e1
    injection z with z1 z2
    subst z1 z2
    change Option.bind (Option.map _ (Sw68Neutral.intIn (h :: lo :: hi :: k :: ((ns.length : Int) / 3) :: ns))) _ = _ at e
    cases e2 : Sw68Neutral.intIn (h :: lo :: hi :: k :: ((ns.length : Int) / 3) :: ns) with
    | none => rw [e2] at e; cases e
    | some a =>
      rw [e2] at e
      obtain ⟨a, l1⟩ := a
      obtain ⟨z, _⟩ := int_in_inv e2
      injection z with z1 z2
      subst z1 z2
      change Option.bind (Sw68Neutral.intIn (lo :: hi :: k :: ((ns.length : Int) / 3) :: ns)) _ = _ at e
      cases e3 : Sw68Neutral.intIn (lo :: hi :: k :: ((ns.length : Int) / 3) :: ns) with
      | none => rw [e3] at e; cases e
      | some a =>
        rw [e3] at e
        obtain ⟨a, l1⟩ := a
        obtain ⟨z, _⟩ := int_in_inv e3
        injection z with z1 z2
        subst z1 z2
        change Option.bind (Sw68Neutral.intIn (hi :: k :: ((ns.length : Int) / 3) :: ns)) _ = _ at e
        cases e4 : Sw68Neutral.intIn (hi :: k :: ((ns.length : Int) / 3) :: ns) with
        | none => rw [e4] at e; cases e
        | some a =>
          rw [e4] at e
          obtain ⟨a, l1⟩ := a
          obtain ⟨z, _⟩ := int_in_inv e4
          injection z with z1 z2
          subst z1 z2
          change Option.bind (Sw68Neutral.intIn (k :: ((ns.length : Int) / 3) :: ns)) _ = _ at e
          cases e5 : Sw68Neutral.intIn (k :: ((ns.length : Int) / 3) :: ns) with
          | none => rw [e5] at e; cases e
          | some a =>
            rw [e5] at e
            obtain ⟨a, l1⟩ := a
            obtain ⟨z, _⟩ := int_in_inv e5
            injection z with z1 z2
            subst z1 z2
            change Option.map _ (Sw68Neutral.listIn Sw68Neutral.noteIn (((ns.length : Int) / 3) :: ns)) = _ at e
            cases e6 : Sw68Neutral.listIn Sw68Neutral.noteIn (((ns.length : Int) / 3) :: ns) with
            | none => rw [e6] at e; cases e
            | some y =>
              rw [e6] at e
              obtain ⟨xs, r⟩ := y
              injection e with e
              injection e with e7 e8
              have e7' : Sw68.Call.part ⟨⟨s, h⟩, lo, hi⟩ k xs = x := e7
              have e8' : r = [] := e8
              subst e7' e8'
              obtain ⟨z1, z2, _⟩ := list_in note_in_inv _ _ _ e6
              rw [List.append_nil] at z1
              injection z1 with z3 z4
              refine ⟨xs, z4, z2, ?_⟩
              show Sw68Neutral.f (6 :: s :: h :: lo :: hi :: k :: ((ns.length : Int) / 3) :: ns) = _
              unfold Sw68Neutral.f
              rw [hx']
def prt (s h lo hi : Int) : Sw68.Part := ⟨⟨s, h⟩, lo, hi⟩
def oneP (p : Sw68.Part) (x : Sw68.Note) : List Int := Sw68.out (Sw68.written p x) ++ [if Sw68.fits p x = true then 1 else 0]
def ansP (p : Sw68.Part) (k : Int) (xs : List Sw68.Note) : List Int := Sw68Neutral.out (Sw68.step (.part p k xs))
theorem ansP_no {p : Sw68.Part} {k : Int} {xs : List Sw68.Note} (c : (Sw68.intervalOk p.by_ && (Sw68.keyOk k && xs.all Sw68.noteOk)) = false) : ansP p k xs = [-1] := by
  unfold ansP Sw68.step
  simp only [c, if_true]
  rfl
theorem ansP_ok {p : Sw68.Part} {k : Int} {xs : List Sw68.Note} (c1 : Sw68.intervalOk p.by_ = true) (c2 : Sw68.keyOk k = true) (c3 : xs.all Sw68.noteOk = true) :
    ansP p k xs = ((xs.filter fun x => !Sw68.fits p x).length : Int) :: 1 :: Sw68.keyMoved k p.by_ :: xs.flatMap fun x => 4 :: oneP p x := by
  unfold ansP Sw68.step
  simp only [c1, c2, c3, Bool.and_self, Bool.true_eq_false, if_false]
  show _ :: _ = _
  congr 1
  rw [List.flatMap_append, List.flatMap_cons, List.flatMap_nil, List.append_nil, List.flatMap_map]
  rfl
def wf (l r o s h : Int) : Sw68.Note := Sw68.plain (mv l r o s h)
theorem sp_step (k n : Int) : (Sw68.spelled k n).step = k := by
  unfold Sw68.spelled Sw68.Note.step
  simp only [fdiv7, fmod7]
  omega
theorem sp_sound (k n : Int) : (Sw68.spelled k n).sound = n := by
  unfold Sw68.spelled Sw68.Note.sound
  simp only []
  omega
theorem mv_sp (l r o s h : Int) : mv l r o s h = Sw68.spelled (7 * o + l + s) (12 * (o + 1) + Sw68.natural l + r + h) := rfl
theorem wf_eq (l r o s h : Int) : wf l r o s h = if Sw68.noteOk (mv l r o s h) = true then mv l r o s h else if (mv l r o (s + 1) h).alt.natAbs < (mv l r o (s - 1) h).alt.natAbs then mv l r o (s + 1) h else mv l r o (s - 1) h := by
  unfold wf Sw68.plain
  by_cases c : Sw68.noteOk (mv l r o s h) = true
  · rw [if_pos c, if_pos c]
  · rw [if_neg c, if_neg c]
    have e1 : (mv l r o s h).step = 7 * o + l + s := by rw [mv_sp, sp_step]
    have e2 : (mv l r o s h).sound = 12 * (o + 1) + Sw68.natural l + r + h := by rw [mv_sp, sp_sound]
    have e3 : Sw68.spelled ((mv l r o s h).step + 1) (mv l r o s h).sound = mv l r o (s + 1) h := by
      rw [e1, e2, mv_sp]
      congr 1
      omega
    have e4 : Sw68.spelled ((mv l r o s h).step - 1) (mv l r o s h).sound = mv l r o (s - 1) h := by
      rw [e1, e2, mv_sp]
      congr 1
      omega
    simp only [e3, e4]
    by_cases d : (mv l r o (s + 1) h).alt.natAbs < (mv l r o (s - 1) h).alt.natAbs
    · rw [if_pos d, if_neg (by omega)]
    · rw [if_neg d, if_pos (by omega)]
def sp_written_for : Sp := fun vs H Q _ => ∃ l r o s h : Int, vs = [.int l, .int r, .int o, .int s, .int h] ∧ (0 ≤ l ∧ l ≤ 6) ∧
  ∀ (H' : Hp) (p : Addr), H' p = some (.tup (vN (wf l r o s h))) → Same H H' → Q (.ref p) H'
theorem ok_written_for {P : Program} {w : World} {K : PySem.W.Frag} {mg : Str → Option Value} {base : Heap} (T : Txt K mg) {f : Addr} {fd : FuncData} (D : Def K mg "written_for" s_written_for ["letter", "raised", "octave", "steps", "halves"] f fd) : FnOk P w K mg base CX0 3 f fd ["letter", "raised", "octave", "steps", "halves"] (sp_written_for) := by
  refine D.F.ok sc_written_for (fun vs H Q E h => ?_) (fun cdv A outer s H vs Q E hr h => ⟨_, (pss_cons (ps_set (i := 5) sc_written_for.nd rfl (Or.inl rfl) (pe_has (has_moved T) (hr.mono (by decide)) (pa_cons (pv 0) (pa_cons (pv 1) (pa_cons (pv 2) (pa_cons (pv 3) (pa_cons (pv 4) pa_nil)))))))
      (pss_cons (ps_if (pt_val (pe_has (has_is_note T) (hr.mono (by decide)) (pa_cons (pe_ix ix_tup (pv 5) pe_int (fun _ _ => rfl)) (pa_cons (pe_ix ix_tup (pv 5) pe_int (fun _ _ => rfl)) (pa_cons (pe_ix ix_tup (pv 5) pe_int (fun _ _ => rfl)) pa_nil))))) (pss_one (ps_ret (pv 5))) pss_nil)
      (pss_cons (ps_set (i := 6) sc_written_for.nd rfl (Or.inl rfl) (pe_has (has_moved T) (hr.mono (by decide)) (pa_cons (pv 0) (pa_cons (pv 1) (pa_cons (pv 2) (pa_cons (pe_op op_sub (pv 3) pe_int) (pa_cons (pv 4) pa_nil)))))))
      (pss_cons (ps_set (i := 7) sc_written_for.nd rfl (Or.inl rfl) (pe_has (has_moved T) (hr.mono (by decide)) (pa_cons (pv 0) (pa_cons (pv 1) (pa_cons (pv 2) (pa_cons (pe_op op_add (pv 3) pe_int) (pa_cons (pv 4) pa_nil)))))))
      (pss_cons (ps_if (pt_cmpR op_lt (pe_callB call_abs (by rfl) T.b_abs (by decide +kernel) (pa_cons (pe_ix ix_tup (pv 7) pe_int (fun _ _ => rfl)) pa_nil)) (pe_callB call_abs (by rfl) T.b_abs (by decide +kernel) (pa_cons (pe_ix ix_tup (pv 6) pe_int (fun _ _ => rfl)) pa_nil)) (nomark _)) (pss_one (ps_ret (pv 7))) pss_nil)
      (pss_one (ps_ret (pv 6)))))))), ?_⟩)
  · obtain ⟨l, r, o, s, h, rfl, _⟩ := h
    rfl
  · obtain ⟨l, r, o, s, h, rfl, hl, k⟩ := h
    rw [wf_eq] at k
    simp only [tSeq, tAsg, tIfS, tRet, tNext, tOp, tUn, tTest, tB, tNot, tAnd, tOr, tAndV, tOrV, tNotV, tChain, tVar, tC, tCons, tNil, tCall, tCB, tIf, tDrop, gName, tAug, ipI, rI, rI0, rU, CMul, CDiv, rEq, rNe, scal, tTab, tInTab, cxOf_K, L2.start, Nat.reduceAdd, Nat.reduceSub, Nat.sub_self, List.map_cons, List.map_nil, List.length_cons, List.length_nil, List.replicate, List.append_nil, List.cons_append, List.nil_append, List.set_cons_zero, List.set_cons_succ, List.getElem?_cons_zero, List.getElem?_cons_succ, Option.some.injEq, List.cons.injEq, V.int.injEq, V.bl.injEq, V.ref.injEq, and_true, true_and, exists_eq_left, and_assoc, exists_eq_left', exists_and_left, decide_eq_true_eq, Bool.true_eq_false, if_true, if_false, sp_moved, sp_is_note]
    refine ⟨hl.1, hl.2, fun H1 p hp sm => ?_⟩
    refine ⟨p, _, 0, _, rfl, rfl, SqT.of hp, rfl, p, _, 1, _, rfl, rfl, SqT.of hp, rfl, p, _, 2, _, rfl, rfl, SqT.of hp, rfl, _, rfl, _, rfl, _, rfl, ?_⟩
    by_cases c : Sw68.noteOk (mv l r o s h) = true
    · rw [if_pos c] at k
      show if (Sw68.noteOk (mv l r o s h)) = true then _ else _
      rw [if_pos c]
      exact k H1 p hp sm
    · rw [if_neg c] at k
      show if (Sw68.noteOk (mv l r o s h)) = true then _ else _
      rw [if_neg c]
      refine ⟨hl.1, hl.2, fun H2 p2 hp2 sm2 => ⟨hl.1, hl.2, fun H3 p3 hp3 sm3 => ?_⟩⟩
      refine ⟨p3, _, 1, _, rfl, rfl, SqT.of hp3, rfl, _, rfl, p2, _, 1, _, rfl, rfl, SqT.of (sm3 _ _ hp2), rfl, _, rfl, ?_⟩
      have e : ((if (mv l r o (s + 1) h).alt < 0 then -(mv l r o (s + 1) h).alt else (mv l r o (s + 1) h).alt) < (if (mv l r o (s - 1) h).alt < 0 then -(mv l r o (s - 1) h).alt else (mv l r o (s - 1) h).alt)) ↔ (mv l r o (s + 1) h).alt.natAbs < (mv l r o (s - 1) h).alt.natAbs := by
        repeat' split
        all_goals omega
      by_cases d : (mv l r o (s + 1) h).alt.natAbs < (mv l r o (s - 1) h).alt.natAbs
      · rw [if_pos d] at k
        rw [if_pos (e.mpr d)]
        exact k H3 p3 hp3 (Same.trans sm (Same.trans sm2 sm3))
      · rw [if_neg d] at k
        rw [if_neg (fun z => d (e.mp z))]
        exact k H3 p2 (sm3 _ _ hp2) (Same.trans sm (Same.trans sm2 sm3))
theorem has_written_for {P : Program} {w : World} {K : PySem.W.Frag} {mg : Str → Option Value} {base : Heap} (T : Txt K mg) : Has P w K mg base "written_for" 3 ["letter", "raised", "octave", "steps", "halves"] (sp_written_for) :=
  has_of T.d_written_for fun f fd D => ok_written_for T D
/-- counted: a new list, how many ahead -/
def sp_counted (K : PySem.W.Frag) : Sp := fun vs H Q _ => ∃ (a : Addr) (xs : List Int), vs = [.ref a] ∧ (SqL K H a (xs.map V.int) ∨ SqT K H a (xs.map V.int)) ∧ xs.length ≤ 100000 ∧
  ∀ (H' : Hp) (p : Addr), H' p = some (.lst (((xs.length : Int) :: xs).map V.int)) → Same H H' → Q (.ref p) H'
theorem ok_counted {P : Program} {w : World} {K : PySem.W.Frag} {mg : Str → Option Value} {base : Heap} (T : Txt K mg) {f : Addr} {fd : FuncData} (D : Def K mg "counted" s_counted ["numbers"] f fd) : FnOk P w K mg base CX0 1 f fd ["numbers"] (sp_counted K) := by
  refine D.F.ok sc_counted (fun vs H Q E h => ?_) (fun cdv A outer s H vs Q E hr h => ⟨_, (pss_one (ps_ret (pe_op op_cat (pe_lst (pa_cons (pe_callB call_len_seq (by rfl) T.b_len PySem.boot_len (pa_cons (pv 0) pa_nil)) pa_nil)) (pe_callTy call_list_of (by rfl) T.b_list (by decide +kernel) (pa_cons (pv 0) pa_nil))))), ?_⟩)
  · obtain ⟨a, xs, rfl, _⟩ := h
    rfl
  · obtain ⟨a, xs, rfl, hs, hl, k⟩ := h
    simp only [tSeq, tAsg, tIfS, tRet, tNext, tOp, tUn, tTest, tB, tNot, tAnd, tOr, tAndV, tOrV, tNotV, tChain, tVar, tC, tCons, tNil, tCall, tCB, tIf, tDrop, gName, tAug, ipI, rI, rI0, rU, CMul, CDiv, rEq, rNe, scal, tTab, tInTab, cxOf_K, L2.start, Nat.reduceAdd, Nat.reduceSub, Nat.sub_self, List.map_cons, List.map_nil, List.length_cons, List.length_nil, List.replicate, List.append_nil, List.cons_append, List.nil_append, List.set_cons_zero, List.set_cons_succ, List.getElem?_cons_zero, List.getElem?_cons_succ, Option.some.injEq, List.cons.injEq, V.int.injEq, V.bl.injEq, V.ref.injEq, and_true, true_and, exists_eq_left, and_assoc, exists_eq_left', exists_and_left, decide_eq_true_eq, Bool.true_eq_false, if_true, if_false, tLst]
    refine ⟨_, hs, line (by decide), fun p hp => ⟨xs.map V.int, hs.imp (Same.seq (Same.new hp)) (Same.tup (Same.new hp)), fun q hq => ?_⟩⟩
    have np : q ≠ p := ne_new hq
    refine ⟨p, q, _, _, rfl, rfl, (upd_ne np.symm).trans upd_same, upd_same, line (by simp; omega), fun p' hp' => k _ p' ?_ ?_⟩
    · rw [upd_same]
      simp
    · exact ((Same.new hp).trans (Same.new hq)).trans (Same.new hp')
theorem has_counted {P : Program} {w : World} {K : PySem.W.Frag} {mg : Str → Option Value} {base : Heap} (T : Txt K mg) : Has P w K mg base "counted" 1 ["numbers"] (sp_counted K) :=
  has_of T.d_counted fun f fd D => ok_counted T D
def sp_part (K : PySem.W.Frag) : Sp := fun vs H Q _ => ∃ (s h lo hi kk : Int) (a : Addr) (xs : List Sw68.Note), vs = [.int s, .int h, .int lo, .int hi, .int kk, .ref a] ∧ SqL K H a ((xs.flatMap outN).map V.int) ∧ xs.length ≤ 60 ∧
  ∀ (H' : Hp) (p : Addr), H' p = some (.lst ((ansP (prt s h lo hi) kk xs).map V.int)) → Q (.ref p) H'
theorem ne_refsP {H : Hp} {l a : Addr} {n : Int} {xs : List V} {rs : List Addr} (hl : H l = some (.lst (.int n :: xs))) (ha : H a = some (.lst (rs.map V.ref))) : a ≠ l := by
  intro z
  rw [z, hl] at ha
  injection ha with h1
  injection h1 with h1
  cases rs with
  | nil => cases h1
  | cons r rs =>
    rw [List.map_cons] at h1
    injection h1 with h1
    cases h1
theorem fits_rd {lo hi l r o : Int} {σ : L2.St} {H : Hp} {Qc : VK} (h2 : σ[2]? = some (some (.int lo))) (h3 : σ[3]? = some (some (.int hi))) (h9 : σ[9]? = some (some (.int l))) (h10 : σ[10]? = some (some (.int r))) (h11 : σ[11]? = some (some (.int o)))
    (hl : 0 ≤ l ∧ l ≤ 6) (k : Qc (.int (if decide (lo ≤ Sw68.Note.sound ⟨l, r, o⟩) && decide (Sw68.Note.sound ⟨l, r, o⟩ ≤ hi) then 1 else 0)) H) :
    tIf (tTest (tChain (rI0 fun i j => V.bl (decide (i ≤ j))) (rI0 fun i j => V.bl (decide (i ≤ j))) (tVar 2) (tCall sp_sound_of [] E0 (tCons (tVar 9) (tCons (tVar 10) (tCons (tVar 11) tNil)))) (tVar 3))) (tC (.int 1)) (tC (.int 0)) σ H Qc := by
  refine ⟨_, h2, _, h9, _, h10, _, h11, l, r, o, rfl, hl, lo, _, rfl, rfl, _, rfl, ?_⟩
  have e : 12 * (o + 1) + Sw68.natural l + r = Sw68.Note.sound ⟨l, r, o⟩ := rfl
  rw [e]
  by_cases c : lo ≤ Sw68.Note.sound ⟨l, r, o⟩
  · rw [decide_eq_true c] at k ⊢
    refine iteT ⟨_, h3, _, _, rfl, rfl, _, rfl, ?_⟩
    by_cases d : Sw68.Note.sound ⟨l, r, o⟩ ≤ hi
    · rw [decide_eq_true d] at k ⊢
      exact iteT k
    · rw [decide_eq_false d] at k ⊢
      exact iteF k
  · rw [decide_eq_false c] at k ⊢
    exact iteF ⟨_, rfl, iteF k⟩
theorem oneP_length (p : Sw68.Part) (x : Sw68.Note) : (oneP p x).length = 4 := rfl
theorem flatP_length (p : Sw68.Part) : ∀ xs : List Sw68.Note, (xs.flatMap fun x => 4 :: oneP p x).length = 5 * xs.length
  | [] => rfl
  | x :: l => by
    rw [List.flatMap_cons, List.length_append, flatP_length p l, List.length_cons, oneP_length, List.length_cons]
    omega
def nofit (p : Sw68.Part) (xs : List Sw68.Note) : Nat := (xs.filter fun x => !Sw68.fits p x).length
theorem nofit_snoc {p : Sw68.Part} {xs : List Sw68.Note} {i : Nat} {n : Sw68.Note} (hn : xs[i]? = some n) : (nofit p (xs.take (i + 1)) : Int) = nofit p (xs.take i) + (1 - (if Sw68.fits p n = true then 1 else 0)) := by
  unfold nofit
  rw [take_at hn, List.filter_append, List.length_append]
  cases c : Sw68.fits p n with
  | true => rw [List.filter_cons_of_neg (by simp [c])]; simp
  | false => rw [List.filter_cons_of_pos (by simp [c])]; simp
theorem ok_part {P : Program} {w : World} {K : PySem.W.Frag} {mg : Str → Option Value} {base : Heap} (T : Txt K mg) {f : Addr} {fd : FuncData} (D : Def K mg "part" s_part ["steps", "halves", "lowest", "highest", "in_key", "notes"] f fd) : FnOk P w K mg base CX0 5 f fd ["steps", "halves", "lowest", "highest", "in_key", "notes"] (sp_part K) := by
  refine D.F.ok sc_part (fun vs H Q E h => ?_) (fun cdv A outer s H vs Q E hr h => ⟨_, (pss_cons (ps_set (i := 6) sc_part.nd rfl (Or.inl rfl) (pe_has (has_notes_in T) (hr.mono (by decide)) (pa_cons (pv 5) pa_nil)))
      (pss_cons (ps_if (PW.pt (pw_or (pt_not (pt_val (pe_has (has_is_interval T) (hr.mono (by decide)) (pa_cons (pv 0) (pa_cons (pv 1) pa_nil))))) (pw_or (pt_not (pt_val (pe_has (has_is_key T) (hr.mono (by decide)) (pa_cons (pv 4) pa_nil)))) (pw_or1 (pt_not (pt_val (pe_has (has_are_notes T) (hr.mono (by decide)) (pa_cons (pv 6) pa_nil)))))))) (pss_one (ps_ret (pe_lst (pa_cons (pe_globI T.c_REFUSED) pa_nil)))) pss_nil)
      (pss_cons (ps_set (i := 7) sc_part.nd rfl (Or.inl rfl) pe_int)
      (pss_cons (ps_set (i := 8) sc_part.nd rfl (Or.inl rfl) (pe_has (has_counted T) (hr.mono (by decide)) (pa_cons (pe_lst (pa_cons (pe_has (has_moved_key T) (hr.mono (by decide)) (pa_cons (pv 4) (pa_cons (pv 0) (pa_cons (pv 1) pa_nil)))) pa_nil)) pa_nil)))
      (pss_cons (ps_for PassesOwn.never rfl (pi_list (pv 6)) (pg_tup rfl (pgs_cons (pg_name (i := 9) sc_part.nd rfl (Or.inl rfl)) (pgs_cons (pg_name (i := 10) sc_part.nd rfl (Or.inl rfl)) (pgs_cons (pg_name (i := 11) sc_part.nd rfl (Or.inl rfl)) pgs_nil))))
      (pss_cons (ps_set (i := 12) sc_part.nd rfl (Or.inl rfl) (pe_ifExp (pt_chain op_le op_le (pv 2) (pe_has (has_sound_of T) (hr.mono (by decide)) (pa_cons (pv 9) (pa_cons (pv 10) (pa_cons (pv 11) pa_nil)))) (pv 3)) pe_int pe_int))
      (pss_cons (ps_aug (i := 7) sc_part.nd rfl (Or.inl rfl) (pe_op op_sub pe_int (pv 12)) ip_add)
      (pss_one (ps_expr (pe_bm PySem.F.plainAttrs_list PySem.F.slot_list_extend PySem.F.type_list_extend mt_extend (pv 8) (pa_cons (pe_has (has_counted T) (hr.mono (by decide)) (pa_cons (pe_op op_cat (pe_callTy call_list_of (by rfl) T.b_list (by decide +kernel) (pa_cons (pe_has (has_written_for T) (hr.mono (by decide)) (pa_cons (pv 9) (pa_cons (pv 10) (pa_cons (pv 11) (pa_cons (pv 0) (pa_cons (pv 1) pa_nil)))))) pa_nil)) (pe_lst (pa_cons (pv 12) pa_nil))) pa_nil)) pa_nil)))))))
      (pss_one (ps_ret (pe_op op_cat (pe_lst (pa_cons (pv 7) pa_nil)) (pv 8))))))))), ?_⟩)
  · obtain ⟨s, h, lo, hi, kk, a, xs, rfl, _⟩ := h
    rfl
  · obtain ⟨s, h, lo, hi, kk, a, xs, rfl, ha, hl, k⟩ := h
    refine ⟨_, rfl, a, xs, rfl, ha, hl, fun H1 B hB sm1 hnB => ?_⟩
    have ref : (Sw68.intervalOk ⟨s, h⟩ && (Sw68.keyOk kk && xs.all Sw68.noteOk)) = false → ∀ (σ : L2.St) (H' : Hp), tLst (tCons (tC (V.int (-1))) tNil) σ H' Q := fun c σ H' =>
      ⟨line (by decide), fun p hp => k _ p (by rw [upd_same, ansP_no (p := prt s h lo hi) c]; rfl)⟩
    refine ⟨_, rfl, _, rfl, s, h, rfl, _, rfl, ?_⟩
    cases c1 : Sw68.intervalOk ⟨s, h⟩ with
    | false => exact iteT (iteT (ref (by rw [c1] <;> rfl) _ _))
    | true =>
      refine iteF ⟨_, rfl, kk, rfl, _, rfl, ?_⟩
      cases c2 : Sw68.keyOk kk with
      | false => exact iteT (iteT (ref (by rw [c1, c2] <;> rfl) _ _))
      | true =>
        refine iteF ⟨_, rfl, B, xs, rfl, hB, _, rfl, ?_⟩
        cases c3 : xs.all Sw68.noteOk with
        | false => exact iteT (ref (by rw [c1, c2, c3] <;> rfl) _ _)
        | true =>
          refine iteF ?_
          refine ⟨_, rfl, _, rfl, _, rfl, kk, s, h, rfl, fun H2 sm2 => ⟨line (show 1 ≤ 1000000 by decide), fun p hp => ⟨p, [_], rfl, .inl (SqL.of upd_same), by simp, fun H3 l hl3 sm3 => ?_⟩⟩⟩
          obtain ⟨rs, hrs, hpr⟩ := hB
          have s13 : Same H1 H3 := Same.trans sm2 (Same.trans (Same.new hp) sm3)
          have hrs3 := s13 _ _ hrs
          have hl1 : H3 l = some (.lst (V.int 1 :: [V.int (Sw68.keyMoved kk ⟨s, h⟩)])) := hl3
          refine ⟨_, rfl, B, rfl, ⟨_, SqL.of hrs3⟩, for_list (xs := rs.map V.ref) (fun i σ Hc => SameB l H3 Hc ∧ ∃ (acc : List Int) (s9 s10 s11 s12 : Option V),
            σ = [some (.int s), some (.int h), some (.int lo), some (.int hi), some (.int kk), some (.ref a), some (.ref B), some (.int (nofit (prt s h lo hi) (xs.take i) : Int)), some (.ref l), s9, s10, s11, s12] ∧
            Hc l = some (.lst ((1 :: Sw68.keyMoved kk ⟨s, h⟩ :: acc).map V.int)) ∧ acc ++ ((xs.drop i).flatMap fun x => 4 :: oneP (prt s h lo hi) x) = xs.flatMap fun x => 4 :: oneP (prt s h lo hi) x)
            ⟨SameB.refl, [], _, _, _, _, rfl, hl1, rfl⟩ ?_ ?_ ?_⟩
          · rintro i σ Hc _ ⟨sm, _⟩
            exact SqL.of (sm _ _ (ne_refsP hl1 hrs3) hrs3)
          · rintro i x σ Hc hx ⟨sm, acc, s9, s10, s11, s12, rfl, hL, eq⟩
            obtain ⟨r, hr', rfl⟩ := ref_at hx
            obtain ⟨n, hn, ht⟩ := paired_at hpr hr'
            have on := List.all_eq_true.mp c3 n (List.mem_of_getElem? hn)
            have bd := ok_l (l := n.letter) (r := n.alt) (o := n.octave) on
            have ht3 := s13 _ _ ht
            have htc : Hc r = some (.tup (vN n)) := sm _ _ (ne_of ht3 hl1 (fun z => nomatch z)) ht3
            refine ⟨r, vN n, rfl, SqT.of htc, rfl, _, _, rfl, _, _, rfl, _, _, rfl, rfl, ?_⟩
            refine fits_rd (l := n.letter) (r := n.alt) (o := n.octave) (lo := lo) (hi := hi) rfl rfl rfl rfl rfl bd ?_
            have ef : (decide (lo ≤ Sw68.Note.sound ⟨n.letter, n.alt, n.octave⟩) && decide (Sw68.Note.sound ⟨n.letter, n.alt, n.octave⟩ ≤ hi)) = Sw68.fits (prt s h lo hi) n := rfl
            rw [ef]
            have eq' : (acc ++ (4 :: oneP (prt s h lo hi) n)) ++ ((xs.drop (i + 1)).flatMap fun x => 4 :: oneP (prt s h lo hi) x) = xs.flatMap fun x => 4 :: oneP (prt s h lo hi) x := by
              rw [← eq, drop_at hn, List.append_assoc]
              rfl
            have bound : acc.length + 5 ≤ 300 := by
              have z := congrArg List.length eq'
              rw [List.length_append, List.length_append, flatP_length, flatP_length, List.length_cons, oneP_length] at z
              omega
            refine ⟨_, rfl, _, rfl, _, _, rfl, rfl, _, _, rfl, rfl, ?_⟩
            refine ⟨_, rfl, .inl ⟨rfl, _, SqL.of hL⟩, ?_⟩
            refine ⟨_, rfl, _, rfl, _, rfl, _, rfl, _, rfl, n.letter, n.alt, n.octave, s, h, rfl, bd, fun H4 p4 hp4 s4 => ⟨p4, _, rfl, .inr (SqT.of hp4), fun q hq => ⟨_, rfl, line (show 1 ≤ 1000000 by decide), fun q2 hq2 => ⟨q, q2, _, _, rfl, rfl, Same.new hq2 _ _ upd_same, upd_same, line (show 3 + 1 ≤ 1000000 by decide), fun q3 hq3 => ?_⟩⟩⟩⟩
            have e1 : vN (wf n.letter n.alt n.octave s h) ++ [V.int (if Sw68.fits (prt s h lo hi) n = true then 1 else 0)] = (oneP (prt s h lo hi) n).map V.int := rfl
            rw [e1]
            refine ⟨q3, oneP (prt s h lo hi) n, rfl, .inl (SqL.of upd_same), by rw [oneP_length]; decide, fun H5 q5 hq5 s5 => ?_⟩
            have sX : Same Hc H5 := Same.trans s4 (Same.trans (Same.new hq) (Same.trans (Same.new hq2) (Same.trans (Same.new hq3) s5)))
            refine ⟨l, q5, _, _, rfl, rfl, sX _ _ hL, hq5, line ?_, ?_⟩
            · rw [List.length_map, List.length_map, List.length_cons, List.length_cons, List.length_cons, oneP_length]
              omega
            · refine ⟨SameB.upd (SameB.same sm sX), acc ++ (4 :: oneP (prt s h lo hi) n), some (.int n.letter), some (.int n.alt), some (.int n.octave), some (.int (if Sw68.fits (prt s h lo hi) n = true then 1 else 0)), ?_, upd_same.trans ?_, eq'⟩
              · rw [nofit_snoc hn]
                rfl
              · rw [← List.map_append]
                rfl
          · rintro σ Hc ⟨sm, acc, s9, s10, s11, s12, rfl, hL, eq⟩
            rw [List.length_map, hpr.length, List.drop_length] at eq
            rw [List.length_map, hpr.length, List.take_length]
            have bound : acc.length ≤ 300 := by
              have z := congrArg List.length eq
              rw [List.length_append, flatP_length, flatP_length] at z
              omega
            refine ⟨_, rfl, line (show 1 ≤ 1000000 by decide), fun p hp => ⟨_, rfl, p, l, _, _, rfl, rfl, upd_same, Same.new hp _ _ hL, line ?_, fun q hq => k _ q ?_⟩⟩
            · rw [List.length_map, List.length_cons, List.length_cons, List.length_cons]
              show 1 + (acc.length + 1 + 1) ≤ _
              omega
            · rw [upd_same, ansP_ok (p := prt s h lo hi) c1 c2 c3, ← eq]
              show _ = some (HO.lst (((nofit (prt s h lo hi) xs : Int) :: 1 :: Sw68.keyMoved kk ⟨s, h⟩ :: (acc ++ [])).map V.int))
              rw [List.append_nil]
              rfl
end Sn
namespace Sn
open PySem PySem.Spec PyProof.Rows L2
/-! ### The end: what the top has written -/
theorem txt_mk {K : PySem.W.Frag} {h : Heap} {mg : Str → Option Value} (X : K.In h) (G : h.Ns mainGlobals mg)
    {t_REFUSED : Tok}
    {t_LETTERS : Tok}
    {t_HALVES_IN_OCTAVE : Tok}
    {t_MOST_RAISED : Tok}
    {t_LOWEST_OCTAVE : Tok}
    {t_HIGHEST_OCTAVE : Tok}
    {t_MOST_STEPS : Tok}
    {t_MOST_HALVES : Tok}
    {t_MOST_IN_KEY : Tok}
    {t_FIFTHS_IN_CIRCLE : Tok}
    {t_FIFTHS_IN_RAISING : Tok}
    {t_NUMBERS_IN_NOTE : Tok}
    {a_HALVES_ABOVE_C : Addr} {o_HALVES_ABOVE_C : Option Addr} {n_HALVES_ABOVE_C : Nat} {l_HALVES_ABOVE_C : Array (Option Value)} {t_HALVES_ABOVE_C_0 t_HALVES_ABOVE_C_1 t_HALVES_ABOVE_C_2 t_HALVES_ABOVE_C_3 t_HALVES_ABOVE_C_4 t_HALVES_ABOVE_C_5 t_HALVES_ABOVE_C_6 : Tok}
    {a_FIFTHS_OF_LETTERS : Addr} {o_FIFTHS_OF_LETTERS : Option Addr} {n_FIFTHS_OF_LETTERS : Nat} {l_FIFTHS_OF_LETTERS : Array (Option Value)} {t_FIFTHS_OF_LETTERS_0 t_FIFTHS_OF_LETTERS_1 t_FIFTHS_OF_LETTERS_2 t_FIFTHS_OF_LETTERS_3 t_FIFTHS_OF_LETTERS_4 t_FIFTHS_OF_LETTERS_5 t_FIFTHS_OF_LETTERS_6 : Tok}
    {f_is_note : Addr} {od_is_note an_is_note : Option Addr} {sl_is_note : Array (Option Value)} {oc_is_note kV_is_note dc_is_note pm_is_note cd_is_note ct_is_note : Value}
    {f_is_interval : Addr} {od_is_interval an_is_interval : Option Addr} {sl_is_interval : Array (Option Value)} {oc_is_interval kV_is_interval dc_is_interval pm_is_interval cd_is_interval ct_is_interval : Value}
    {f_is_key : Addr} {od_is_key an_is_key : Option Addr} {sl_is_key : Array (Option Value)} {oc_is_key kV_is_key dc_is_key pm_is_key cd_is_key ct_is_key : Value}
    {f_step_of : Addr} {od_step_of an_step_of : Option Addr} {sl_step_of : Array (Option Value)} {oc_step_of kV_step_of dc_step_of pm_step_of cd_step_of ct_step_of : Value}
    {f_sound_of : Addr} {od_sound_of an_sound_of : Option Addr} {sl_sound_of : Array (Option Value)} {oc_sound_of kV_sound_of dc_sound_of pm_sound_of cd_sound_of ct_sound_of : Value}
    {f_moved : Addr} {od_moved an_moved : Option Addr} {sl_moved : Array (Option Value)} {oc_moved kV_moved dc_moved pm_moved cd_moved ct_moved : Value}
    {f_fifths_of : Addr} {od_fifths_of an_fifths_of : Option Addr} {sl_fifths_of : Array (Option Value)} {oc_fifths_of kV_fifths_of dc_fifths_of pm_fifths_of cd_fifths_of ct_fifths_of : Value}
    {f_interval_fifths : Addr} {od_interval_fifths an_interval_fifths : Option Addr} {sl_interval_fifths : Array (Option Value)} {oc_interval_fifths kV_interval_fifths dc_interval_fifths pm_interval_fifths cd_interval_fifths ct_interval_fifths : Value}
    {f_moved_key : Addr} {od_moved_key an_moved_key : Option Addr} {sl_moved_key : Array (Option Value)} {oc_moved_key kV_moved_key dc_moved_key pm_moved_key cd_moved_key ct_moved_key : Value}
    {f_notes_in : Addr} {od_notes_in an_notes_in : Option Addr} {sl_notes_in : Array (Option Value)} {oc_notes_in kV_notes_in dc_notes_in pm_notes_in cd_notes_in ct_notes_in : Value}
    {f_are_notes : Addr} {od_are_notes an_are_notes : Option Addr} {sl_are_notes : Array (Option Value)} {oc_are_notes kV_are_notes dc_are_notes pm_are_notes cd_are_notes ct_are_notes : Value}
    {f_written_for : Addr} {od_written_for an_written_for : Option Addr} {sl_written_for : Array (Option Value)} {oc_written_for kV_written_for dc_written_for pm_written_for cd_written_for ct_written_for : Value}
    {f_counted : Addr} {od_counted an_counted : Option Addr} {sl_counted : Array (Option Value)} {oc_counted kV_counted dc_counted pm_counted cd_counted ct_counted : Value}
    {f_part : Addr} {od_part an_part : Option Addr} {sl_part : Array (Option Value)} {oc_part kV_part dc_part pm_part cd_part ct_part : Value}
    (g_REFUSED : PySem.W.nsIn K mainGlobals "REFUSED" = some (some (.int (-1) t_REFUSED)))
    (g_LETTERS : PySem.W.nsIn K mainGlobals "LETTERS" = some (some (.int (7) t_LETTERS)))
    (g_HALVES_IN_OCTAVE : PySem.W.nsIn K mainGlobals "HALVES_IN_OCTAVE" = some (some (.int (12) t_HALVES_IN_OCTAVE)))
    (g_MOST_RAISED : PySem.W.nsIn K mainGlobals "MOST_RAISED" = some (some (.int (3) t_MOST_RAISED)))
    (g_LOWEST_OCTAVE : PySem.W.nsIn K mainGlobals "LOWEST_OCTAVE" = some (some (.int (-1) t_LOWEST_OCTAVE)))
    (g_HIGHEST_OCTAVE : PySem.W.nsIn K mainGlobals "HIGHEST_OCTAVE" = some (some (.int (9) t_HIGHEST_OCTAVE)))
    (g_MOST_STEPS : PySem.W.nsIn K mainGlobals "MOST_STEPS" = some (some (.int (100) t_MOST_STEPS)))
    (g_MOST_HALVES : PySem.W.nsIn K mainGlobals "MOST_HALVES" = some (some (.int (200) t_MOST_HALVES)))
    (g_MOST_IN_KEY : PySem.W.nsIn K mainGlobals "MOST_IN_KEY" = some (some (.int (7) t_MOST_IN_KEY)))
    (g_FIFTHS_IN_CIRCLE : PySem.W.nsIn K mainGlobals "FIFTHS_IN_CIRCLE" = some (some (.int (12) t_FIFTHS_IN_CIRCLE)))
    (g_FIFTHS_IN_RAISING : PySem.W.nsIn K mainGlobals "FIFTHS_IN_RAISING" = some (some (.int (7) t_FIFTHS_IN_RAISING)))
    (g_NUMBERS_IN_NOTE : PySem.W.nsIn K mainGlobals "NUMBERS_IN_NOTE" = some (some (.int (3) t_NUMBERS_IN_NOTE)))
    (g_HALVES_ABOVE_C : PySem.W.nsIn K mainGlobals "HALVES_ABOVE_C" = some (some (.ref a_HALVES_ABOVE_C)))
    (k_HALVES_ABOVE_C : K.lookup a_HALVES_ABOVE_C = some ⟨.type "tuple", o_HALVES_ABOVE_C, .seq #[.int (0) t_HALVES_ABOVE_C_0, .int (2) t_HALVES_ABOVE_C_1, .int (4) t_HALVES_ABOVE_C_2, .int (5) t_HALVES_ABOVE_C_3, .int (7) t_HALVES_ABOVE_C_4, .int (9) t_HALVES_ABOVE_C_5, .int (11) t_HALVES_ABOVE_C_6] n_HALVES_ABOVE_C, l_HALVES_ABOVE_C⟩)
    (g_FIFTHS_OF_LETTERS : PySem.W.nsIn K mainGlobals "FIFTHS_OF_LETTERS" = some (some (.ref a_FIFTHS_OF_LETTERS)))
    (k_FIFTHS_OF_LETTERS : K.lookup a_FIFTHS_OF_LETTERS = some ⟨.type "tuple", o_FIFTHS_OF_LETTERS, .seq #[.int (0) t_FIFTHS_OF_LETTERS_0, .int (2) t_FIFTHS_OF_LETTERS_1, .int (4) t_FIFTHS_OF_LETTERS_2, .int (-1) t_FIFTHS_OF_LETTERS_3, .int (1) t_FIFTHS_OF_LETTERS_4, .int (3) t_FIFTHS_OF_LETTERS_5, .int (5) t_FIFTHS_OF_LETTERS_6] n_FIFTHS_OF_LETTERS, l_FIFTHS_OF_LETTERS⟩)
    (g_abs : PySem.W.nsIn K mainGlobals "abs" = some none)
    (g_len : PySem.W.nsIn K mainGlobals "len" = some none)
    (g_list : PySem.W.nsIn K mainGlobals "list" = some none)
    (g_range : PySem.W.nsIn K mainGlobals "range" = some none)
    (g_tuple : PySem.W.nsIn K mainGlobals "tuple" = some none)
    (g_is_note : PySem.W.nsIn K mainGlobals "is_note" = some (some (.ref f_is_note)))
    (l_is_note : K.lookup f_is_note = some ⟨oc_is_note, od_is_note, .func (PySem.W.fnOf "is_note" "is_note" (defArgs s_is_note) (defBody s_is_note) (defScope s_is_note) .none kV_is_note dc_is_note pm_is_note an_is_note cd_is_note ct_is_note), sl_is_note⟩)
    (e_is_note : PySem.W.codeIn K cd_is_note "is_note" = true)
    (p_is_note : PySem.W.keepIn K (.ref f_is_note) = true)
    (g_is_interval : PySem.W.nsIn K mainGlobals "is_interval" = some (some (.ref f_is_interval)))
    (l_is_interval : K.lookup f_is_interval = some ⟨oc_is_interval, od_is_interval, .func (PySem.W.fnOf "is_interval" "is_interval" (defArgs s_is_interval) (defBody s_is_interval) (defScope s_is_interval) .none kV_is_interval dc_is_interval pm_is_interval an_is_interval cd_is_interval ct_is_interval), sl_is_interval⟩)
    (e_is_interval : PySem.W.codeIn K cd_is_interval "is_interval" = true)
    (p_is_interval : PySem.W.keepIn K (.ref f_is_interval) = true)
    (g_is_key : PySem.W.nsIn K mainGlobals "is_key" = some (some (.ref f_is_key)))
    (l_is_key : K.lookup f_is_key = some ⟨oc_is_key, od_is_key, .func (PySem.W.fnOf "is_key" "is_key" (defArgs s_is_key) (defBody s_is_key) (defScope s_is_key) .none kV_is_key dc_is_key pm_is_key an_is_key cd_is_key ct_is_key), sl_is_key⟩)
    (e_is_key : PySem.W.codeIn K cd_is_key "is_key" = true)
    (p_is_key : PySem.W.keepIn K (.ref f_is_key) = true)
    (g_step_of : PySem.W.nsIn K mainGlobals "step_of" = some (some (.ref f_step_of)))
    (l_step_of : K.lookup f_step_of = some ⟨oc_step_of, od_step_of, .func (PySem.W.fnOf "step_of" "step_of" (defArgs s_step_of) (defBody s_step_of) (defScope s_step_of) .none kV_step_of dc_step_of pm_step_of an_step_of cd_step_of ct_step_of), sl_step_of⟩)
    (e_step_of : PySem.W.codeIn K cd_step_of "step_of" = true)
    (p_step_of : PySem.W.keepIn K (.ref f_step_of) = true)
    (g_sound_of : PySem.W.nsIn K mainGlobals "sound_of" = some (some (.ref f_sound_of)))
    (l_sound_of : K.lookup f_sound_of = some ⟨oc_sound_of, od_sound_of, .func (PySem.W.fnOf "sound_of" "sound_of" (defArgs s_sound_of) (defBody s_sound_of) (defScope s_sound_of) .none kV_sound_of dc_sound_of pm_sound_of an_sound_of cd_sound_of ct_sound_of), sl_sound_of⟩)
    (e_sound_of : PySem.W.codeIn K cd_sound_of "sound_of" = true)
    (p_sound_of : PySem.W.keepIn K (.ref f_sound_of) = true)
    (g_moved : PySem.W.nsIn K mainGlobals "moved" = some (some (.ref f_moved)))
    (l_moved : K.lookup f_moved = some ⟨oc_moved, od_moved, .func (PySem.W.fnOf "moved" "moved" (defArgs s_moved) (defBody s_moved) (defScope s_moved) .none kV_moved dc_moved pm_moved an_moved cd_moved ct_moved), sl_moved⟩)
    (e_moved : PySem.W.codeIn K cd_moved "moved" = true)
    (p_moved : PySem.W.keepIn K (.ref f_moved) = true)
    (g_fifths_of : PySem.W.nsIn K mainGlobals "fifths_of" = some (some (.ref f_fifths_of)))
    (l_fifths_of : K.lookup f_fifths_of = some ⟨oc_fifths_of, od_fifths_of, .func (PySem.W.fnOf "fifths_of" "fifths_of" (defArgs s_fifths_of) (defBody s_fifths_of) (defScope s_fifths_of) .none kV_fifths_of dc_fifths_of pm_fifths_of an_fifths_of cd_fifths_of ct_fifths_of), sl_fifths_of⟩)
    (e_fifths_of : PySem.W.codeIn K cd_fifths_of "fifths_of" = true)
    (p_fifths_of : PySem.W.keepIn K (.ref f_fifths_of) = true)
    (g_interval_fifths : PySem.W.nsIn K mainGlobals "interval_fifths" = some (some (.ref f_interval_fifths)))
    (l_interval_fifths : K.lookup f_interval_fifths = some ⟨oc_interval_fifths, od_interval_fifths, .func (PySem.W.fnOf "interval_fifths" "interval_fifths" (defArgs s_interval_fifths) (defBody s_interval_fifths) (defScope s_interval_fifths) .none kV_interval_fifths dc_interval_fifths pm_interval_fifths an_interval_fifths cd_interval_fifths ct_interval_fifths), sl_interval_fifths⟩)
    (e_interval_fifths : PySem.W.codeIn K cd_interval_fifths "interval_fifths" = true)
    (p_interval_fifths : PySem.W.keepIn K (.ref f_interval_fifths) = true)
    (g_moved_key : PySem.W.nsIn K mainGlobals "moved_key" = some (some (.ref f_moved_key)))
    (l_moved_key : K.lookup f_moved_key = some ⟨oc_moved_key, od_moved_key, .func (PySem.W.fnOf "moved_key" "moved_key" (defArgs s_moved_key) (defBody s_moved_key) (defScope s_moved_key) .none kV_moved_key dc_moved_key pm_moved_key an_moved_key cd_moved_key ct_moved_key), sl_moved_key⟩)
    (e_moved_key : PySem.W.codeIn K cd_moved_key "moved_key" = true)
    (p_moved_key : PySem.W.keepIn K (.ref f_moved_key) = true)
    (g_notes_in : PySem.W.nsIn K mainGlobals "notes_in" = some (some (.ref f_notes_in)))
    (l_notes_in : K.lookup f_notes_in = some ⟨oc_notes_in, od_notes_in, .func (PySem.W.fnOf "notes_in" "notes_in" (defArgs s_notes_in) (defBody s_notes_in) (defScope s_notes_in) .none kV_notes_in dc_notes_in pm_notes_in an_notes_in cd_notes_in ct_notes_in), sl_notes_in⟩)
    (e_notes_in : PySem.W.codeIn K cd_notes_in "notes_in" = true)
    (p_notes_in : PySem.W.keepIn K (.ref f_notes_in) = true)
    (g_are_notes : PySem.W.nsIn K mainGlobals "are_notes" = some (some (.ref f_are_notes)))
    (l_are_notes : K.lookup f_are_notes = some ⟨oc_are_notes, od_are_notes, .func (PySem.W.fnOf "are_notes" "are_notes" (defArgs s_are_notes) (defBody s_are_notes) (defScope s_are_notes) .none kV_are_notes dc_are_notes pm_are_notes an_are_notes cd_are_notes ct_are_notes), sl_are_notes⟩)
    (e_are_notes : PySem.W.codeIn K cd_are_notes "are_notes" = true)
    (p_are_notes : PySem.W.keepIn K (.ref f_are_notes) = true)
    (g_written_for : PySem.W.nsIn K mainGlobals "written_for" = some (some (.ref f_written_for)))
    (l_written_for : K.lookup f_written_for = some ⟨oc_written_for, od_written_for, .func (PySem.W.fnOf "written_for" "written_for" (defArgs s_written_for) (defBody s_written_for) (defScope s_written_for) .none kV_written_for dc_written_for pm_written_for an_written_for cd_written_for ct_written_for), sl_written_for⟩)
    (e_written_for : PySem.W.codeIn K cd_written_for "written_for" = true)
    (p_written_for : PySem.W.keepIn K (.ref f_written_for) = true)
    (g_counted : PySem.W.nsIn K mainGlobals "counted" = some (some (.ref f_counted)))
    (l_counted : K.lookup f_counted = some ⟨oc_counted, od_counted, .func (PySem.W.fnOf "counted" "counted" (defArgs s_counted) (defBody s_counted) (defScope s_counted) .none kV_counted dc_counted pm_counted an_counted cd_counted ct_counted), sl_counted⟩)
    (e_counted : PySem.W.codeIn K cd_counted "counted" = true)
    (p_counted : PySem.W.keepIn K (.ref f_counted) = true)
    (g_part : PySem.W.nsIn K mainGlobals "part" = some (some (.ref f_part)))
    (l_part : K.lookup f_part = some ⟨oc_part, od_part, .func (PySem.W.fnOf "part" "part" (defArgs s_part) (defBody s_part) (defScope s_part) .none kV_part dc_part pm_part an_part cd_part ct_part), sl_part⟩)
    (e_part : PySem.W.codeIn K cd_part "part" = true)
    (p_part : PySem.W.keepIn K (.ref f_part) = true) : Txt K mg :=
  ⟨⟨_, PySem.W.mg_of X G g_REFUSED⟩,
   ⟨_, PySem.W.mg_of X G g_LETTERS⟩,
   ⟨_, PySem.W.mg_of X G g_HALVES_IN_OCTAVE⟩,
   ⟨_, PySem.W.mg_of X G g_MOST_RAISED⟩,
   ⟨_, PySem.W.mg_of X G g_LOWEST_OCTAVE⟩,
   ⟨_, PySem.W.mg_of X G g_HIGHEST_OCTAVE⟩,
   ⟨_, PySem.W.mg_of X G g_MOST_STEPS⟩,
   ⟨_, PySem.W.mg_of X G g_MOST_HALVES⟩,
   ⟨_, PySem.W.mg_of X G g_MOST_IN_KEY⟩,
   ⟨_, PySem.W.mg_of X G g_FIFTHS_IN_CIRCLE⟩,
   ⟨_, PySem.W.mg_of X G g_FIFTHS_IN_RAISING⟩,
   ⟨_, PySem.W.mg_of X G g_NUMBERS_IN_NOTE⟩,
   ⟨a_HALVES_ABOVE_C, PySem.W.mg_of X G g_HALVES_ABOVE_C, fun H => .inr ⟨_, _, _, k_HALVES_ABOVE_C, rfl, rfl, line (show 7 ≤ 1000000 from by decide), (Paired.cons ⟨t_HALVES_ABOVE_C_0, rfl⟩ (Paired.cons ⟨t_HALVES_ABOVE_C_1, rfl⟩ (Paired.cons ⟨t_HALVES_ABOVE_C_2, rfl⟩ (Paired.cons ⟨t_HALVES_ABOVE_C_3, rfl⟩ (Paired.cons ⟨t_HALVES_ABOVE_C_4, rfl⟩ (Paired.cons ⟨t_HALVES_ABOVE_C_5, rfl⟩ (Paired.cons ⟨t_HALVES_ABOVE_C_6, rfl⟩ Paired.nil)))))))⟩⟩,
   ⟨a_FIFTHS_OF_LETTERS, PySem.W.mg_of X G g_FIFTHS_OF_LETTERS, fun H => .inr ⟨_, _, _, k_FIFTHS_OF_LETTERS, rfl, rfl, line (show 7 ≤ 1000000 from by decide), (Paired.cons ⟨t_FIFTHS_OF_LETTERS_0, rfl⟩ (Paired.cons ⟨t_FIFTHS_OF_LETTERS_1, rfl⟩ (Paired.cons ⟨t_FIFTHS_OF_LETTERS_2, rfl⟩ (Paired.cons ⟨t_FIFTHS_OF_LETTERS_3, rfl⟩ (Paired.cons ⟨t_FIFTHS_OF_LETTERS_4, rfl⟩ (Paired.cons ⟨t_FIFTHS_OF_LETTERS_5, rfl⟩ (Paired.cons ⟨t_FIFTHS_OF_LETTERS_6, rfl⟩ Paired.nil)))))))⟩⟩,
   (PySem.W.mg_none_of X G g_abs),
   (PySem.W.mg_none_of X G g_len),
   (PySem.W.mg_none_of X G g_list),
   (PySem.W.mg_none_of X G g_range),
   (PySem.W.mg_none_of X G g_tuple),
   ⟨_, _, fun_mk (st := s_is_note) l_is_note e_is_note p_is_note, PySem.W.mg_of X G g_is_note, fun s us hu => match us, hu with | [_, _, _], _ => .of_eq rfl⟩,
   ⟨_, _, fun_mk (st := s_is_interval) l_is_interval e_is_interval p_is_interval, PySem.W.mg_of X G g_is_interval, fun s us hu => match us, hu with | [_, _], _ => .of_eq rfl⟩,
   ⟨_, _, fun_mk (st := s_is_key) l_is_key e_is_key p_is_key, PySem.W.mg_of X G g_is_key, fun s us hu => match us, hu with | [_], _ => .of_eq rfl⟩,
   ⟨_, _, fun_mk (st := s_step_of) l_step_of e_step_of p_step_of, PySem.W.mg_of X G g_step_of, fun s us hu => match us, hu with | [_, _], _ => .of_eq rfl⟩,
   ⟨_, _, fun_mk (st := s_sound_of) l_sound_of e_sound_of p_sound_of, PySem.W.mg_of X G g_sound_of, fun s us hu => match us, hu with | [_, _, _], _ => .of_eq rfl⟩,
   ⟨_, _, fun_mk (st := s_moved) l_moved e_moved p_moved, PySem.W.mg_of X G g_moved, fun s us hu => match us, hu with | [_, _, _, _, _], _ => .of_eq rfl⟩,
   ⟨_, _, fun_mk (st := s_fifths_of) l_fifths_of e_fifths_of p_fifths_of, PySem.W.mg_of X G g_fifths_of, fun s us hu => match us, hu with | [_, _], _ => .of_eq rfl⟩,
   ⟨_, _, fun_mk (st := s_interval_fifths) l_interval_fifths e_interval_fifths p_interval_fifths, PySem.W.mg_of X G g_interval_fifths, fun s us hu => match us, hu with | [_, _], _ => .of_eq rfl⟩,
   ⟨_, _, fun_mk (st := s_moved_key) l_moved_key e_moved_key p_moved_key, PySem.W.mg_of X G g_moved_key, fun s us hu => match us, hu with | [_, _, _], _ => .of_eq rfl⟩,
   ⟨_, _, fun_mk (st := s_notes_in) l_notes_in e_notes_in p_notes_in, PySem.W.mg_of X G g_notes_in, fun s us hu => match us, hu with | [_], _ => .of_eq rfl⟩,
   ⟨_, _, fun_mk (st := s_are_notes) l_are_notes e_are_notes p_are_notes, PySem.W.mg_of X G g_are_notes, fun s us hu => match us, hu with | [_], _ => .of_eq rfl⟩,
   ⟨_, _, fun_mk (st := s_written_for) l_written_for e_written_for p_written_for, PySem.W.mg_of X G g_written_for, fun s us hu => match us, hu with | [_, _, _, _, _], _ => .of_eq rfl⟩,
   ⟨_, _, fun_mk (st := s_counted) l_counted e_counted p_counted, PySem.W.mg_of X G g_counted, fun s us hu => match us, hu with | [_], _ => .of_eq rfl⟩,
   ⟨_, _, fun_mk (st := s_part) l_part e_part p_part, PySem.W.mg_of X G g_part, fun s us hu => match us, hu with | [_, _, _, _, _, _], _ => .of_eq rfl⟩⟩
theorem all_of {P : Program} {w : World} {K : PySem.W.Frag} {mg : Str → Option Value} {fa : Addr} (hfa : mg "part" = some (.ref fa)) (T : Txt K mg) :
    ∃ fd : FuncData, (∀ (s : Shared) (us : List Value), us.length = (["steps", "halves", "lowest", "highest", "in_key", "notes"] : List Str).length → BindsTo s fd ⟨us, []⟩ ((["steps", "halves", "lowest", "highest", "in_key", "notes"] : List Str).zip us)) ∧ ∀ base : Heap, K.In base → base.Ns mainGlobals mg → FnOk P w K mg base CX0 5 fa fd ["steps", "halves", "lowest", "highest", "in_key", "notes"] (sp_part K) := by
  obtain ⟨f, fd, D⟩ := T.d_part
  have e : f = fa := by have z := D.g.symm.trans hfa; injection z with z; injection z
  subst e
  exact ⟨fd, D.bt, fun base _ _ => ok_part T D⟩
end Sn
open PySem PySem.W PyProof.Rows
set_option maxRecDepth 100000 in
set_option maxHeartbeats 8000000 in
theorem PySem.Challenge.cw_spellednotes_s07_part_holds : PySem.Challenge.rw_spellednotes_s07_part.Holds := by
  w_on; k_headS; (case hw => exact ⟨[.int 0, .int 0, .int 0, .int 0, .int 0, .list []], by decide +kernel, by decide +kernel⟩)
  k_fillS
  refine L2.walk_specK (r := PySem.Challenge.rw_spellednotes_s07_part) (k := 5) (CX := L2.CX0) (ps := ["steps", "halves", "lowest", "highest", "in_key", "notes"]) (sp := Sn.sp_part) (by decide +kernel) rfl rfl ⟨rfl, by decide, by decide⟩ (fun w h Y => PySem.W.kIn_of Y) ?F ?S (fun _ _ _ _ z => z)
  case F =>
    intro w mg fa h Y KX G hmg
    refine Sn.all_of hmg ?_
    refine' Sn.txt_mk KX G ?g_REFUSED ?g_LETTERS ?g_HALVES_IN_OCTAVE ?g_MOST_RAISED ?g_LOWEST_OCTAVE ?g_HIGHEST_OCTAVE ?g_MOST_STEPS ?g_MOST_HALVES ?g_MOST_IN_KEY ?g_FIFTHS_IN_CIRCLE ?g_FIFTHS_IN_RAISING ?g_NUMBERS_IN_NOTE ?g_HALVES_ABOVE_C ?k_HALVES_ABOVE_C ?g_FIFTHS_OF_LETTERS ?k_FIFTHS_OF_LETTERS ?g_abs ?g_len ?g_list ?g_range ?g_tuple ?g_is_note ?l_is_note ?e_is_note ?p_is_note ?g_is_interval ?l_is_interval ?e_is_interval ?p_is_interval ?g_is_key ?l_is_key ?e_is_key ?p_is_key ?g_step_of ?l_step_of ?e_step_of ?p_step_of ?g_sound_of ?l_sound_of ?e_sound_of ?p_sound_of ?g_moved ?l_moved ?e_moved ?p_moved ?g_fifths_of ?l_fifths_of ?e_fifths_of ?p_fifths_of ?g_interval_fifths ?l_interval_fifths ?e_interval_fifths ?p_interval_fifths ?g_moved_key ?l_moved_key ?e_moved_key ?p_moved_key ?g_notes_in ?l_notes_in ?e_notes_in ?p_notes_in ?g_are_notes ?l_are_notes ?e_are_notes ?p_are_notes ?g_written_for ?l_written_for ?e_written_for ?p_written_for ?g_counted ?l_counted ?e_counted ?p_counted ?g_part ?l_part ?e_part ?p_part
    (case g_REFUSED => k_is)
    (case g_LETTERS => k_is)
    (case g_HALVES_IN_OCTAVE => k_is)
    (case g_MOST_RAISED => k_is)
    (case g_LOWEST_OCTAVE => k_is)
    (case g_HIGHEST_OCTAVE => k_is)
    (case g_MOST_STEPS => k_is)
    (case g_MOST_HALVES => k_is)
    (case g_MOST_IN_KEY => k_is)
    (case g_FIFTHS_IN_CIRCLE => k_is)
    (case g_FIFTHS_IN_RAISING => k_is)
    (case g_NUMBERS_IN_NOTE => k_is)
    (case g_HALVES_ABOVE_C => k_is)
    (case k_HALVES_ABOVE_C => k_is)
    (case g_FIFTHS_OF_LETTERS => k_is)
    (case k_FIFTHS_OF_LETTERS => k_is)
    (case g_abs => k_is)
    (case g_len => k_is)
    (case g_list => k_is)
    (case g_range => k_is)
    (case g_tuple => k_is)
    (case g_is_note => k_is)
    (case l_is_note => k_is)
    (case e_is_note => k_is)
    (case p_is_note => k_is)
    (case g_is_interval => k_is)
    (case l_is_interval => k_is)
    (case e_is_interval => k_is)
    (case p_is_interval => k_is)
    (case g_is_key => k_is)
    (case l_is_key => k_is)
    (case e_is_key => k_is)
    (case p_is_key => k_is)
    (case g_step_of => k_is)
    (case l_step_of => k_is)
    (case e_step_of => k_is)
    (case p_step_of => k_is)
    (case g_sound_of => k_is)
    (case l_sound_of => k_is)
    (case e_sound_of => k_is)
    (case p_sound_of => k_is)
    (case g_moved => k_is)
    (case l_moved => k_is)
    (case e_moved => k_is)
    (case p_moved => k_is)
    (case g_fifths_of => k_is)
    (case l_fifths_of => k_is)
    (case e_fifths_of => k_is)
    (case p_fifths_of => k_is)
    (case g_interval_fifths => k_is)
    (case l_interval_fifths => k_is)
    (case e_interval_fifths => k_is)
    (case p_interval_fifths => k_is)
    (case g_moved_key => k_is)
    (case l_moved_key => k_is)
    (case e_moved_key => k_is)
    (case p_moved_key => k_is)
    (case g_notes_in => k_is)
    (case l_notes_in => k_is)
    (case e_notes_in => k_is)
    (case p_notes_in => k_is)
    (case g_are_notes => k_is)
    (case l_are_notes => k_is)
    (case e_are_notes => k_is)
    (case p_are_notes => k_is)
    (case g_written_for => k_is)
    (case l_written_for => k_is)
    (case e_written_for => k_is)
    (case p_written_for => k_is)
    (case g_counted => k_is)
    (case l_counted => k_is)
    (case e_counted => k_is)
    (case p_counted => k_is)
    (case g_part => k_is)
    (case l_part => k_is)
    (case e_part => k_is)
    (case p_part => k_is)
  case S =>
    intro K H xs a hO hwi hask hx
    obtain ⟨s, h, lo, hi, k, ns, u⟩ := a
    cases hx with
    | cons h1 hx => cases hx with
      | cons h2 hx => cases hx with
        | cons h3 hx => cases hx with
          | cons h4 hx => cases hx with
            | cons h5 hx => cases hx with
              | cons h6 hx =>
                cases hx; cases h1; cases h2; cases h3; cases h4; cases h5
                have h6' : L2.Dw K H _ (WData.list (ns.map WData.int)) := h6
                cases h6' with
                | lst h7 h8 =>
                  rw [L2.ints_dw _ _ h8] at h7
                  have hask' : PySw68.part_asked s h lo hi k ns = true := hask
                  obtain ⟨xs, e, hl, ew⟩ := Sn.part_inv hask'
                  refine ⟨s, h, lo, hi, k, _, xs, rfl, e ▸ h7, hl, fun H' p hp => ?_⟩
                  show L2.Dw K H' (.ref p) (WData.list ((PySw68.part s h lo hi k ns).map WData.int))
                  rw [ew]
                  exact .lst (L2.SqL.of hp) (L2.dw_ints _)
#print axioms PySem.Challenge.cw_spellednotes_s07_part_holds

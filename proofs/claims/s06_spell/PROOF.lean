import PyProof.Rows.All
import Wide.All
import OpenK.AllK
import Wide.FinOn
import Open.SpecLaws
import KE.OsGo
import HandS.Base
import HandS.Call
import HandS.List
import HandS.Ends
import HandS.Exc
import HandS.TryOnly
import HandS.ExcOwn
import HandS.Spec
import HandS.Words
import HandS.WordsList
import HandS.WordsExc
import HandS.Comp
import HandS.Dict
import HandS.Iter
import HandS.WordsDict
import HandS.Lambda
import KE.DataMinKey
import KE.KNest
import HandS.Lambda
import KE.KNest
import HandS.Walk
import PySem.Challenge.RW_spellednotes_s06_spell
set_option Elab.async false
set_option linter.all false
set_option maxRecDepth 100000
set_option maxHeartbeats 2000000
namespace Sn
open PySem PySem.Spec PyProof.Rows L2
/-! ### Words of this proof: a def of the text with its promise; a number, a table of the top -/
def Has (P : Program) (w : World) (K : PySem.W.Frag) (mg : Str → Option Value) (base : Heap) (x : Str) (k : Nat) (ps : List Str) (sp : Sp) : Prop :=
  ∃ (f : Addr) (fd : FuncData), FnOk P w K mg base CX0 k f fd ps sp ∧ mg x = some (.ref f) ∧ PySem.W.keepIn K (.ref f) = true ∧ Binds K fd ps []
theorem pe_has {X : Cx} {x : Str} {k : Nat} {ps : List Str} {sp : Sp} {e : Expr} {es : List Expr} {p pos : Pos} {t : TA}
    (h : Has X.prog X.w X.K X.mg X.base x k ps sp) (hr : Room k X.A) (ha : PA X (e :: es) t) (hg : Gl X x := by rfl) (hdb : (x == ("__debug__" : Str)) = false := by decide)
    (he : starEach (e :: es) X.env = (false, eval e X.env) :: starEach es X.env := by rfl) (hpl : (backTo pos (starEach es X.env)).any (·.1) = false := by rfl) :
    PE X (.Call (.Name x p) (e :: es) [] pos) (tCall sp [] E0 t) := by
  obtain ⟨f, fd, F, g, kp, b⟩ := h
  exact pe_call F hr hg g kp b .nil pass0 ha hdb he hpl
theorem pe_globI {X : Cx} {x : Str} {n : Int} {pos : Pos} (hm : ∃ t, X.mg x = some (.int n t)) (hg : Gl X x := by rfl) (hd : (x == ("__debug__" : Str)) = false := by decide) : PE X (.Name x pos) (tC (.int n)) := by
  obtain ⟨t, ht⟩ := hm
  exact pe_glob hg ht ⟨t, rfl⟩ hd
/-- a written tuple of numbers of the top, at a name -/
def Tab (K : PySem.W.Frag) (mg : Str → Option Value) (x : Str) (ns : List Int) : Prop := ∃ a, mg x = some (.ref a) ∧ ∀ H, SqT K H a (ns.map V.int)
/-- its name as a value -/
def tGT (K : PySem.W.Frag) (ns : List Int) : TE := fun _ H Q => ∀ a, (∀ H, SqT K H a (ns.map V.int)) → Q (.ref a) H
theorem pe_globT {X : Cx} {x : Str} {ns : List Int} {pos : Pos} (hm : Tab X.K X.mg x ns) (hg : Gl X x := by rfl) (hd : (x == ("__debug__" : Str)) = false := by decide) : PE X (.Name x pos) (tGT X.K ns) := by
  obtain ⟨a, ha, hT⟩ := hm
  exact ⟨fun pins s σ H Q I h => (pe_glob (v := .ref a) hg ha rfl hd).run pins s σ H Q I (h a hT)⟩
theorem tGT_at {K : PySem.W.Frag} {ns : List Int} {σ : L2.St} {H : Hp} {Q : VK} (h : ∀ a, (∀ H, SqT K H a (ns.map V.int)) → Q (.ref a) H) : tGT K ns σ H Q := h
/-- an item of such a table -/
theorem at_tab {ns : List Int} {i : Int} (h0 : 0 ≤ i) (h1 : i < ns.length) : atI (ns.map V.int) i = some (V.int (ns.getD i.toNat 0)) := by
  obtain ⟨j, rfl⟩ : ∃ j : Nat, i = (j : Int) := ⟨i.toNat, by omega⟩
  refine atI_nat ?_
  have hj : j < ns.length := by omega
  simp [List.getElem?_map, List.getElem?_eq_getElem hj]
/-- a table's item, as a reading: the index lies in it -/
def tTab (ns : List Int) (ti : TE) : TE := fun σ H Q => ti σ H fun y H1 => ∃ i : Int, y = .int i ∧ (0 ≤ i ∧ i < ns.length) ∧ Q (.int (ns.getD i.toNat 0)) H1
theorem pe_tab {X : Cx} {x : Str} {ns : List Int} {p pos : Pos} {b : Expr} {ti : TE} (hm : Tab X.K X.mg x ns) (hi : PE X b ti) (hs : PlainIx b) (hg : Gl X x := by rfl) (hd : (x == ("__debug__" : Str)) = false := by decide) :
    PE X (.Subscript (.Name x p) b pos) (tTab ns ti) := by
  obtain ⟨a, ha, hT⟩ := hm
  have hr : IxR X (fun x y H Q => x = .ref a ∧ ∃ i : Int, y = .int i ∧ (0 ≤ i ∧ i < ns.length) ∧ Q (.int (ns.getD i.toNat 0)) H) := by
    rintro value slice pins s σ H x y v u Q I rx ry ⟨rfl, i, rfl, ⟨h0, h1⟩, q⟩ hs
    exact ix_tup value slice pins s σ H _ _ v u Q I rx ry ⟨a, _, i, _, rfl, rfl, hT H, at_tab h0 h1, q⟩ hs
  have e := pe_ix (pos := pos) hr (pe_glob (pos := p) (v := .ref a) hg ha rfl hd) hi hs
  have z : tOp (fun x y H Q => x = .ref a ∧ ∃ i : Int, y = .int i ∧ (0 ≤ i ∧ i < ns.length) ∧ Q (.int (ns.getD i.toNat 0)) H) (tC (.ref a)) ti = tTab ns ti := by
    funext σ H Q
    show ti σ H _ = ti σ H _
    congr 1
    funext y H1
    exact propext ⟨fun h => h.2, fun h => ⟨rfl, h⟩⟩
  rw [z] at e
  exact e
theorem in_ints {i : Int} : ∀ {ns : List Int}, inV (.int i) (ns.map V.int) = decide (i ∈ ns)
  | [] => by simp [inV]
  | n :: r => by
    have ih := in_ints (i := i) (ns := r)
    show (eqV (.int n) (.int i) || inV (.int i) (r.map V.int)) = _
    rw [ih]
    show ((n == i) || decide (i ∈ r)) = _
    by_cases h : n = i
    · subst h
      simp
    · have h' : ¬ i = n := fun z => h z.symm
      simp [h, h']
/-- is it in the table -/
def tInTab (ns : List Int) (ti : TE) : TE := fun σ H Q => ti σ H fun y H1 => ∃ i : Int, y = .int i ∧ Q (.bl (decide (i ∈ ns))) H1
theorem pe_inTab {X : Cx} {x : Str} {ns : List Int} {p pos : Pos} {b : Expr} {ti : TE} (hm : Tab X.K X.mg x ns) (hi : PE X b ti) (hg : Gl X x := by rfl) (hd : (x == ("__debug__" : Str)) = false := by decide) :
    PE X (.Compare b [.In] [.Name x p] pos) (tInTab ns ti) := by
  obtain ⟨a, ha, hT⟩ := hm
  have hr : OpR X (compareOp .In) (fun x y H Q => y = .ref a ∧ ∃ i : Int, x = .int i ∧ Q (.bl (decide (i ∈ ns))) H) := by
    rintro pins s σ H x y v u Q I rx ry ⟨rfl, i, rfl, q⟩
    refine op_in_seq pins s σ H _ _ v u Q I rx ry ⟨a, _, rfl, .inr (hT H), rfl, ?_, ?_⟩
    · rw [List.all_map]
      exact List.all_eq_true.mpr fun _ _ => rfl
    · rw [in_ints]
      exact q
  have e := pe_cmpR (pos := pos) hr hi (pe_glob (pos := p) (v := .ref a) hg ha rfl hd) rfl
  have z : tOp (fun x y H Q => y = .ref a ∧ ∃ i : Int, x = .int i ∧ Q (.bl (decide (i ∈ ns))) H) ti (tC (.ref a)) = tInTab ns ti := by
    funext σ H Q
    show ti σ H _ = ti σ H _
    congr 1
    funext y H1
    exact propext ⟨fun h => h.2, fun h => ⟨rfl, h⟩⟩
  rw [z] at e
  exact e
theorem pt_inTab {X : Cx} {x : Str} {ns : List Int} {p pos : Pos} {b : Expr} {ti : TE} (hm : Tab X.K X.mg x ns) (hi : PE X b ti) (hg : Gl X x := by rfl) (hd : (x == ("__debug__" : Str)) = false := by decide) :
    PT X (.Compare b [.In] [.Name x p] pos) (tB (tInTab ns ti)) := by
  obtain ⟨a, ha, hT⟩ := hm
  have hr : OpR X (compareOp .In) (fun x y H Q => y = .ref a ∧ ∃ i : Int, x = .int i ∧ Q (.bl (decide (i ∈ ns))) H) := by
    rintro pins s σ H x y v u Q I rx ry ⟨rfl, i, rfl, q⟩
    refine op_in_seq pins s σ H _ _ v u Q I rx ry ⟨a, _, rfl, .inr (hT H), rfl, ?_, ?_⟩
    · rw [List.all_map]
      exact List.all_eq_true.mpr fun _ _ => rfl
    · rw [in_ints]
      exact q
  have e := pt_cmpR (pos := pos) hr hi (pe_glob (pos := p) (v := .ref a) hg ha rfl hd) rfl
  have z : tTest (tOp (fun x y H Q => y = .ref a ∧ ∃ i : Int, x = .int i ∧ Q (.bl (decide (i ∈ ns))) H) ti (tC (.ref a))) = tB (tInTab ns ti) := by
    funext σ H Q
    show ti σ H _ = ti σ H _
    congr 1
    funext y H1
    exact propext ⟨fun h => h.2, fun h => ⟨rfl, h⟩⟩
  rw [z] at e
  exact e
/-- what the top has of a def -/
structure Def (K : PySem.W.Frag) (mg : Str → Option Value) (x : Str) (st : Stmt) (ps : List Str) (f : Addr) (fd : FuncData) : Prop where
  F : Fun K x x st f fd
  g : mg x = some (.ref f)
  bt : ∀ (s : Shared) (us : List Value), us.length = ps.length → BindsTo s fd ⟨us, []⟩ (ps.zip us)
theorem Def.b {K : PySem.W.Frag} {mg : Str → Option Value} {x : Str} {st : Stmt} {ps : List Str} {f : Addr} {fd : FuncData} (D : Def K mg x st ps f fd) : Binds K fd ps [] := fun s us _ hl => by
  rw [List.append_nil] at hl ⊢
  exact D.bt s us hl
theorem has_of {P : Program} {w : World} {K : PySem.W.Frag} {mg : Str → Option Value} {base : Heap} {x : Str} {st : Stmt} {ps : List Str} {k : Nat} {sp : Sp} (D : ∃ f fd, Def K mg x st ps f fd)
    (h : ∀ f fd, Def K mg x st ps f fd → FnOk P w K mg base CX0 k f fd ps sp) : Has P w K mg base x k ps sp := by
  obtain ⟨f, fd, D⟩ := D
  exact ⟨f, fd, h f fd D, D.g, D.F.kp, D.b⟩
theorem cxOf_K {CX : CXT} {P : Program} {w : World} {K : PySem.W.Frag} {mg : Str → Option Value} {base : Heap} {N : List Str} {q : Str} {sc : Scope} {f : Addr} {cd : Value} {A : Around} {o : List Env} {s : Shared} {H : Hp} {E : XK} : (cxOf CX P w K mg base N q sc f cd A o s H E).K = K := rfl
theorem Same.tup {K : PySem.W.Frag} {H H' : Hp} {a : Addr} {xs : List V} (e : Same H H') (h : SqT K H a xs) : SqT K H' a xs := by
  rcases h with (h | ⟨o, h⟩) | h
  · exact .inl (.inl (e _ _ h))
  · exact .inl (.inr ⟨o, e _ _ h⟩)
  · exact .inr h
theorem Same.new {H : Hp} {p : Addr} {o : HO} (hp : H p = none) : Same H (upd H p o) := fun b o' h => by
  rw [upd_ne (fun z => by rw [z, hp] at h; cases h)]
  exact h
theorem ne_new {H : Hp} {p q : Addr} {o : HO} (h : upd H p o q = none) : q ≠ p := fun z => by
  rw [z, upd_same] at h
  cases h
/-- tuple(xs), len(xs): their readings by name -/
def rTupOf (K : PySem.W.Frag) : List V → Hp → VK → Prop := fun xs H Q => ∃ p ys, xs = [.ref p] ∧ ((SqL K H p ys ∧ ∀ l, H l = none → Q (.ref l) (upd H l (.tup ys))) ∨ (SqT K H p ys ∧ Q (.ref p) H))
def rLenOf (K : PySem.W.Frag) : List V → Hp → VK → Prop := fun xs H Q => ∃ p ys, xs = [.ref p] ∧ (SqL K H p ys ∨ SqT K H p ys) ∧ Q (.int ys.length) H
theorem line {n : Nat} (h : n ≤ 1000000) : n ≤ sizeLine := Nat.le_trans h (by decide)
end Sn
namespace Sn
open PySem PySem.Spec PyProof.Rows L2
/-! ### The text: each def by its place in the program -/
def top (i : Nat) : Stmt := PySem.Challenge.pw_spellednotes_s06_spell.main.body.getD i (.Pass ⟨0, 0, 0, 0⟩)
abbrev s_is_note : Stmt := top 15
theorem sc_is_note : FnScope ["letter", "raised", "octave"] ["letter", "raised", "octave"] (defScope s_is_note) := ⟨rfl, rfl, rfl, by decide +kernel, rfl, by decide +kernel, by decide +kernel⟩
abbrev s_is_key : Stmt := top 16
theorem sc_is_key : FnScope ["in_key"] ["in_key"] (defScope s_is_key) := ⟨rfl, rfl, rfl, by decide +kernel, rfl, by decide +kernel, by decide +kernel⟩
abbrev s_sound_of : Stmt := top 17
theorem sc_sound_of : FnScope ["letter", "raised", "octave"] ["letter", "raised", "octave"] (defScope s_sound_of) := ⟨rfl, rfl, rfl, by decide +kernel, rfl, by decide +kernel, by decide +kernel⟩
abbrev s_fifths_of : Stmt := top 18
theorem sc_fifths_of : FnScope ["letter", "raised"] ["letter", "raised"] (defScope s_fifths_of) := ⟨rfl, rfl, rfl, by decide +kernel, rfl, by decide +kernel, by decide +kernel⟩
abbrev s_raised_by_key : Stmt := top 19
theorem sc_raised_by_key : FnScope ["in_key", "letter", "place"] ["in_key", "letter"] (defScope s_raised_by_key) := ⟨rfl, rfl, rfl, by decide +kernel, rfl, by decide +kernel, by decide +kernel⟩
abbrev s_are_sounds : Stmt := top 20
theorem sc_are_sounds : FnScope ["numbers", "number"] ["numbers"] (defScope s_are_sounds) := ⟨rfl, rfl, rfl, by decide +kernel, rfl, by decide +kernel, by decide +kernel⟩
abbrev s_spellings_of : Stmt := top 21
theorem sc_spellings_of : FnScope ["sound", "notes", "octave", "letter", "raised"] ["sound"] (defScope s_spellings_of) := ⟨rfl, rfl, rfl, by decide +kernel, rfl, by decide +kernel, by decide +kernel⟩
abbrev s_beyond_five : Stmt := top 22
theorem sc_beyond_five : FnScope ["number"] ["number"] (defScope s_beyond_five) := ⟨rfl, rfl, rfl, by decide +kernel, rfl, by decide +kernel, by decide +kernel⟩
abbrev s_note_cost : Stmt := top 23
theorem sc_note_cost : FnScope ["sign", "far", "in_key", "note", "otherwise", "from_middle"] ["sign", "far", "in_key", "note"] (defScope s_note_cost) := ⟨rfl, rfl, rfl, by decide +kernel, rfl, by decide +kernel, by decide +kernel⟩
abbrev s_neighbours_cost : Stmt := top 24
theorem sc_neighbours_cost : FnScope ["apart", "same", "first", "second", "cost"] ["apart", "same", "first", "second"] (defScope s_neighbours_cost) := ⟨rfl, rfl, rfl, by decide +kernel, rfl, by decide +kernel, by decide +kernel⟩
abbrev s_put_ahead : Stmt := top 25
theorem sc_put_ahead : FnScope ["apart", "same", "note", "row", "cost", "notes"] ["apart", "same", "note", "row"] (defScope s_put_ahead) := ⟨rfl, rfl, rfl, by decide +kernel, rfl, by decide +kernel, by decide +kernel⟩
abbrev s_cheapest : Stmt := top 26
theorem sc_cheapest : FnScope ["rows"] ["rows"] (defScope s_cheapest) := ⟨rfl, rfl, rfl, by decide +kernel, rfl, by decide +kernel, by decide +kernel⟩
abbrev s_spelled : Stmt := top 27
theorem sc_spelled : FnScope ["sign", "apart", "far", "same", "in_key", "numbers", "rows", "number", "longer", "note", "row", "behind"] ["sign", "apart", "far", "same", "in_key", "numbers"] (defScope s_spelled) := ⟨rfl, rfl, rfl, by decide +kernel, rfl, by decide +kernel, by decide +kernel⟩
abbrev s_counted : Stmt := top 28
theorem sc_counted : FnScope ["numbers"] ["numbers"] (defScope s_counted) := ⟨rfl, rfl, rfl, by decide +kernel, rfl, by decide +kernel, by decide +kernel⟩
abbrev s_spell : Stmt := top 29
theorem sc_spell : FnScope ["sign", "apart", "far", "same", "in_key", "numbers", "row", "answer", "note"] ["sign", "apart", "far", "same", "in_key", "numbers"] (defScope s_spell) := ⟨rfl, rfl, rfl, by decide +kernel, rfl, by decide +kernel, by decide +kernel⟩
/-- the code object of the def that makes the lambda, and its table, by the written part -/
def cPK (K : PySem.W.Frag) : Addr × Addr := (PySem.W.tabIn K "cheapest").getD (0, 0)
/-- what the top has left -/
structure Txt (K : PySem.W.Frag) (mg : Str → Option Value) (base : Heap) : Prop where
  lam : LamX.TabB base mg (cPK K).1 (cPK K).2
  lamc : ∀ (f : Addr) (fd : FuncData), Def K mg "cheapest" s_cheapest ["rows"] f fd → fd.code = .ref (cPK K).1
  c_REFUSED : ∃ t, mg "REFUSED" = some (.int (-1) t)
  c_LETTERS : ∃ t, mg "LETTERS" = some (.int (7) t)
  c_HALVES_IN_OCTAVE : ∃ t, mg "HALVES_IN_OCTAVE" = some (.int (12) t)
  c_MOST_RAISED : ∃ t, mg "MOST_RAISED" = some (.int (3) t)
  c_LOWEST_OCTAVE : ∃ t, mg "LOWEST_OCTAVE" = some (.int (-1) t)
  c_HIGHEST_OCTAVE : ∃ t, mg "HIGHEST_OCTAVE" = some (.int (9) t)
  c_MOST_IN_KEY : ∃ t, mg "MOST_IN_KEY" = some (.int (7) t)
  c_FIFTHS_IN_RAISING : ∃ t, mg "FIFTHS_IN_RAISING" = some (.int (7) t)
  c_MOST_NUMBERS : ∃ t, mg "MOST_NUMBERS" = some (.int (40) t)
  c_HIGHEST_SOUND : ∃ t, mg "HIGHEST_SOUND" = some (.int (127) t)
  c_NEAR_FIFTHS : ∃ t, mg "NEAR_FIFTHS" = some (.int (5) t)
  c_MIDDLE_OF_KEY : ∃ t, mg "MIDDLE_OF_KEY" = some (.int (2) t)
  c_HALVES_ABOVE_C : Tab K mg "HALVES_ABOVE_C" [0, 2, 4, 5, 7, 9, 11]
  c_FIFTHS_OF_LETTERS : Tab K mg "FIFTHS_OF_LETTERS" [0, 2, 4, -1, 1, 3, 5]
  b_abs : mg "abs" = none
  b_len : mg "len" = none
  b_list : mg "list" = none
  b_max : mg "max" = none
  b_min : mg "min" = none
  b_range : mg "range" = none
  b_reversed : mg "reversed" = none
  d_is_note : ∃ f fd, Def K mg "is_note" s_is_note ["letter", "raised", "octave"] f fd
  d_is_key : ∃ f fd, Def K mg "is_key" s_is_key ["in_key"] f fd
  d_sound_of : ∃ f fd, Def K mg "sound_of" s_sound_of ["letter", "raised", "octave"] f fd
  d_fifths_of : ∃ f fd, Def K mg "fifths_of" s_fifths_of ["letter", "raised"] f fd
  d_raised_by_key : ∃ f fd, Def K mg "raised_by_key" s_raised_by_key ["in_key", "letter"] f fd
  d_are_sounds : ∃ f fd, Def K mg "are_sounds" s_are_sounds ["numbers"] f fd
  d_spellings_of : ∃ f fd, Def K mg "spellings_of" s_spellings_of ["sound"] f fd
  d_beyond_five : ∃ f fd, Def K mg "beyond_five" s_beyond_five ["number"] f fd
  d_note_cost : ∃ f fd, Def K mg "note_cost" s_note_cost ["sign", "far", "in_key", "note"] f fd
  d_neighbours_cost : ∃ f fd, Def K mg "neighbours_cost" s_neighbours_cost ["apart", "same", "first", "second"] f fd
  d_put_ahead : ∃ f fd, Def K mg "put_ahead" s_put_ahead ["apart", "same", "note", "row"] f fd
  d_cheapest : ∃ f fd, Def K mg "cheapest" s_cheapest ["rows"] f fd
  d_spelled : ∃ f fd, Def K mg "spelled" s_spelled ["sign", "apart", "far", "same", "in_key", "numbers"] f fd
  d_counted : ∃ f fd, Def K mg "counted" s_counted ["numbers"] f fd
  d_spell : ∃ f fd, Def K mg "spell" s_spell ["sign", "apart", "far", "same", "in_key", "numbers"] f fd
end Sn
namespace Sn
open PySem PySem.Spec PyProof.Rows L2
/-! ### The mathematics -/
theorem nat_tab (l : Int) : ([0, 2, 4, 5, 7, 9, 11] : List Int).getD l.toNat 0 = Sw68.natural l := rfl
theorem fdiv7 (s : Int) : s.fdiv 7 = s / 7 := Int.fdiv_eq_ediv_of_nonneg s (by decide)
theorem fmod7 (s : Int) : s.fmod 7 = s % 7 := Int.fmod_eq_emod_of_nonneg s (by decide)
theorem note_iff {l r o : Int} : Sw68.noteOk ⟨l, r, o⟩ = true ↔ (0 ≤ l ∧ l ≤ 6) ∧ (-3 ≤ r ∧ r ≤ 3) ∧ (-1 ≤ o ∧ o ≤ 9) := by
  simp only [Sw68.noteOk, Bool.and_eq_true, decide_eq_true_eq]
  exact Iff.rfl
theorem ok_l {l r o : Int} (h : Sw68.noteOk ⟨l, r, o⟩ = true) : 0 ≤ l ∧ l ≤ 6 := by
  simp only [Sw68.noteOk, Bool.and_eq_true, decide_eq_true_eq] at h
  exact h.1
theorem int_in {z : Int} {l : List Int} (h : -2147483648 ≤ z ∧ z ≤ 2147483647) : Sw68Neutral.intIn (z :: l) = some (z, l) := by
  unfold Sw68Neutral.intIn
  exact if_pos ⟨by omega, by omega⟩
theorem note_in {a b c : Int} {l : List Int} (h1 : -2147483648 ≤ a ∧ a ≤ 2147483647) (h2 : -2147483648 ≤ b ∧ b ≤ 2147483647) (h3 : -2147483648 ≤ c ∧ c ≤ 2147483647) : Sw68Neutral.noteIn (a :: b :: c :: l) = some (⟨a, b, c⟩, l) := by
  unfold Sw68Neutral.noteIn
  rw [int_in h1]
  show (Option.bind (Sw68Neutral.intIn (b :: c :: l)) _) = _
  rw [int_in h2]
  show (Option.map _ (Sw68Neutral.intIn (c :: l))) = _
  rw [int_in h3]
  rfl
theorem interval_in {a b : Int} {l : List Int} (h1 : -2147483648 ≤ a ∧ a ≤ 2147483647) (h2 : -2147483648 ≤ b ∧ b ≤ 2147483647) : Sw68Neutral.intervalIn (a :: b :: l) = some (⟨a, b⟩, l) := by
  unfold Sw68Neutral.intervalIn
  rw [int_in h1]
  show (Option.map _ (Sw68Neutral.intIn (b :: l))) = _
  rw [int_in h2]
  rfl
def slotI (σ : L2.St) (i : Nat) : Int := match σ[i]? with
  | some (some (.int f)) => f
  | _ => 0
def lenAt (H : Hp) (B : Addr) : Nat := match H B with
  | some (.lst xs) => xs.length
  | _ => 0
theorem lenAt_of {H : Hp} {B : Addr} {xs : List V} (h : H B = some (.lst xs)) : lenAt H B = xs.length := by
  unfold lenAt
  rw [h]
theorem iteY {c : Bool} {A B : Prop} (h : c = true) (k : A) : if c = true then A else B := by
  rw [if_pos h]
  exact k
theorem iteN {c : Bool} {A B : Prop} (h : ¬ c = true) (k : B) : if c = true then A else B := by
  rw [if_neg h]
  exact k
def sp_is_note : Sp := fun vs H Q _ => ∃ l r o : Int, vs = [.int l, .int r, .int o] ∧ Q (.bl (Sw68.noteOk ⟨l, r, o⟩)) H
theorem ok_is_note {P : Program} {w : World} {K : PySem.W.Frag} {mg : Str → Option Value} {base : Heap} (T : Txt K mg base) {f : Addr} {fd : FuncData} (D : Def K mg "is_note" s_is_note ["letter", "raised", "octave"] f fd) : FnOk P w K mg base CX0 1 f fd ["letter", "raised", "octave"] (sp_is_note) := by
  refine D.F.ok sc_is_note (fun vs H Q E h => ?_) (fun cdv A outer s H vs Q E hr h => ⟨_, (pss_cons (ps_if (pt_not (pt_chain op_le op_lt pe_int (pv 0) (pe_globI T.c_LETTERS))) (pss_one (ps_ret pe_bl)) pss_nil)
      (pss_cons (ps_if (pt_not (pt_chain op_le op_le (pe_un un_neg (pe_globI T.c_MOST_RAISED)) (pv 1) (pe_globI T.c_MOST_RAISED))) (pss_one (ps_ret pe_bl)) pss_nil)
      (pss_one (ps_ret (pe_chain op_le op_le (pe_globI T.c_LOWEST_OCTAVE) (pv 2) (pe_globI T.c_HIGHEST_OCTAVE)))))), ?_⟩)
  · obtain ⟨l, r, o, rfl, _⟩ := h
    rfl
  · obtain ⟨l, r, o, rfl, k⟩ := h
    have e : ∀ b, b = Sw68.noteOk ⟨l, r, o⟩ → Q (.bl b) H := fun b z => z ▸ k
    simp only [tSeq, tAsg, tIfS, tRet, tNext, tOp, tUn, tTest, tB, tNot, tAnd, tOr, tAndV, tOrV, tNotV, tChain, tVar, tC, tCons, tNil, tCall, tCB, tIf, tDrop, gName, tAug, ipI, rI, rI0, rU, CMul, CDiv, rEq, rNe, scal, tTab, tInTab, cxOf_K, L2.start, Nat.reduceAdd, Nat.reduceSub, Nat.sub_self, List.map_cons, List.map_nil, List.length_cons, List.length_nil, List.replicate, List.append_nil, List.cons_append, List.nil_append, List.set_cons_zero, List.set_cons_succ, List.getElem?_cons_zero, List.getElem?_cons_succ, Option.some.injEq, List.cons.injEq, V.int.injEq, V.bl.injEq, V.ref.injEq, and_true, true_and, exists_eq_left, and_assoc, exists_eq_left', exists_and_left, decide_eq_true_eq, Bool.true_eq_false, if_true, if_false]
    repeat' split
    all_goals
      apply e
      clear e k
      rw [Bool.eq_iff_iff, note_iff]
      simp at *
      try omega
theorem has_is_note {P : Program} {w : World} {K : PySem.W.Frag} {mg : Str → Option Value} {base : Heap} (T : Txt K mg base) : Has P w K mg base "is_note" 1 ["letter", "raised", "octave"] (sp_is_note) :=
  has_of T.d_is_note fun f fd D => ok_is_note T D
def sp_is_key : Sp := fun vs H Q _ => ∃ k : Int, vs = [.int k] ∧ Q (.bl (Sw68.keyOk k)) H
theorem key_iff {k : Int} : Sw68.keyOk k = true ↔ (-7 ≤ k ∧ k ≤ 7) := by
  simp only [Sw68.keyOk, Bool.and_eq_true, decide_eq_true_eq]
  exact Iff.rfl
theorem ok_is_key {P : Program} {w : World} {K : PySem.W.Frag} {mg : Str → Option Value} {base : Heap} (T : Txt K mg base) {f : Addr} {fd : FuncData} (D : Def K mg "is_key" s_is_key ["in_key"] f fd) : FnOk P w K mg base CX0 1 f fd ["in_key"] (sp_is_key) := by
  refine D.F.ok sc_is_key (fun vs H Q E h => ?_) (fun cdv A outer s H vs Q E hr h => ⟨_, (pss_one (ps_ret (pe_chain op_le op_le (pe_un un_neg (pe_globI T.c_MOST_IN_KEY)) (pv 0) (pe_globI T.c_MOST_IN_KEY)))), ?_⟩)
  · obtain ⟨k, rfl, _⟩ := h
    rfl
  · obtain ⟨k, rfl, q⟩ := h
    have e : ∀ b, b = Sw68.keyOk k → Q (.bl b) H := fun b z => z ▸ q
    simp only [tSeq, tAsg, tIfS, tRet, tNext, tOp, tUn, tTest, tB, tNot, tAnd, tOr, tAndV, tOrV, tNotV, tChain, tVar, tC, tCons, tNil, tCall, tCB, tIf, tDrop, gName, tAug, ipI, rI, rI0, rU, CMul, CDiv, rEq, rNe, scal, tTab, tInTab, cxOf_K, L2.start, Nat.reduceAdd, Nat.reduceSub, Nat.sub_self, List.map_cons, List.map_nil, List.length_cons, List.length_nil, List.replicate, List.append_nil, List.cons_append, List.nil_append, List.set_cons_zero, List.set_cons_succ, List.getElem?_cons_zero, List.getElem?_cons_succ, Option.some.injEq, List.cons.injEq, V.int.injEq, V.bl.injEq, V.ref.injEq, and_true, true_and, exists_eq_left, and_assoc, exists_eq_left', exists_and_left, decide_eq_true_eq, Bool.true_eq_false, if_true, if_false]
    repeat' split
    all_goals
      apply e
      clear e q
      rw [Bool.eq_iff_iff, key_iff]
      simp at *
      try omega
theorem has_is_key {P : Program} {w : World} {K : PySem.W.Frag} {mg : Str → Option Value} {base : Heap} (T : Txt K mg base) : Has P w K mg base "is_key" 1 ["in_key"] (sp_is_key) :=
  has_of T.d_is_key fun f fd D => ok_is_key T D
def sp_sound_of : Sp := fun vs H Q _ => ∃ l r o : Int, vs = [.int l, .int r, .int o] ∧ (0 ≤ l ∧ l ≤ 6) ∧ Q (.int (12 * (o + 1) + Sw68.natural l + r)) H
theorem ok_sound_of {P : Program} {w : World} {K : PySem.W.Frag} {mg : Str → Option Value} {base : Heap} (T : Txt K mg base) {f : Addr} {fd : FuncData} (D : Def K mg "sound_of" s_sound_of ["letter", "raised", "octave"] f fd) : FnOk P w K mg base CX0 1 f fd ["letter", "raised", "octave"] (sp_sound_of) := by
  refine D.F.ok sc_sound_of (fun vs H Q E h => ?_) (fun cdv A outer s H vs Q E hr h => ⟨_, (pss_one (ps_ret (pe_op op_add (pe_op op_add (pe_op op_mul (pe_globI T.c_HALVES_IN_OCTAVE) (pe_op op_add (pv 2) pe_int)) (pe_tab T.c_HALVES_ABOVE_C (pv 0) (fun _ _ => rfl))) (pv 1)))), ?_⟩)
  · obtain ⟨l, r, o, rfl, _⟩ := h
    rfl
  · obtain ⟨l, r, o, rfl, hl, k⟩ := h
    simp only [tSeq, tAsg, tIfS, tRet, tNext, tOp, tUn, tTest, tB, tNot, tAnd, tOr, tAndV, tOrV, tNotV, tChain, tVar, tC, tCons, tNil, tCall, tCB, tIf, tDrop, gName, tAug, ipI, rI, rI0, rU, CMul, CDiv, rEq, rNe, scal, tTab, tInTab, cxOf_K, L2.start, Nat.reduceAdd, Nat.reduceSub, Nat.sub_self, List.map_cons, List.map_nil, List.length_cons, List.length_nil, List.replicate, List.append_nil, List.cons_append, List.nil_append, List.set_cons_zero, List.set_cons_succ, List.getElem?_cons_zero, List.getElem?_cons_succ, Option.some.injEq, List.cons.injEq, V.int.injEq, V.bl.injEq, V.ref.injEq, and_true, true_and, exists_eq_left, and_assoc, exists_eq_left', exists_and_left, decide_eq_true_eq, Bool.true_eq_false, if_true, if_false]
    exact ⟨.inl (by decide), hl.1, (by omega), k⟩
theorem has_sound_of {P : Program} {w : World} {K : PySem.W.Frag} {mg : Str → Option Value} {base : Heap} (T : Txt K mg base) : Has P w K mg base "sound_of" 1 ["letter", "raised", "octave"] (sp_sound_of) :=
  has_of T.d_sound_of fun f fd D => ok_sound_of T D
def sp_fifths_of : Sp := fun vs H Q _ => ∃ l r : Int, vs = [.int l, .int r] ∧ (0 ≤ l ∧ l ≤ 6) ∧ Q (.int (Sw68.fifths ⟨l, r, 0⟩)) H
theorem ok_fifths_of {P : Program} {w : World} {K : PySem.W.Frag} {mg : Str → Option Value} {base : Heap} (T : Txt K mg base) {f : Addr} {fd : FuncData} (D : Def K mg "fifths_of" s_fifths_of ["letter", "raised"] f fd) : FnOk P w K mg base CX0 1 f fd ["letter", "raised"] (sp_fifths_of) := by
  refine D.F.ok sc_fifths_of (fun vs H Q E h => ?_) (fun cdv A outer s H vs Q E hr h => ⟨_, (pss_one (ps_ret (pe_op op_add (pe_tab T.c_FIFTHS_OF_LETTERS (pv 0) (fun _ _ => rfl)) (pe_op op_mul (pe_globI T.c_FIFTHS_IN_RAISING) (pv 1))))), ?_⟩)
  · obtain ⟨l, r, rfl, _⟩ := h
    rfl
  · obtain ⟨l, r, rfl, hl, k⟩ := h
    simp only [tSeq, tAsg, tIfS, tRet, tNext, tOp, tUn, tTest, tB, tNot, tAnd, tOr, tAndV, tOrV, tNotV, tChain, tVar, tC, tCons, tNil, tCall, tCB, tIf, tDrop, gName, tAug, ipI, rI, rI0, rU, CMul, CDiv, rEq, rNe, scal, tTab, tInTab, cxOf_K, L2.start, Nat.reduceAdd, Nat.reduceSub, Nat.sub_self, List.map_cons, List.map_nil, List.length_cons, List.length_nil, List.replicate, List.append_nil, List.cons_append, List.nil_append, List.set_cons_zero, List.set_cons_succ, List.getElem?_cons_zero, List.getElem?_cons_succ, Option.some.injEq, List.cons.injEq, V.int.injEq, V.bl.injEq, V.ref.injEq, and_true, true_and, exists_eq_left, and_assoc, exists_eq_left', exists_and_left, decide_eq_true_eq, Bool.true_eq_false, if_true, if_false]
    exact ⟨hl.1, by omega, .inl (by decide), k⟩
theorem has_fifths_of {P : Program} {w : World} {K : PySem.W.Frag} {mg : Str → Option Value} {base : Heap} (T : Txt K mg base) : Has P w K mg base "fifths_of" 1 ["letter", "raised"] (sp_fifths_of) :=
  has_of T.d_fifths_of fun f fd D => ok_fifths_of T D
def sp_raised_by_key : Sp := fun vs H Q _ => ∃ k l : Int, vs = [.int k, .int l] ∧ (0 ≤ l ∧ l ≤ 6) ∧ Q (.int (Sw68.keyAlt k l)) H
theorem keyAlt_eq {k l : Int} (h : 0 ≤ l ∧ l ≤ 6) : Sw68.keyAlt k l = if ([0, 2, 4, -1, 1, 3, 5] : List Int).getD l.toNat 0 + 1 < k then 1 else if 7 + k ≤ ([0, 2, 4, -1, 1, 3, 5] : List Int).getD l.toNat 0 + 1 then -1 else 0 := by
  have e : ((Sw68.ORDER.idxOf l : Nat) : Int) = ([0, 2, 4, -1, 1, 3, 5] : List Int).getD l.toNat 0 + 1 := by
    have c : l = 0 ∨ l = 1 ∨ l = 2 ∨ l = 3 ∨ l = 4 ∨ l = 5 ∨ l = 6 := by omega
    rcases c with rfl | rfl | rfl | rfl | rfl | rfl | rfl <;> rfl
  unfold Sw68.keyAlt
  rw [← e]
theorem ok_raised_by_key {P : Program} {w : World} {K : PySem.W.Frag} {mg : Str → Option Value} {base : Heap} (T : Txt K mg base) {f : Addr} {fd : FuncData} (D : Def K mg "raised_by_key" s_raised_by_key ["in_key", "letter"] f fd) : FnOk P w K mg base CX0 1 f fd ["in_key", "letter"] (sp_raised_by_key) := by
  refine D.F.ok sc_raised_by_key (fun vs H Q E h => ?_) (fun cdv A outer s H vs Q E hr h => ⟨_, (pss_cons (ps_set (i := 2) sc_raised_by_key.nd rfl (Or.inl rfl) (pe_op op_add (pe_tab T.c_FIFTHS_OF_LETTERS (pv 1) (fun _ _ => rfl)) pe_int))
      (pss_cons (ps_if (pt_cmpR op_lt (pv 2) (pv 0) (nomark _)) (pss_one (ps_ret pe_int)) pss_nil)
      (pss_cons (ps_if (pt_cmpR op_ge (pv 2) (pe_op op_add (pe_globI T.c_LETTERS) (pv 0)) (nomark _)) (pss_one (ps_ret (pe_un un_neg pe_int))) pss_nil)
      (pss_one (ps_ret pe_int))))), ?_⟩)
  · obtain ⟨k, l, rfl, _⟩ := h
    rfl
  · obtain ⟨k, l, rfl, hl, q⟩ := h
    rw [keyAlt_eq hl] at q
    simp only [tSeq, tAsg, tIfS, tRet, tNext, tOp, tUn, tTest, tB, tNot, tAnd, tOr, tAndV, tOrV, tNotV, tChain, tVar, tC, tCons, tNil, tCall, tCB, tIf, tDrop, gName, tAug, ipI, rI, rI0, rU, CMul, CDiv, rEq, rNe, scal, tTab, tInTab, cxOf_K, L2.start, Nat.reduceAdd, Nat.reduceSub, Nat.sub_self, List.map_cons, List.map_nil, List.length_cons, List.length_nil, List.replicate, List.append_nil, List.cons_append, List.nil_append, List.set_cons_zero, List.set_cons_succ, List.getElem?_cons_zero, List.getElem?_cons_succ, Option.some.injEq, List.cons.injEq, V.int.injEq, V.bl.injEq, V.ref.injEq, and_true, true_and, exists_eq_left, and_assoc, exists_eq_left', exists_and_left, decide_eq_true_eq, Bool.true_eq_false, if_true, if_false]
    refine ⟨hl.1, by omega, ?_⟩
    generalize ([0, 2, 4, -1, 1, 3, 5] : List Int).getD l.toNat 0 + 1 = p at q ⊢
    by_cases c : p < k
    · rw [if_pos c] at q ⊢
      exact q
    · rw [if_neg c] at q ⊢
      by_cases c2 : 7 + k ≤ p
      · rw [if_pos c2] at q
        rw [if_pos c2]
        exact q
      · rw [if_neg c2] at q
        rw [if_neg c2]
        exact q
theorem has_raised_by_key {P : Program} {w : World} {K : PySem.W.Frag} {mg : Str → Option Value} {base : Heap} (T : Txt K mg base) : Has P w K mg base "raised_by_key" 1 ["in_key", "letter"] (sp_raised_by_key) :=
  has_of T.d_raised_by_key fun f fd D => ok_raised_by_key T D
/-! the parse -/
theorem many_in {A : Type} {p : List Int → Option (A × List Int)} {e : A → List Int} {ok : A → Prop} (hp : ∀ l x r, p l = some (x, r) → l = e x ++ r ∧ ok x) :
    ∀ (k : Nat) (l : List Int) (xs : List A) (r : List Int), Sw68Neutral.many_ p k l = some (xs, r) → l = xs.flatMap e ++ r ∧ xs.length = k ∧ ∀ x ∈ xs, ok x
  | 0, l, xs, r, h => by
    unfold Sw68Neutral.many_ at h
    injection h with h
    injection h with h1 h2
    subst h1 h2
    exact ⟨rfl, rfl, fun x hx => nomatch hx⟩
  | k + 1, l, xs, r, h => by
    unfold Sw68Neutral.many_ at h
    cases e1 : p l with
    | none => rw [e1] at h; cases h
    | some x =>
      rw [e1] at h
      obtain ⟨x, l1⟩ := x
      obtain ⟨e1, o1⟩ := hp l x l1 e1
      change Option.map _ (Sw68Neutral.many_ p k l1) = _ at h
      cases e2 : Sw68Neutral.many_ p k l1 with
      | none => rw [e2] at h; cases h
      | some y =>
        rw [e2] at h
        obtain ⟨ys, r'⟩ := y
        injection h with h
        injection h with h1 h2
        have h1' : x :: ys = xs := h1
        have h2' : r' = r := h2
        subst h1' h2'
        obtain ⟨e3, e4, e5⟩ := many_in hp k l1 ys r' e2
        refine ⟨?_, by rw [List.length_cons, e4], fun z hz => ?_⟩
        · rw [e1, e3, List.flatMap_cons, List.append_assoc]
        · rcases List.mem_cons.mp hz with rfl | hz
          · exact o1
          · exact e5 z hz
/-- a list behind how many it has -/
def encL {A : Type} (e : A → List Int) (xs : List A) : List Int := (xs.length : Int) :: xs.flatMap e
theorem list_in {A : Type} {p : List Int → Option (A × List Int)} {e : A → List Int} {ok : A → Prop} (hp : ∀ l x r, p l = some (x, r) → l = e x ++ r ∧ ok x)
    (l : List Int) (xs : List A) (r : List Int) (h : Sw68Neutral.listIn p l = some (xs, r)) : l = encL e xs ++ r ∧ (xs.length ≤ 60 ∧ ∀ x ∈ xs, ok x) := by
  unfold Sw68Neutral.listIn at h
  cases l with
  | nil => cases h
  | cons n l =>
    by_cases c : 0 ≤ n ∧ n ≤ 60
    · have h' : (if 0 ≤ n ∧ n ≤ 60 then Sw68Neutral.many_ p n.toNat l else none) = some (xs, r) := h
      rw [if_pos c] at h'
      obtain ⟨h1, h2, h3⟩ := many_in hp _ _ _ _ h'
      refine ⟨?_, by omega, h3⟩
      unfold encL
      rw [List.cons_append, ← h1, h2, Int.toNat_of_nonneg c.1]
    · have h' : (if 0 ≤ n ∧ n ≤ 60 then Sw68Neutral.many_ p n.toNat l else none) = some (xs, r) := h
      rw [if_neg c] at h'
      cases h'
theorem int_in_inv {l : List Int} {z : Int} {r : List Int} (h : Sw68Neutral.intIn l = some (z, r)) : l = z :: r ∧ (-2147483648 ≤ z ∧ z ≤ 2147483647) := by
  unfold Sw68Neutral.intIn at h
  cases l with
  | nil => cases h
  | cons n l =>
    have h' : (if -(2 ^ 31) ≤ n ∧ n < 2 ^ 31 then some (n, l) else none) = some (z, r) := h
    by_cases c : -(2 ^ 31 : Int) ≤ n ∧ n < 2 ^ 31
    · rw [if_pos c] at h'
      injection h' with h'
      injection h' with h1 h2
      subst h1 h2
      exact ⟨rfl, by omega⟩
    · rw [if_neg c] at h'
      cases h'
abbrev outN (n : Sw68.Note) : List Int := [n.letter, n.alt, n.octave]
theorem note_in_inv (l : List Int) (x : Sw68.Note) (r : List Int) (h : Sw68Neutral.noteIn l = some (x, r)) : l = outN x ++ r ∧ True := by
  unfold Sw68Neutral.noteIn at h
  cases e1 : Sw68Neutral.intIn l with
  | none => rw [e1] at h; cases h
  | some a =>
    rw [e1] at h
    obtain ⟨a, l1⟩ := a
    change Option.bind (Sw68Neutral.intIn l1) _ = _ at h
    cases e2 : Sw68Neutral.intIn l1 with
    | none => rw [e2] at h; cases h
    | some b =>
      rw [e2] at h
      obtain ⟨b, l2⟩ := b
      change Option.map _ (Sw68Neutral.intIn l2) = _ at h
      cases e3 : Sw68Neutral.intIn l2 with
      | none => rw [e3] at h; cases h
      | some c =>
        rw [e3] at h
        obtain ⟨c, l3⟩ := c
        injection h with h
        injection h with h1 h2
        have h1' : (⟨a, b, c⟩ : Sw68.Note) = x := h1
        have h2' : l3 = r := h2
        subst h1' h2'
        obtain ⟨rfl, _⟩ := int_in_inv e1
        obtain ⟨rfl, _⟩ := int_in_inv e2
        obtain ⟨rfl, _⟩ := int_in_inv e3
        exact ⟨rfl, trivial⟩
/-- the numbers of bars of notes -/
abbrev encB (bs : List (List Sw68.Note)) : List Int := encL (encL outN) bs
theorem all_inv {A : Type} {x : Option (A × List Int)} {a : A} (h : Sw68Neutral.all_ x = some a) : x = some (a, []) := by
  unfold Sw68Neutral.all_ at h
  cases x with
  | none => cases h
  | some y =>
    obtain ⟨y, l⟩ := y
    cases l with
    | nil =>
      injection h with h
      have h' : y = a := h
      rw [h']
    | cons z l => cases h
theorem asked_call {c : List Int} (h : Sw68Neutral.asked [c] = true) : ∃ x, Sw68Neutral.callOf c = some x := by
  unfold Sw68Neutral.asked at h
  rw [Bool.and_eq_true] at h
  have h1 := h.1
  rw [List.all_cons, Bool.and_eq_true] at h1
  exact Option.isSome_iff_exists.mp h1.1
/-! ### spell: what it is asked, what it answers -/
theorem cost_in_inv {l : List Int} {z : Nat} {r : List Int} (h : Sw68Neutral.costIn l = some (z, r)) : l = (z : Int) :: r ∧ (z : Int) < 2147483648 := by
  unfold Sw68Neutral.costIn at h
  cases l with
  | nil => cases h
  | cons n l =>
    have h' : (if 0 ≤ n ∧ n < 2 ^ 31 then some (n.toNat, l) else none) = some (z, r) := h
    by_cases c : 0 ≤ n ∧ n < 2 ^ 31
    · rw [if_pos c] at h'
      injection h' with h'
      injection h' with h1 h2
      subst h1 h2
      exact ⟨by rw [Int.toNat_of_nonneg c.1], by omega⟩
    · rw [if_neg c] at h'
      cases h'
theorem ints_in_inv (l : List Int) (x : Int) (r : List Int) (h : Sw68Neutral.intIn l = some (x, r)) : l = [x] ++ r ∧ True := ⟨(int_in_inv h).1, trivial⟩
theorem flat_one (xs : List Int) : xs.flatMap (fun x => [x]) = xs := by
  induction xs with
  | nil => rfl
  | cons x l ih => rw [List.flatMap_cons, ih]; rfl
theorem spell_inv {s a f m k : Int} {ns : List Int} (q : PySw68.spell_asked s a f m k ns = true) :
    ∃ s' a' f' m' : Nat, s = s' ∧ a = a' ∧ f = f' ∧ m = m' ∧ s < 2147483648 ∧ a < 2147483648 ∧ f < 2147483648 ∧ m < 2147483648 ∧ ns.length ≤ 60 ∧ PySw68.spell s a f m k ns = Sw68Neutral.out (Sw68.step (.spell ⟨s', a', f', m'⟩ k ns)) := by
  obtain ⟨x, hx⟩ := asked_call q
  have hx' : Sw68Neutral.callOf (5 :: s :: a :: f :: m :: k :: (ns.length : Int) :: ns) = some x := hx
  have e : Sw68Neutral.all_ ((Sw68Neutral.costsIn (s :: a :: f :: m :: k :: (ns.length : Int) :: ns)).bind fun c => (Sw68Neutral.intIn c.2).bind fun k => (Sw68Neutral.listIn Sw68Neutral.intIn k.2).map fun y => (Sw68.Call.spell c.1 k.1 y.1, y.2)) = some x := hx'
  have e := all_inv e
  unfold Sw68Neutral.costsIn at e
  cases e1 : Sw68Neutral.costIn (s :: a :: f :: m :: k :: (ns.length : Int) :: ns) with
  | none => rw [e1] at e; cases e
  | some c1 =>
    rw [e1] at e
    obtain ⟨s', l1⟩ := c1
    obtain ⟨z, b1⟩ := cost_in_inv e1
    injection z with y1 z2
    subst z2
    change Option.bind (Option.bind (Sw68Neutral.costIn (a :: f :: m :: k :: (ns.length : Int) :: ns)) _) _ = _ at e
    cases e2 : Sw68Neutral.costIn (a :: f :: m :: k :: (ns.length : Int) :: ns) with
    | none => rw [e2] at e; cases e
    | some c2 =>
      rw [e2] at e
      obtain ⟨a', l1⟩ := c2
      obtain ⟨z, b2⟩ := cost_in_inv e2
      injection z with y2 z2
      subst z2
      change Option.bind (Option.bind (Sw68Neutral.costIn (f :: m :: k :: (ns.length : Int) :: ns)) _) _ = _ at e
      cases e3 : Sw68Neutral.costIn (f :: m :: k :: (ns.length : Int) :: ns) with
      | none => rw [e3] at e; cases e
      | some c3 =>
        rw [e3] at e
        obtain ⟨f', l1⟩ := c3
        obtain ⟨z, b3⟩ := cost_in_inv e3
        injection z with y3 z2
        subst z2
        change Option.bind (Option.map _ (Sw68Neutral.costIn (m :: k :: (ns.length : Int) :: ns))) _ = _ at e
        cases e4 : Sw68Neutral.costIn (m :: k :: (ns.length : Int) :: ns) with
        | none => rw [e4] at e; cases e
        | some c4 =>
          rw [e4] at e
          obtain ⟨m', l1⟩ := c4
          obtain ⟨z, b4⟩ := cost_in_inv e4
          injection z with y4 z2
          subst z2
          change Option.bind (Sw68Neutral.intIn (k :: (ns.length : Int) :: ns)) _ = _ at e
          cases e5 : Sw68Neutral.intIn (k :: (ns.length : Int) :: ns) with
          | none => rw [e5] at e; cases e
          | some c5 =>
            rw [e5] at e
            obtain ⟨c5, l1⟩ := c5
            obtain ⟨z, _⟩ := int_in_inv e5
            injection z with z1 z2
            subst z1 z2
            change Option.map _ (Sw68Neutral.listIn Sw68Neutral.intIn ((ns.length : Int) :: ns)) = _ at e
            cases e6 : Sw68Neutral.listIn Sw68Neutral.intIn ((ns.length : Int) :: ns) with
            | none => rw [e6] at e; cases e
            | some y =>
              rw [e6] at e
              obtain ⟨xs, r⟩ := y
              injection e with e
              injection e with e7 e8
              have e7' : Sw68.Call.spell ⟨s', a', f', m'⟩ k xs = x := e7
              have e8' : r = [] := e8
              subst e7' e8'
              obtain ⟨z1, z2, _⟩ := list_in ints_in_inv _ _ _ e6
              rw [List.append_nil] at z1
              injection z1 with z3 z4
              have z5 : ns = xs := z4.trans (flat_one xs)
              subst z5
              refine ⟨s', a', f', m', y1, y2, y3, y4, by omega, by omega, by omega, by omega, z2, ?_⟩
              show Sw68Neutral.f (5 :: s :: a :: f :: m :: k :: (ns.length : Int) :: ns) = _
              unfold Sw68Neutral.f
              rw [hx']
/-- the spellings by their steps -/
def byStep (n : Int) : List Sw68.Note := ((List.range 77).map fun (s : Nat) => Sw68.spelled ((s : Int) - 7) n).filter Sw68.noteOk
theorem choices_all : ∀ n : Fin 128, Sw68.choices (n.val : Int) = byStep (n.val : Int) := by decide +kernel
theorem choices_eq {n : Int} (h0 : 0 ≤ n) (h1 : n ≤ 127) : Sw68.choices n = byStep n := by
  have z := choices_all ⟨n.toNat, by omega⟩
  have e : ((n.toNat : Nat) : Int) = n := Int.toNat_of_nonneg h0
  simp only [e] at z
  exact z
theorem choices_some : ∀ n : Fin 128, (Sw68.choices (n.val : Int)).length ≠ 0 ∧ (Sw68.choices (n.val : Int)).length ≤ 7 ∧ (Sw68.choices (n.val : Int)).all Sw68.noteOk = true := by decide +kernel
/-! ### the cheapest: rows by their first notes, from the end on -/
abbrev Row := Nat × List Sw68.Note
theorem fold_some (b : Row) : ∀ ys : List Row, ∃ z, (ys.map some).foldl Sw68.cheaper (some b) = some z
  | [] => ⟨b, rfl⟩
  | y :: ys => by
    rw [List.map_cons, List.foldl_cons]
    show ∃ z, (ys.map some).foldl Sw68.cheaper (if y.1 < b.1 then some y else some b) = some z
    split
    · exact fold_some y ys
    · exact fold_some b ys
/-- the cheapest of some, the first of equal ones -/
def cheapest (ys : List Row) : Row := ((ys.map some).foldl Sw68.cheaper none).getD (0, [])
theorem cheapest_eq {ys : List Row} (h : ys ≠ []) : (ys.map some).foldl Sw68.cheaper none = some (cheapest ys) := by
  cases ys with
  | nil => exact absurd rfl h
  | cons y ys =>
    obtain ⟨z, e⟩ := fold_some y ys
    have e' : ((y :: ys).map some).foldl Sw68.cheaper none = some z := e
    unfold cheapest
    rw [e']
    rfl
theorem cheapest_one (y : Row) : cheapest [y] = y := rfl
theorem cheapest_snoc {ys : List Row} (h : ys ≠ []) (y : Row) : cheapest (ys ++ [y]) = if y.1 < (cheapest ys).1 then y else cheapest ys := by
  have e : ((ys ++ [y]).map some).foldl Sw68.cheaper none = Sw68.cheaper (some (cheapest ys)) (some y) := by
    rw [List.map_append, List.foldl_append, cheapest_eq h]
    rfl
  unfold cheapest at e ⊢
  rw [e]
  show (if y.1 < _ then some y else some _).getD (0, []) = _
  split <;> rfl
/-- one of them, none cheaper, those ahead of it dearer -/
theorem cheapest_at : ∀ (ys : List Row), ys ≠ [] → ∃ i : Nat, ys[i]? = some (cheapest ys) ∧ (∀ (j : Nat) (y : Row), ys[j]? = some y → (cheapest ys).1 ≤ y.1) ∧ ∀ (j : Nat) (y : Row), j < i → ys[j]? = some y → (cheapest ys).1 < y.1 := by
  intro ys
  have rev : ∀ zs : List Row, zs ≠ [] → ∃ i : Nat, zs.reverse[i]? = some (cheapest zs.reverse) ∧ (∀ (j : Nat) (y : Row), zs.reverse[j]? = some y → (cheapest zs.reverse).1 ≤ y.1) ∧ ∀ (j : Nat) (y : Row), j < i → zs.reverse[j]? = some y → (cheapest zs.reverse).1 < y.1 := by
    intro zs
    induction zs with
    | nil => intro h; exact absurd rfl h
    | cons z zs ih =>
      intro _
      rw [List.reverse_cons]
      by_cases c : zs = []
      · subst c
        refine ⟨0, rfl, fun j y h => ?_, fun j y h => absurd h (Nat.not_lt_zero _)⟩
        cases j with
        | zero =>
          injection h with h
          subst h
          exact Nat.le_refl _
        | succ j => cases h
      · obtain ⟨i, h1, h2, h3⟩ := ih c
        have ne : zs.reverse ≠ [] := by simpa using c
        rw [cheapest_snoc ne]
        have hi : i < zs.reverse.length := (List.getElem?_eq_some_iff.mp h1).1
        have last : ∀ (j : Nat) (y : Row), (zs.reverse ++ [z])[j]? = some y → (j < zs.reverse.length ∧ zs.reverse[j]? = some y) ∨ (j = zs.reverse.length ∧ y = z) := by
          intro j y h
          by_cases cj : j < zs.reverse.length
          · rw [List.getElem?_append_left cj] at h
            exact .inl ⟨cj, h⟩
          · rw [List.getElem?_append_right (by omega)] at h
            have : j - zs.reverse.length = 0 := by
              have := (List.getElem?_eq_some_iff.mp h).1
              rw [List.length_singleton] at this
              omega
            rw [this] at h
            injection h with h
            exact .inr ⟨by omega, h.symm⟩
        by_cases lt : z.1 < (cheapest zs.reverse).1
        · rw [if_pos lt]
          refine ⟨zs.reverse.length, ?_, fun j y h => ?_, fun j y hj h => ?_⟩
          · rw [List.getElem?_append_right (Nat.le_refl _), Nat.sub_self]
            rfl
          · rcases last j y h with ⟨_, h⟩ | ⟨_, rfl⟩
            · have := h2 j y h
              omega
            · exact Nat.le_refl _
          · rcases last j y h with ⟨_, h⟩ | ⟨e, _⟩
            · have := h2 j y h
              omega
            · omega
        · rw [if_neg lt]
          refine ⟨i, ?_, fun j y h => ?_, fun j y hj h => ?_⟩
          · rw [List.getElem?_append_left hi]
            exact h1
          · rcases last j y h with ⟨_, h⟩ | ⟨_, rfl⟩
            · exact h2 j y h
            · omega
          · rcases last j y h with ⟨_, h⟩ | ⟨e, _⟩
            · exact h3 j y hj h
            · omega
  intro h
  have z := rev ys.reverse (by simpa using h)
  rw [List.reverse_reverse] at z
  exact z
/-- the rows behind a first note: each with what it costs -/
def heads (c : Sw68.Costs) (k : Int) (x : Sw68.Note) (r : List (Sw68.Note × Row)) : List Row := r.map fun y => (Sw68.own c k x + Sw68.pair c x y.1 + y.2.1, x :: y.2.2)
theorem tails_cons {c : Sw68.Costs} {k n m : Int} {l : List Int} (h : Sw68.tails c k (m :: l) ≠ []) :
    Sw68.tails c k (n :: m :: l) = (Sw68.choices n).map fun x => (x, cheapest (heads c k x (Sw68.tails c k (m :: l)))) := by
  show (Sw68.choices n).filterMap (fun x => (((Sw68.tails c k (m :: l)).map fun y => some (Sw68.own c k x + Sw68.pair c x y.1 + y.2.1, x :: y.2.2)).foldl Sw68.cheaper none).map fun z => (x, z)) = _
  have e : ∀ x, (((Sw68.tails c k (m :: l)).map fun y => some (Sw68.own c k x + Sw68.pair c x y.1 + y.2.1, x :: y.2.2)).foldl Sw68.cheaper none).map (fun z => (x, z)) = some (x, cheapest (heads c k x (Sw68.tails c k (m :: l)))) := by
    intro x
    have ne : heads c k x (Sw68.tails c k (m :: l)) ≠ [] := by
      unfold heads
      simpa using h
    have z := cheapest_eq ne
    unfold heads at z ⊢
    rw [List.map_map] at z
    change ((Sw68.tails c k (m :: l)).map fun y => some (Sw68.own c k x + Sw68.pair c x y.1 + y.2.1, x :: y.2.2)).foldl Sw68.cheaper none = _ at z
    rw [z]
    rfl
  rw [show (fun x => (((Sw68.tails c k (m :: l)).map fun y => some (Sw68.own c k x + Sw68.pair c x y.1 + y.2.1, x :: y.2.2)).foldl Sw68.cheaper none).map fun z => (x, z)) = fun x => some (x, cheapest (heads c k x (Sw68.tails c k (m :: l)))) from funext e]
  exact List.filterMap_eq_map ▸ rfl
theorem choices_ne {n : Int} (h0 : 0 ≤ n) (h1 : n ≤ 127) : Sw68.choices n ≠ [] := by
  have z := (choices_some ⟨n.toNat, by omega⟩).1
  have e : ((n.toNat : Nat) : Int) = n := Int.toNat_of_nonneg h0
  simp only [e] at z
  intro q
  rw [q] at z
  exact z rfl
theorem choices_few {n : Int} (h0 : 0 ≤ n) (h1 : n ≤ 127) : (Sw68.choices n).length ≤ 7 := by
  have z := (choices_some ⟨n.toNat, by omega⟩).2.1
  have e : ((n.toNat : Nat) : Int) = n := Int.toNat_of_nonneg h0
  simp only [e] at z
  exact z
theorem tails_ne {c : Sw68.Costs} {k : Int} : ∀ {n : Int} {l : List Int}, (∀ x ∈ n :: l, 0 ≤ x ∧ x ≤ 127) → Sw68.tails c k (n :: l) ≠ [] ∧ (Sw68.tails c k (n :: l)).map (·.1) = Sw68.choices n
  | n, [], h => by
    have b := h n (List.mem_cons_self ..)
    have ne := choices_ne b.1 b.2
    have e : Sw68.tails c k [n] = (Sw68.choices n).map fun x => (x, (Sw68.own c k x, [x])) := rfl
    rw [e]
    refine ⟨by simpa using ne, ?_⟩
    rw [List.map_map]
    exact List.map_id' _
  | n, m :: l, h => by
    have b := h n (List.mem_cons_self ..)
    have ne := choices_ne b.1 b.2
    have ih := tails_ne (c := c) (k := k) (n := m) (l := l) fun x hx => h x (List.mem_cons_of_mem _ hx)
    rw [tails_cons ih.1]
    refine ⟨by simpa using ne, ?_⟩
    rw [List.map_map]
    exact List.map_id' _
def ansS (c : Sw68.Costs) (k : Int) (l : List Int) : List Int := Sw68Neutral.out (Sw68.step (.spell c k l))
def soundsOk (l : List Int) : Bool := l.all fun n => decide (0 ≤ n) && decide (n ≤ 127)
theorem ansS_no {c : Sw68.Costs} {k : Int} {l : List Int} (h : (Sw68.keyOk k && (decide (l.length ≤ Sw68.LONG) && soundsOk l)) = false) : ansS c k l = [-1] := by
  unfold soundsOk at h
  unfold ansS Sw68.step
  simp only [h, if_true]
  rfl
theorem ansS_nil {c : Sw68.Costs} {k : Int} (h1 : Sw68.keyOk k = true) : ansS c k [] = [0] := by
  unfold ansS Sw68.step
  simp only [h1, Bool.true_and]
  rfl
theorem ansS_ok {c : Sw68.Costs} {k n : Int} {l : List Int} (h1 : Sw68.keyOk k = true) (h2 : (n :: l).length ≤ 40) (h3 : soundsOk (n :: l) = true) :
    ansS c k (n :: l) = ((cheapest ((Sw68.tails c k (n :: l)).map (·.2))).1 : Int) :: (cheapest ((Sw68.tails c k (n :: l)).map (·.2))).2.flatMap fun x => 3 :: outN x := by
  have hb : ∀ x ∈ n :: l, 0 ≤ x ∧ x ≤ 127 := by
    intro x hx
    have := List.all_eq_true.mp h3 x hx
    rw [Bool.and_eq_true, decide_eq_true_eq, decide_eq_true_eq] at this
    exact this
  have ne := (tails_ne (c := c) (k := k) hb).1
  have ne2 : (Sw68.tails c k (n :: l)).map (·.2) ≠ [] := by simpa using ne
  have z := cheapest_eq ne2
  rw [List.map_map] at z
  have e : Sw68.spell c k (n :: l) = some (cheapest ((Sw68.tails c k (n :: l)).map (·.2))) := by
    unfold Sw68.spell
    rw [if_neg (by simp)]
    exact z
  unfold soundsOk at h3
  have d : decide ((n :: l).length ≤ Sw68.LONG) = true := decide_eq_true h2
  unfold ansS Sw68.step
  simp only [h1, h3, d, Bool.and_self, Bool.true_eq_false, if_false, e]
  show _ :: _ = _
  congr 1
  rw [List.flatMap_map]
  rfl
/-! ### the rows that are kept, from the last number back -/
/-- the best of a first and more -/
def bestF (b : Row) (ys : List Row) : Row := ys.foldl (fun b y => if y.1 < b.1 then y else b) b
theorem bestF_eq : ∀ (ys : List Row) (b : Row), (ys.map some).foldl Sw68.cheaper (some b) = some (bestF b ys)
  | [], _ => rfl
  | y :: ys, b => by
    rw [List.map_cons, List.foldl_cons]
    show (ys.map some).foldl Sw68.cheaper (if y.1 < b.1 then some y else some b) = some (bestF (if y.1 < b.1 then y else b) ys)
    split
    · exact bestF_eq ys y
    · exact bestF_eq ys b
theorem cheapest_cons (y : Row) (ys : List Row) : cheapest (y :: ys) = bestF y ys := by
  have e : ((y :: ys).map some).foldl Sw68.cheaper none = some (bestF y ys) := bestF_eq ys y
  unfold cheapest
  rw [e]
  rfl
def addR (a : Nat) (r : Row) : Row := (r.1 + a, r.2)
theorem bestF_add (a : Nat) : ∀ (ys : List Row) (b : Row), bestF (addR a b) (ys.map (addR a)) = addR a (bestF b ys)
  | [], _ => rfl
  | y :: ys, b => by
    rw [List.map_cons]
    show bestF (if (addR a y).1 < (addR a b).1 then addR a y else addR a b) (ys.map (addR a)) = addR a (bestF (if y.1 < b.1 then y else b) ys)
    have e : ((addR a y).1 < (addR a b).1) ↔ y.1 < b.1 := by
      unfold addR
      simp
    by_cases h : y.1 < b.1
    · rw [if_pos h, if_pos (e.mpr h)]
      exact bestF_add a ys y
    · rw [if_neg h, if_neg (fun z => h (e.mp z))]
      exact bestF_add a ys b
theorem cheapest_add (a : Nat) {ys : List Row} (h : ys ≠ []) : cheapest (ys.map (addR a)) = addR a (cheapest ys) := by
  cases ys with
  | nil => exact absurd rfl h
  | cons y ys =>
    rw [List.map_cons, cheapest_cons, cheapest_cons]
    exact bestF_add a ys y
theorem cheapest_mem {ys : List Row} (h : ys ≠ []) : cheapest ys ∈ ys := by
  obtain ⟨i, e, _⟩ := cheapest_at ys h
  exact List.mem_of_getElem? e
/-- a note put ahead of a row -/
def preC (c : Sw68.Costs) (x : Sw68.Note) : List Sw68.Note → Nat
  | [] => 0
  | y :: _ => Sw68.pair c x y
def pre (c : Sw68.Costs) (x : Sw68.Note) (row : Row) : Row := (row.1 + preC c x row.2, x :: row.2)
def stepR (c : Sw68.Costs) (k : Int) (rows : List Row) (x : Sw68.Note) : Row := addR (Sw68.own c k x) (cheapest (rows.map (pre c x)))
def rowsOf (c : Sw68.Costs) (k : Int) : List Int → List Row
  | [] => [(0, [])]
  | n :: l => (Sw68.choices n).map (stepR c k (rowsOf c k l))
theorem choices_ok {n : Int} (h0 : 0 ≤ n) (h1 : n ≤ 127) : (Sw68.choices n).all Sw68.noteOk = true := by
  have z := (choices_some ⟨n.toNat, by omega⟩).2.2
  have e : ((n.toNat : Nat) : Int) = n := Int.toNat_of_nonneg h0
  simp only [e] at z
  exact z
theorem rows_tails {c : Sw68.Costs} {k : Int} : ∀ {n : Int} {l : List Int}, (∀ x ∈ n :: l, 0 ≤ x ∧ x ≤ 127) → rowsOf c k (n :: l) = (Sw68.tails c k (n :: l)).map (·.2) ∧ ∀ e ∈ Sw68.tails c k (n :: l), ∃ t, e.2.2 = e.1 :: t
  | n, [], _ => by
    have e : Sw68.tails c k [n] = (Sw68.choices n).map fun x => (x, (Sw68.own c k x, [x])) := rfl
    rw [e]
    constructor
    · rw [List.map_map]
      show (Sw68.choices n).map (stepR c k [(0, [])]) = _
      congr 1
      funext x
      show (0 + 0 + Sw68.own c k x, [x]) = (Sw68.own c k x, [x])
      rw [Nat.zero_add]
    · intro z hz
      obtain ⟨x, _, rfl⟩ := List.mem_map.mp hz
      exact ⟨[], rfl⟩
  | n, m :: l, h => by
    have hb : ∀ x ∈ m :: l, 0 ≤ x ∧ x ≤ 127 := fun x hx => h x (List.mem_cons_of_mem _ hx)
    obtain ⟨ih1, ih2⟩ := rows_tails (c := c) (k := k) hb
    have ne := (tails_ne (c := c) (k := k) hb).1
    have hd : ∀ x, heads c k x (Sw68.tails c k (m :: l)) = ((rowsOf c k (m :: l)).map (pre c x)).map (addR (Sw68.own c k x)) := by
      intro x
      rw [ih1, List.map_map, List.map_map]
      unfold heads
      refine List.map_congr_left fun e he => ?_
      obtain ⟨t, et⟩ := ih2 e he
      show (Sw68.own c k x + Sw68.pair c x e.1 + e.2.1, x :: e.2.2) = (e.2.1 + preC c x e.2.2 + Sw68.own c k x, x :: e.2.2)
      rw [et]
      show (Sw68.own c k x + Sw68.pair c x e.1 + e.2.1, _) = (e.2.1 + Sw68.pair c x e.1 + Sw68.own c k x, _)
      congr 1
      omega
    have ne2 : ∀ x, (rowsOf c k (m :: l)).map (pre c x) ≠ [] := by
      intro x
      rw [ih1]
      simpa using ne
    rw [tails_cons ne]
    constructor
    · rw [List.map_map]
      show (Sw68.choices n).map (stepR c k (rowsOf c k (m :: l))) = _
      congr 1
      funext x
      show addR (Sw68.own c k x) (cheapest ((rowsOf c k (m :: l)).map (pre c x))) = cheapest (heads c k x (Sw68.tails c k (m :: l)))
      rw [hd, cheapest_add _ (ne2 x)]
    · intro z hz
      obtain ⟨x, _, rfl⟩ := List.mem_map.mp hz
      have hm := cheapest_mem (ys := heads c k x (Sw68.tails c k (m :: l))) (by rw [hd]; simpa using ne2 x)
      generalize cheapest (heads c k x (Sw68.tails c k (m :: l))) = r at hm
      obtain ⟨e, _, rfl⟩ := List.mem_map.mp hm
      exact ⟨e.2.2, rfl⟩
theorem rows_ok {c : Sw68.Costs} {k : Int} : ∀ {l : List Int}, (∀ x ∈ l, 0 ≤ x ∧ x ≤ 127) → rowsOf c k l ≠ [] ∧ (rowsOf c k l).length ≤ 7 ∧ ∀ row ∈ rowsOf c k l, row.2.length = l.length ∧ ∀ y ∈ row.2, Sw68.noteOk y = true
  | [], _ => ⟨by simp [rowsOf], by simp [rowsOf], fun row hr => by
      have e : row = (0, []) := by simpa [rowsOf] using hr
      rw [e]
      exact ⟨rfl, fun y hy => nomatch hy⟩⟩
  | n :: l, h => by
    have b := h n (List.mem_cons_self ..)
    obtain ⟨i1, i2, i3⟩ := rows_ok (c := c) (k := k) (l := l) fun x hx => h x (List.mem_cons_of_mem _ hx)
    refine ⟨?_, ?_, ?_⟩
    · have := choices_ne b.1 b.2
      show (Sw68.choices n).map _ ≠ []
      simpa using this
    · show ((Sw68.choices n).map _).length ≤ 7
      rw [List.length_map]
      exact choices_few b.1 b.2
    · intro row hr
      obtain ⟨x, hx, rfl⟩ := List.mem_map.mp hr
      have ox := List.all_eq_true.mp (choices_ok b.1 b.2) x hx
      have hm := cheapest_mem (ys := (rowsOf c k l).map (pre c x)) (by simpa using i1)
      obtain ⟨r0, h0, e0⟩ := List.mem_map.mp hm
      obtain ⟨j1, j2⟩ := i3 r0 h0
      show (cheapest ((rowsOf c k l).map (pre c x))).2.length = _ ∧ ∀ y ∈ (cheapest ((rowsOf c k l).map (pre c x))).2, _
      rw [← e0]
      refine ⟨?_, fun y hy => ?_⟩
      · show (x :: r0.2).length = _
        rw [List.length_cons, j1, List.length_cons]
      · rcases List.mem_cons.mp hy with rfl | hy
        · exact ox
        · exact j2 y hy
/-- the answer, told by the rows -/
theorem ansS_rows {c : Sw68.Costs} {k : Int} {l : List Int} (h1 : Sw68.keyOk k = true) (h2 : l.length ≤ 40) (h3 : soundsOk l = true) :
    ansS c k l = ((cheapest (rowsOf c k l)).1 : Int) :: (cheapest (rowsOf c k l)).2.flatMap fun x => 3 :: outN x := by
  cases l with
  | nil => exact ansS_nil h1
  | cons n l =>
    rw [ansS_ok h1 h2 h3, (rows_tails (c := c) (k := k) (n := n) (l := l) fun x hx => ?_).1]
    have := List.all_eq_true.mp h3 x hx
    rw [Bool.and_eq_true, decide_eq_true_eq, decide_eq_true_eq] at this
    exact this
def sp_are_sounds (K : PySem.W.Frag) : Sp := fun vs H Q _ => ∃ (a : Addr) (ns : List Int), vs = [.ref a] ∧ SqL K H a (ns.map V.int) ∧ Q (.bl (soundsOk ns)) H
theorem sound_rd {n : Int} {σ : L2.St} {H : Hp} {D : Ends} {t u : TS} (h : σ[1]? = some (some (.int n))) (k : if (!(decide (0 ≤ n) && decide (n ≤ 127))) = true then t D σ H else u D σ H) :
    tIfS (tNot (tTest (tChain (rI0 fun i j => V.bl (decide (i ≤ j))) (rI0 fun i j => V.bl (decide (i ≤ j))) (tC (.int 0)) (tVar 1) (tC (.int 127))))) t u D σ H := by
  refine ⟨_, h, _, _, rfl, rfl, _, rfl, ?_⟩
  by_cases c : 0 ≤ n
  · rw [decide_eq_true c] at k ⊢
    exact iteT ⟨_, _, rfl, rfl, _, rfl, k⟩
  · rw [decide_eq_false c] at k ⊢
    exact iteF ⟨_, rfl, k⟩
theorem ok_are_sounds {P : Program} {w : World} {K : PySem.W.Frag} {mg : Str → Option Value} {base : Heap} (T : Txt K mg base) {f : Addr} {fd : FuncData} (D : Def K mg "are_sounds" s_are_sounds ["numbers"] f fd) : FnOk P w K mg base CX0 1 f fd ["numbers"] (sp_are_sounds K) := by
  refine D.F.ok sc_are_sounds (fun vs H Q E h => ?_) (fun cdv A outer s H vs Q E hr h => ⟨_, (pss_cons (ps_for PassesOwn.never rfl (pi_list (pv 0)) (pg_name (i := 1) sc_are_sounds.nd rfl (Or.inl rfl))
      (pss_one (ps_if (pt_not (pt_chain op_le op_le pe_int (pv 1) (pe_globI T.c_HIGHEST_SOUND))) (pss_one (ps_ret pe_bl)) pss_nil)))
      (pss_one (ps_ret pe_bl))), ?_⟩)
  · obtain ⟨a, ns, rfl, _⟩ := h
    rfl
  · obtain ⟨a, ns, rfl, ha, k⟩ := h
    refine ⟨_, rfl, a, rfl, ⟨_, ha⟩, for_list (xs := ns.map V.int) (fun i σ Hc => Hc = H ∧ (∃ s1, σ = [some (.ref a), s1]) ∧ soundsOk (ns.take i) = true) ⟨rfl, ⟨_, rfl⟩, rfl⟩ ?_ ?_ ?_⟩
    · rintro i σ Hc _ ⟨rfl, _, _⟩
      exact ha
    · rintro i x σ Hc hx ⟨rfl, ⟨s1, rfl⟩, all⟩
      rw [List.getElem?_map] at hx
      obtain ⟨n, hn, rfl⟩ := Option.map_eq_some_iff.mp hx
      change tIfS _ _ _ _ [some (V.ref a), some (V.int n)] Hc
      refine sound_rd (n := n) rfl ?_
      cases c : (decide (0 ≤ n) && decide (n ≤ 127)) with
      | false =>
        have z : soundsOk ns = false := by
          rw [← Bool.not_eq_true]
          intro z
          have := List.all_eq_true.mp z n (List.mem_of_getElem? hn)
          rw [c] at this
          cases this
        rw [z] at k
        exact iteT k
      | true =>
        refine iteF ⟨rfl, ⟨_, rfl⟩, ?_⟩
        unfold soundsOk at all ⊢
        rw [List.take_add_one, hn, List.all_append, all]
        show (true && ((decide (0 ≤ n) && decide (n ≤ 127)) && true)) = true
        rw [c]
        rfl
    · rintro σ Hc ⟨rfl, _, all⟩
      rw [List.length_map, List.take_length] at all
      rw [all] at k
      exact k
theorem has_are_sounds {P : Program} {w : World} {K : PySem.W.Frag} {mg : Str → Option Value} {base : Heap} (T : Txt K mg base) : Has P w K mg base "are_sounds" 1 ["numbers"] (sp_are_sounds K) :=
  has_of T.d_are_sounds fun f fd D => ok_are_sounds T D
/-! ### notes in the heap: a list of tuples -/
abbrev vN (n : Sw68.Note) : List V := [.int n.letter, .int n.alt, .int n.octave]
def NotesAt (H : Hp) (a : Addr) (ns : List Sw68.Note) : Prop := ∃ rs : List Addr, H a = some (.lst (rs.map V.ref)) ∧ Paired (fun r n => H r = some (.tup (vN n))) rs ns
theorem Same.notes {H H' : Hp} {a : Addr} {ns : List Sw68.Note} (s : Same H H') (h : NotesAt H a ns) : NotesAt H' a ns := by
  obtain ⟨rs, h1, h2⟩ := h
  exact ⟨rs, s _ _ h1, L2.Paired.mapP h2 fun r n h => s _ _ h⟩
theorem paired_at {α β : Type} {F : α → β → Prop} : ∀ {l₁ : List α} {l₂ : List β}, Paired F l₁ l₂ → ∀ {i : Nat} {x : α}, l₁[i]? = some x → ∃ y, l₂[i]? = some y ∧ F x y
  | _, _, .nil, i, x, h => by simp at h
  | _, _, .cons h1 h2, 0, x, h => by
    rw [List.getElem?_cons_zero] at h
    injection h with h
    subst h
    exact ⟨_, rfl, h1⟩
  | _, _, .cons h1 h2, i + 1, x, h => by
    rw [List.getElem?_cons_succ] at h
    obtain ⟨y, e, f⟩ := paired_at h2 h
    exact ⟨y, by rw [List.getElem?_cons_succ]; exact e, f⟩
theorem ref_at {rs : List Addr} {i : Nat} {x : V} (h : (rs.map V.ref)[i]? = some x) : ∃ r, rs[i]? = some r ∧ x = .ref r := by
  rw [List.getElem?_map] at h
  cases e : rs[i]? with
  | none => rw [e] at h; cases h
  | some r =>
    rw [e] at h
    injection h with h
    exact ⟨r, rfl, h.symm⟩
theorem drop_at {α : Type} {l : List α} {i : Nat} {x : α} (h : l[i]? = some x) : l.drop i = x :: l.drop (i + 1) := by
  obtain ⟨hi, e⟩ := List.getElem?_eq_some_iff.mp h
  rw [List.drop_eq_getElem_cons hi, e]
theorem take_at {α : Type} {l : List α} {i : Nat} {x : α} (h : l[i]? = some x) : l.take (i + 1) = l.take i ++ [x] := by
  rw [List.take_add_one, h]
  rfl
theorem Same.upd {H H' : Hp} {p : Addr} {o : HO} (s : Same H H') (hp : H p = none) : Same H (upd H' p o) := fun b o' h => by
  rw [upd_ne (fun z => by rw [z, hp] at h; cases h)]
  exact s _ _ h
/-- all but the thing at l stays -/
def SameB (l : Addr) (H H' : Hp) : Prop := ∀ b o, b ≠ l → H b = some o → H' b = some o
theorem SameB.refl {l : Addr} {H : Hp} : SameB l H H := fun _ _ _ h => h
theorem SameB.same {l : Addr} {H H1 H2 : Hp} (a : SameB l H H1) (b : Same H1 H2) : SameB l H H2 := fun x o n h => b _ _ (a x o n h)
theorem SameB.upd {l : Addr} {H H1 : Hp} {o : HO} (a : SameB l H H1) : SameB l H (upd H1 l o) := fun x o' n h => by
  rw [upd_ne n]
  exact a x o' n h
theorem SameB.notes {l : Addr} {H H' : Hp} {a : Addr} {ns : List Sw68.Note} {n : Int} {xs : List V} (s : SameB l H H') (hl : H l = some (.lst (.int n :: xs))) (h : NotesAt H a ns) : NotesAt H' a ns := by
  obtain ⟨rs, h1, h2⟩ := h
  refine ⟨rs, s _ _ ?_ h1, L2.Paired.mapP h2 fun r n h => s _ _ ?_ h⟩
  · intro z
    rw [z, hl] at h1
    injection h1 with h1
    injection h1 with h1
    cases rs with
    | nil => cases h1
    | cons r rs =>
      rw [List.map_cons] at h1
      injection h1 with h1
      cases h1
  · intro z
    rw [z, hl] at h
    injection h with h
    cases h
def upTo (n : Int) (k : Nat) : List Sw68.Note := ((List.range k).map fun (s : Nat) => Sw68.spelled ((s : Int) - 7) n).filter Sw68.noteOk
theorem upTo_le (n : Int) (k : Nat) : (upTo n k).length ≤ k := by
  unfold upTo
  refine Nat.le_trans (List.length_filter_le _ _) ?_
  rw [List.length_map, List.length_range]
  exact Nat.le_refl _
theorem upTo_yes {n : Int} {k : Nat} {x : Sw68.Note} (e : Sw68.spelled ((k : Int) - 7) n = x) (h : Sw68.noteOk x = true) : upTo n (k + 1) = upTo n k ++ [x] := by
  unfold upTo
  rw [List.range_succ, List.map_append, List.filter_append, List.map_cons, List.map_nil, e, List.filter_cons_of_pos h]
  rfl
theorem upTo_no {n : Int} {k : Nat} {x : Sw68.Note} (e : Sw68.spelled ((k : Int) - 7) n = x) (h : Sw68.noteOk x = false) : upTo n (k + 1) = upTo n k := by
  unfold upTo
  rw [List.range_succ, List.map_append, List.filter_append, List.map_cons, List.map_nil, e, List.filter_cons_of_neg (by rw [h]; decide), List.filter_nil, List.append_nil]
def noteAt (n : Int) (i j : Nat) : Sw68.Note := ⟨0 + (j : Int), n - (12 * (-1 + (i : Int) + 1) + Sw68.natural (0 + (j : Int)) + 0), -1 + (i : Int)⟩
theorem spelled_at {n : Int} {i j : Nat} (hj : j < 7) : Sw68.spelled (((7 * i + j : Nat) : Int) - 7) n = noteAt n i j := by
  unfold Sw68.spelled noteAt
  simp only [fdiv7, fmod7]
  have e1 : (((7 * i + j : Nat) : Int) - 7) % 7 = 0 + (j : Int) := by omega
  have e2 : (((7 * i + j : Nat) : Int) - 7) / 7 = -1 + (i : Int) := by omega
  rw [e1, e2, Int.add_zero]
def sp_spellings_of : Sp := fun vs H Q _ => ∃ n : Int, vs = [.int n] ∧ (0 ≤ n ∧ n ≤ 127) ∧ ∀ (H' : Hp) (p : Addr), NotesAt H' p (Sw68.choices n) → Same H H' → H p = none → Q (.ref p) H'
theorem ok_spellings_of {P : Program} {w : World} {K : PySem.W.Frag} {mg : Str → Option Value} {base : Heap} (T : Txt K mg base) {f : Addr} {fd : FuncData} (D : Def K mg "spellings_of" s_spellings_of ["sound"] f fd) : FnOk P w K mg base CX0 2 f fd ["sound"] (sp_spellings_of) := by
  refine D.F.ok sc_spellings_of (fun vs H Q E h => ?_) (fun cdv A outer s H vs Q E hr h => ⟨_, (pss_cons (ps_set (i := 1) sc_spellings_of.nd rfl (Or.inl rfl) (pe_lst pa_nil))
      (pss_cons (ps_for PassesOwn.never rfl (pi_range2 (by rfl) T.b_range (pa_cons (pe_globI T.c_LOWEST_OCTAVE) (pa_cons (pe_op op_add (pe_globI T.c_HIGHEST_OCTAVE) pe_int) pa_nil))) (pg_name (i := 2) sc_spellings_of.nd rfl (Or.inl rfl))
      (pss_one (ps_for PassesOwn.never rfl (pi_range1 (by rfl) T.b_range (pa_cons (pe_globI T.c_LETTERS) pa_nil)) (pg_name (i := 3) sc_spellings_of.nd rfl (Or.inl rfl))
      (pss_cons (ps_set (i := 4) sc_spellings_of.nd rfl (Or.inl rfl) (pe_op op_sub (pv 0) (pe_has (has_sound_of T) (hr.mono (by decide)) (pa_cons (pv 3) (pa_cons pe_int (pa_cons (pv 2) pa_nil))))))
      (pss_one (ps_if (pt_val (pe_has (has_is_note T) (hr.mono (by decide)) (pa_cons (pv 3) (pa_cons (pv 4) (pa_cons (pv 2) pa_nil))))) (pss_one (ps_expr (pe_bm PySem.F.plainAttrs_list PySem.F.slot_list_append PySem.F.type_list_append mt_append (pv 1) (pa_cons (pe_tup (pa_cons (pv 3) (pa_cons (pv 4) (pa_cons (pv 2) pa_nil)))) pa_nil)))) pss_nil))))))
      (pss_one (ps_ret (pv 1))))), ?_⟩)
  · obtain ⟨n, rfl, _⟩ := h
    rfl
  · obtain ⟨n, rfl, bd, k⟩ := h
    refine ⟨line (by decide), fun B hB => ?_⟩
    refine ⟨_, _, rfl, rfl, -1, 10, rfl, ⟨by decide, by decide, by decide, by decide⟩, for_range (lo := -1) (n := 11) (fun i σ Hc => Same H Hc ∧ ∃ (rs : List Addr) (s2 s3 s4 : Option V), σ = [some (.int n), some (.ref B), s2, s3, s4] ∧ Hc B = some (.lst (rs.map V.ref)) ∧
      Paired (fun r x => Hc r = some (.tup (vN x))) rs (upTo n (7 * i))) ⟨Same.new hB, [], _, _, _, rfl, upd_same, .nil⟩ ?_ ?_⟩
    · rintro i σ Hc hi ⟨sm, rs, s2, s3, s4, rfl, hc, hp⟩
      refine ⟨7, rfl, by decide, by decide, for_range (lo := 0) (n := 7) (fun j σ Hc => Same H Hc ∧ ∃ (rs : List Addr) (s3 s4 : Option V), σ = [some (.int n), some (.ref B), some (.int (-1 + (i : Int))), s3, s4] ∧ Hc B = some (.lst (rs.map V.ref)) ∧
        Paired (fun r x => Hc r = some (.tup (vN x))) rs (upTo n (7 * i + j))) ⟨sm, rs, _, _, rfl, hc, hp⟩ ?_ ?_⟩
      · rintro j σ Hd hj ⟨smd, ws, s3, s4, rfl, hd, hpd⟩
        have lw : ws.length ≤ 7 * i + j := by
          rw [hpd.length]
          exact upTo_le _ _
        refine ⟨_, rfl, _, rfl, _, rfl, _, _, _, rfl, ⟨by omega, by omega⟩, _, _, rfl, rfl, ?_⟩
        refine ⟨_, rfl, _, rfl, _, rfl, _, _, _, rfl, _, rfl, ?_⟩
        show if Sw68.noteOk (noteAt n i j) = true then _ else _
        cases c : Sw68.noteOk (noteAt n i j) with
        | false =>
          refine iteF ⟨smd, ws, _, _, rfl, hd, ?_⟩
          have e := upTo_no (spelled_at (n := n) (i := i) hj) c
          show Paired _ ws (upTo n (7 * i + j + 1))
          rw [e]
          exact hpd
        | true =>
          refine iteT ⟨_, rfl, .inl ⟨rfl, _, SqL.of hd⟩, _, rfl, _, rfl, _, rfl, line (show 3 ≤ 1000000 by decide), fun p hp1 => ⟨B, ws.map V.ref, .ref p, rfl, rfl, Same.new hp1 _ _ hd, line (by rw [List.length_map]; omega), ?_⟩⟩
          have s2' : Same Hd (L2.upd Hd p (.tup (vN (noteAt n i j)))) := Same.new hp1
          refine ⟨Same.upd (Same.trans smd s2') hB, ws ++ [p], _, _, rfl, upd_same.trans (by rw [List.map_append]; rfl), ?_⟩
          have e := upTo_yes (spelled_at (n := n) (i := i) hj) c
          show Paired _ (ws ++ [p]) (upTo n (7 * i + j + 1))
          rw [e]
          refine Paired.snoc (L2.Paired.mapP hpd fun r n h => ?_) ?_
          · rw [upd_ne (ne_of h hd (fun z => nomatch z))]
            exact s2' _ _ h
          · rw [upd_ne (ne_of upd_same (s2' _ _ hd) (fun z => nomatch z))]
            exact upd_same
      · rintro σ Hd ⟨smd, ws, s3, s4, rfl, hd, hpd⟩
        exact ⟨smd, ws, _, _, _, rfl, hd, hpd⟩
    · rintro σ Hc ⟨sm, rs, s2, s3, s4, rfl, hc, hp⟩
      have e : upTo n (7 * 11) = Sw68.choices n := (choices_eq bd.1 bd.2).symm
      rw [e] at hp
      exact ⟨_, rfl, k Hc B ⟨rs, hc, hp⟩ sm hB⟩
theorem has_spellings_of {P : Program} {w : World} {K : PySem.W.Frag} {mg : Str → Option Value} {base : Heap} (T : Txt K mg base) : Has P w K mg base "spellings_of" 2 ["sound"] (sp_spellings_of) :=
  has_of T.d_spellings_of fun f fd D => ok_spellings_of T D
def sp_beyond_five : Sp := fun vs H Q _ => ∃ n : Int, vs = [.int n] ∧ Q (.int (Sw68.beyond n : Nat)) H
theorem ok_beyond_five {P : Program} {w : World} {K : PySem.W.Frag} {mg : Str → Option Value} {base : Heap} (T : Txt K mg base) {f : Addr} {fd : FuncData} (D : Def K mg "beyond_five" s_beyond_five ["number"] f fd) : FnOk P w K mg base CX0 1 f fd ["number"] (sp_beyond_five) := by
  refine D.F.ok sc_beyond_five (fun vs H Q E h => ?_) (fun cdv A outer s H vs Q E hr h => ⟨_, (pss_one (ps_ret (pe_callB (call_max2 rfl) (by rfl) T.b_max (by decide +kernel) (pa_cons (pe_op op_sub (pe_callB call_abs (by rfl) T.b_abs (by decide +kernel) (pa_cons (pv 0) pa_nil)) (pe_globI T.c_NEAR_FIFTHS)) (pa_cons pe_int pa_nil))))), ?_⟩)
  · obtain ⟨n, rfl, _⟩ := h
    rfl
  · obtain ⟨n, rfl, k⟩ := h
    refine ⟨_, rfl, n, rfl, _, _, rfl, rfl, _, _, rfl, ?_⟩
    have e : (if (0 : Int) > (if n < 0 then -n else n) - 5 then 0 else (if n < 0 then -n else n) - 5) = (Sw68.beyond n : Nat) := by
      unfold Sw68.beyond
      repeat' split
      all_goals omega
    rw [e]
    exact k
theorem has_beyond_five {P : Program} {w : World} {K : PySem.W.Frag} {mg : Str → Option Value} {base : Heap} (T : Txt K mg base) : Has P w K mg base "beyond_five" 1 ["number"] (sp_beyond_five) :=
  has_of T.d_beyond_five fun f fd D => ok_beyond_five T D
def CostOk (c : Sw68.Costs) : Prop := c.sign < 2147483648 ∧ c.apart < 2147483648 ∧ c.far < 2147483648 ∧ c.same < 2147483648
def sp_note_cost (K : PySem.W.Frag) : Sp := fun vs H Q _ => ∃ (c : Sw68.Costs) (kk : Int) (t : Addr) (x : Sw68.Note), vs = [.int (c.sign : Nat), .int (c.far : Nat), .int kk, .ref t] ∧ H t = some (.tup (vN x)) ∧ (0 ≤ x.letter ∧ x.letter ≤ 6) ∧ CostOk c ∧
  Q (.int (Sw68.own c kk x : Nat)) H
theorem abs_nat (n : Int) : (if n < 0 then -n else n) = (n.natAbs : Int) := by
  split <;> omega
theorem fif_eq (x : Sw68.Note) : Sw68.fifths ⟨x.letter, x.alt, 0⟩ = Sw68.fifths x := rfl
theorem ok_note_cost {P : Program} {w : World} {K : PySem.W.Frag} {mg : Str → Option Value} {base : Heap} (T : Txt K mg base) {f : Addr} {fd : FuncData} (D : Def K mg "note_cost" s_note_cost ["sign", "far", "in_key", "note"] f fd) : FnOk P w K mg base CX0 2 f fd ["sign", "far", "in_key", "note"] (sp_note_cost K) := by
  refine D.F.ok sc_note_cost (fun vs H Q E h => ?_) (fun cdv A outer s H vs Q E hr h => ⟨_, (pss_cons (ps_set (i := 4) sc_note_cost.nd rfl (Or.inl rfl) (pe_callB call_abs (by rfl) T.b_abs (by decide +kernel) (pa_cons (pe_op op_sub (pe_ix ix_tup (pv 3) pe_int (fun _ _ => rfl)) (pe_has (has_raised_by_key T) (hr.mono (by decide)) (pa_cons (pv 2) (pa_cons (pe_ix ix_tup (pv 3) pe_int (fun _ _ => rfl)) pa_nil)))) pa_nil)))
      (pss_cons (ps_set (i := 5) sc_note_cost.nd rfl (Or.inl rfl) (pe_op op_sub (pe_has (has_fifths_of T) (hr.mono (by decide)) (pa_cons (pe_ix ix_tup (pv 3) pe_int (fun _ _ => rfl)) (pa_cons (pe_ix ix_tup (pv 3) pe_int (fun _ _ => rfl)) pa_nil))) (pe_op op_add (pv 2) (pe_globI T.c_MIDDLE_OF_KEY))))
      (pss_one (ps_ret (pe_op op_add (pe_op op_mul (pv 0) (pv 4)) (pe_op op_mul (pv 1) (pe_has (has_beyond_five T) (hr.mono (by decide)) (pa_cons (pv 5) pa_nil)))))))), ?_⟩)
  · obtain ⟨c, kk, t, x, rfl, _⟩ := h
    rfl
  · obtain ⟨c, kk, t, x, rfl, ht, bd, ok, k⟩ := h
    have ht' : SqT K H t (vN x) := SqT.of ht
    refine ⟨_, rfl, t, _, 1, _, rfl, rfl, ht', rfl, _, rfl, _, rfl, t, _, 0, _, rfl, rfl, ht', rfl, kk, x.letter, rfl, bd, _, _, rfl, rfl, _, rfl, ?_⟩
    refine ⟨_, rfl, t, _, 0, _, rfl, rfl, ht', rfl, _, rfl, t, _, 1, _, rfl, rfl, ht', rfl, x.letter, x.alt, rfl, bd, _, rfl, _, _, rfl, rfl, _, _, rfl, rfl, ?_⟩
    refine ⟨_, rfl, _, rfl, _, _, rfl, rfl, .inl ⟨?_, ?_⟩, _, rfl, _, rfl, _, rfl, _, _, rfl, rfl, .inl ⟨?_, ?_⟩, _, _, rfl, rfl, ?_⟩
    · omega
    · have := ok.1
      omega
    · omega
    · have := ok.2.2.1
      omega
    · rw [fif_eq, abs_nat]
      have e : (c.sign : Int) * ((x.alt - Sw68.keyAlt kk x.letter).natAbs : Int) + (c.far : Int) * (Sw68.beyond (Sw68.fifths x - (kk + 2)) : Int) = (Sw68.own c kk x : Nat) := by
        unfold Sw68.own
        rw [Int.natCast_add, Int.natCast_mul, Int.natCast_mul]
      rw [← e] at k
      exact k
theorem has_note_cost {P : Program} {w : World} {K : PySem.W.Frag} {mg : Str → Option Value} {base : Heap} (T : Txt K mg base) : Has P w K mg base "note_cost" 2 ["sign", "far", "in_key", "note"] (sp_note_cost K) :=
  has_of T.d_note_cost fun f fd D => ok_note_cost T D
def sp_neighbours_cost (K : PySem.W.Frag) : Sp := fun vs H Q _ => ∃ (c : Sw68.Costs) (t u : Addr) (x y : Sw68.Note), vs = [.int (c.apart : Nat), .int (c.same : Nat), .ref t, .ref u] ∧ H t = some (.tup (vN x)) ∧ H u = some (.tup (vN y)) ∧ (0 ≤ x.letter ∧ x.letter ≤ 6) ∧ (0 ≤ y.letter ∧ y.letter ≤ 6) ∧ CostOk c ∧
  Q (.int (Sw68.pair c x y : Nat)) H
theorem ok_neighbours_cost {P : Program} {w : World} {K : PySem.W.Frag} {mg : Str → Option Value} {base : Heap} (T : Txt K mg base) {f : Addr} {fd : FuncData} (D : Def K mg "neighbours_cost" s_neighbours_cost ["apart", "same", "first", "second"] f fd) : FnOk P w K mg base CX0 2 f fd ["apart", "same", "first", "second"] (sp_neighbours_cost K) := by
  refine D.F.ok sc_neighbours_cost (fun vs H Q E h => ?_) (fun cdv A outer s H vs Q E hr h => ⟨_, (pss_cons (ps_set (i := 4) sc_neighbours_cost.nd rfl (Or.inl rfl) (pe_op op_mul (pv 0) (pe_has (has_beyond_five T) (hr.mono (by decide)) (pa_cons (pe_op op_sub (pe_has (has_fifths_of T) (hr.mono (by decide)) (pa_cons (pe_ix ix_tup (pv 3) pe_int (fun _ _ => rfl)) (pa_cons (pe_ix ix_tup (pv 3) pe_int (fun _ _ => rfl)) pa_nil))) (pe_has (has_fifths_of T) (hr.mono (by decide)) (pa_cons (pe_ix ix_tup (pv 2) pe_int (fun _ _ => rfl)) (pa_cons (pe_ix ix_tup (pv 2) pe_int (fun _ _ => rfl)) pa_nil)))) pa_nil))))
      (pss_cons (ps_if (PW.pt (pw_and (pt_cmpR op_eq (pe_ix ix_tup (pv 2) pe_int (fun _ _ => rfl)) (pe_ix ix_tup (pv 3) pe_int (fun _ _ => rfl)) (nomark _)) (pw_and1 (pt_cmpR op_ne (pe_ix ix_tup (pv 2) pe_int (fun _ _ => rfl)) (pe_ix ix_tup (pv 3) pe_int (fun _ _ => rfl)) (nomark _))))) (pss_one (ps_aug (i := 4) sc_neighbours_cost.nd rfl (Or.inl rfl) (pv 1) ip_add)) pss_nil)
      (pss_one (ps_ret (pv 4))))), ?_⟩)
  · obtain ⟨c, t, u, x, y, rfl, _⟩ := h
    rfl
  · obtain ⟨c, t, u, x, y, rfl, ht, hu, bx, by_, ok, k⟩ := h
    have ht' : SqT K H t (vN x) := SqT.of ht
    have hu' : SqT K H u (vN y) := SqT.of hu
    refine ⟨_, rfl, _, rfl, u, _, 0, _, rfl, rfl, hu', rfl, _, rfl, u, _, 1, _, rfl, rfl, hu', rfl, y.letter, y.alt, rfl, by_, ?_⟩
    refine ⟨_, rfl, t, _, 0, _, rfl, rfl, ht', rfl, _, rfl, t, _, 1, _, rfl, rfl, ht', rfl, x.letter, x.alt, rfl, bx, _, _, rfl, rfl, _, rfl, _, _, rfl, rfl, .inl ⟨?_, ?_⟩, ?_⟩
    · omega
    · have := ok.2.1
      omega
    · rw [fif_eq, fif_eq]
      have e : (c.apart : Int) * (Sw68.beyond (Sw68.fifths y - Sw68.fifths x) : Int) + (if x.letter = y.letter ∧ x.alt ≠ y.alt then (c.same : Int) else 0) = (Sw68.pair c x y : Nat) := by
        unfold Sw68.pair
        rw [Int.natCast_add, Int.natCast_mul]
        split <;> rfl
      refine ⟨_, rfl, t, _, 0, _, rfl, rfl, ht', rfl, _, rfl, u, _, 0, _, rfl, rfl, hu', rfl, rfl, _, rfl, ?_⟩
      by_cases h1 : x.letter = y.letter
      · refine iteY (decide_eq_true (show V.int x.letter = V.int y.letter from by rw [h1])) ?_
        refine ⟨_, rfl, t, _, 1, _, rfl, rfl, ht', rfl, _, rfl, u, _, 1, _, rfl, rfl, hu', rfl, rfl, _, rfl, ?_⟩
        by_cases h2 : x.alt = y.alt
        · refine iteN (by rw [decide_eq_true (show V.int x.alt = V.int y.alt from by rw [h2])]; decide) ?_
          rw [if_neg (fun z => z.2 h2)] at e
          rw [← e, Int.add_zero] at k
          exact ⟨_, rfl, k⟩
        · refine iteY (by rw [decide_eq_false (show ¬ V.int x.alt = V.int y.alt from fun z => h2 (by injection z))]; rfl) ?_
          rw [if_pos ⟨h1, h2⟩] at e
          rw [← e] at k
          exact ⟨_, rfl, _, rfl, _, _, rfl, rfl, _, rfl, k⟩
      · refine iteN (fun z => h1 (by have z' := of_decide_eq_true z; injection z')) ?_
        rw [if_neg (fun z => h1 z.1)] at e
        rw [← e, Int.add_zero] at k
        exact iteF ⟨_, rfl, k⟩
theorem has_neighbours_cost {P : Program} {w : World} {K : PySem.W.Frag} {mg : Str → Option Value} {base : Heap} (T : Txt K mg base) : Has P w K mg base "neighbours_cost" 2 ["apart", "same", "first", "second"] (sp_neighbours_cost K) :=
  has_of T.d_neighbours_cost fun f fd D => ok_neighbours_cost T D
def sp_put_ahead (K : PySem.W.Frag) : Sp := fun vs H Q _ => ∃ (c : Sw68.Costs) (t r L : Addr) (x : Sw68.Note) (row : Row), vs = [.int (c.apart : Nat), .int (c.same : Nat), .ref t, .ref r] ∧ H t = some (.tup (vN x)) ∧ (0 ≤ x.letter ∧ x.letter ≤ 6) ∧
  H r = some (.tup [.int (row.1 : Nat), .ref L]) ∧ NotesAt H L row.2 ∧ (∀ y ∈ row.2, Sw68.noteOk y = true) ∧ row.2.length ≤ 60 ∧ CostOk c ∧
  ∀ (H' : Hp) (p L' : Addr), H' p = some (.tup [.int ((pre c x row).1 : Nat), .ref L']) → NotesAt H' L' (pre c x row).2 → Same H H' → H L' = none → Q (.ref p) H'
theorem ok_put_ahead {P : Program} {w : World} {K : PySem.W.Frag} {mg : Str → Option Value} {base : Heap} (T : Txt K mg base) {f : Addr} {fd : FuncData} (D : Def K mg "put_ahead" s_put_ahead ["apart", "same", "note", "row"] f fd) : FnOk P w K mg base CX0 3 f fd ["apart", "same", "note", "row"] (sp_put_ahead K) := by
  refine D.F.ok sc_put_ahead (fun vs H Q E h => ?_) (fun cdv A outer s H vs Q E hr h => ⟨_, (pss_cons (ps_set (i := 4) sc_put_ahead.nd rfl (Or.inl rfl) (pe_ix ix_tup (pv 3) pe_int (fun _ _ => rfl)))
      (pss_cons (ps_set (i := 5) sc_put_ahead.nd rfl (Or.inl rfl) (pe_ix ix_tup (pv 3) pe_int (fun _ _ => rfl)))
      (pss_cons (ps_if (pt_cmpR op_gt (pe_callB call_len_seq (by rfl) T.b_len PySem.boot_len (pa_cons (pv 5) pa_nil)) pe_int (nomark _)) (pss_one (ps_aug (i := 4) sc_put_ahead.nd rfl (Or.inl rfl) (pe_has (has_neighbours_cost T) (hr.mono (by decide)) (pa_cons (pv 0) (pa_cons (pv 1) (pa_cons (pv 2) (pa_cons (pe_ix ix_list (pv 5) pe_int (fun _ _ => rfl)) pa_nil))))) ip_add)) pss_nil)
      (pss_one (ps_ret (pe_tup (pa_cons (pv 4) (pa_cons (pe_op op_cat (pe_lst (pa_cons (pv 2) pa_nil)) (pv 5)) pa_nil)))))))), ?_⟩)
  · obtain ⟨c, t, r, L, x, row, rfl, _⟩ := h
    rfl
  · obtain ⟨c, t, r, L, x, row, rfl, ht, bx, hr0, ⟨rs, hL, hp⟩, all, hl, ok, k⟩ := h
    have fin : ∀ (σ : L2.St) (cc : Int), cc = ((pre c x row).1 : Nat) → σ[4]? = some (some (.int cc)) → σ[2]? = some (some (.ref t)) → σ[5]? = some (some (.ref L)) →
        tTup (tCons (tVar 4) (tCons (tOp rCat (tLst (tCons (tVar 2) tNil)) (tVar 5)) tNil)) σ H Q := by
      rintro σ cc rfl h4 h2 h5
      refine ⟨_, h4, _, h2, line (show 1 ≤ 1000000 by decide), fun g hg => ⟨_, h5, g, L, _, _, rfl, rfl, upd_same, Same.new hg _ _ hL, line ?_, fun g2 hg2 => ⟨line (show 2 ≤ 1000000 by decide), fun p hp' => k _ p g2 upd_same ?_ ?_ ?_⟩⟩⟩
      · rw [List.length_map, hp.length]
        show 1 + row.2.length ≤ _
        omega
      · have s3 := Same.trans (Same.new hg) (Same.trans (Same.new hg2) (Same.new (o := .tup [.int ((pre c x row).1 : Nat), .ref g2]) hp'))
        refine ⟨t :: rs, Same.new hp' _ _ upd_same, .cons (s3 _ _ ht) (L2.Paired.mapP hp fun r n h => s3 _ _ h)⟩
      · exact Same.trans (Same.new hg) (Same.trans (Same.new hg2) (Same.new hp'))
      · rw [upd_ne (ne_new hg2)] at hg2
        exact hg2
    refine ⟨_, rfl, r, _, 0, _, rfl, rfl, SqT.of hr0, rfl, ?_⟩
    refine ⟨_, rfl, r, _, 1, _, rfl, rfl, SqT.of hr0, rfl, ?_⟩
    refine ⟨_, rfl, L, _, rfl, .inl (SqL.of hL), _, _, rfl, rfl, _, rfl, ?_⟩
    obtain ⟨rc, rn⟩ := row
    cases rn with
    | nil =>
      cases hp
      refine iteN (by decide) ?_
      exact fin _ _ rfl rfl rfl rfl
    | cons y ys =>
      cases hp with
      | cons h1 h2 =>
        rename_i u us
        refine iteY (decide_eq_true ?_) ?_
        · rw [List.length_map, List.length_cons]
          omega
        have oy := ok_l (l := y.letter) (r := y.alt) (o := y.octave) (all y (List.mem_cons_self ..))
        refine ⟨_, rfl, _, rfl, _, rfl, _, rfl, _, rfl, L, _, 0, _, rfl, rfl, SqL.of hL, atI_nat (show ((u :: us).map V.ref)[0]? = some (V.ref u) from rfl), c, t, u, x, y, rfl, ht, h1, bx, oy, ok, _, _, rfl, rfl, ?_⟩
        refine fin _ _ ?_ rfl rfl rfl
        show ((rc : Nat) : Int) + ((Sw68.pair c x y : Nat) : Int) = ((rc + Sw68.pair c x y : Nat) : Int)
        rw [Int.natCast_add]
theorem has_put_ahead {P : Program} {w : World} {K : PySem.W.Frag} {mg : Str → Option Value} {base : Heap} (T : Txt K mg base) : Has P w K mg base "put_ahead" 3 ["apart", "same", "note", "row"] (sp_put_ahead K) :=
  has_of T.d_put_ahead fun f fd D => ok_put_ahead T D
/-! ### min(xs, key=lambda y: y[0]): tuples, by their first item, a number -/
theorem ExtN.seqL {K : PySem.W.Frag} {H H' : Hp} {a : Addr} {xs : List V} (e : LamX.ExtN H H') (h : SqL K H a xs) : SqL K H' a xs := by
  rcases h with (h | ⟨o, h⟩) | h
  · exact .inl (.inl (e _ _ h (fun _ z => nomatch z)))
  · exact .inl (.inr ⟨o, e _ _ h (fun _ z => nomatch z)⟩)
  · exact .inr h
theorem ExtN.seqT {K : PySem.W.Frag} {H H' : Hp} {a : Addr} {xs : List V} (e : LamX.ExtN H H') (h : SqT K H a xs) : SqT K H' a xs := by
  rcases h with (h | ⟨o, h⟩) | h
  · exact .inl (.inl (e _ _ h (fun _ z => nomatch z)))
  · exact .inl (.inr ⟨o, e _ _ h (fun _ z => nomatch z)⟩)
  · exact .inr h
theorem vals_refs : ∀ {rs : List Addr} {us : List Value}, Vals (rs.map V.ref) us → us = rs.map Value.ref
  | [], us, h => by
    cases h
    rfl
  | r :: rs, us, h => by
    cases h with
    | cons h1 h2 =>
      cases h1
      rw [vals_refs h2]
      rfl
/-- f(t), f the lambda y: y[0] -/
theorem lam0_turn {prog : Program} {w : World} {A : Around} {E : Value → Shared → Prop} {s : Shared} {Q : Value → Shared → Prop} {f c' r : Addr} {q y : Str} {params : Arguments} {scope : Scope} {cl : List (Str × Addr)} {pm ctv v : Value} {items : Array Value} {jk : Nat} {p1 p2 p3 : Pos}
    (hroom : A.depth < recursionLimit) (hf : s.heap.get? f = some (PySem.W.kla_obj "<lambda>" q params (.Subscript (.Name y p1) (.Constant (.int 0) jk p2) p3) scope cl pm c' ctv))
    (hcd : s.heap.CodeRec (.ref c') q) (hlim : s.heap.NoLimit) (hco : scope.isCoroutine = false) (hgen : scope.isGenerator = false) (hk : scope.kind = .function)
    (hbind : bindArgs (PySem.W.kla_fn "<lambda>" q params (.Subscript (.Name y p1) (.Constant (.int 0) jk p2) p3) scope cl pm (.ref c') ctv) ⟨[.ref r], []⟩ = pure [(y, .ref r)])
    (hloc : scope.names.lookup y = some .local) (hcell : ∀ x ∈ scope.names, x.2 ≠ .cell) (hy : (y == ("__debug__" : Str)) = false)
    (ht : IsTup s.heap r items) (h0 : items[0]? = some v)
    (hQ : ∀ h' tk, (∀ b o, s.heap.get? b = some o → h'.get? b = some o) → s.toks ≤ tk → Q v { s with heap := h', toks := tk }) :
    wpAny (model prog w) A (call (.ref f) [.ref r]) Q E s := by
  refine wpAny_call (PySem.W.kla_callFunE hroom hf rfl hco hgen rfl hcd ?_)
  rw [hbind]
  refine wpAny_pure (wpAny_newFunctionEnv hcell (fun x hx => ?_) (fun h₁ hns hsb => ⟨hlim.fresh _ hsb, ?_⟩) hk)
  · rw [List.mem_singleton.mp hx]
    exact hloc
  have kp : ∀ b o, s.heap.get? b = some o → h₁.get? b = some o := by
    intro b o old
    exact hsb.extBut b o (Nat.ne_of_lt (Heap.lt_size old)) (Heap.get?_push_of_some _ old)
  refine PySem.W.kla_codeExpr (Subscript_ (wpAny_Name (wpAny_loadName_local (v := .ref r) hk hloc hns (by simp) ?_) hy))
  refine wpAny_Constant_int ?_
  have hs0 : items.size ≠ 0 := fun z => by
    rw [Array.getElem?_eq_none (by omega)] at h0
    cases h0
  have ht' : IsTup h₁ r items := ht.keeps kp
  exact subscriptTail_builtinR (x := v) ht'.typeIs slot_tuple_getitem.lookup
    (PyProof.Rows.getItem_tuple (j := 0) (Q := fun r s' => r = v ∧ Q r s') ht' (by decide) (by decide) (by unfold seqIndex?; simp; exact fun z => hs0 (by rw [z]; rfl)) h0 ⟨rfl, hQ _ _ kp (by simp; omega)⟩)
/-- what is asked of min's list, and what comes -/
def tMinK (K : PySem.W.Frag) (T : List (Addr × Str)) (ta : TA) : TE := fun σ H Q => ta σ H fun vs H1 => LamX.Tabs T H1 ∧ ∃ (a : Addr) (rs : List Addr) (ks : List Int), vs = [.ref a] ∧ SqL K H1 a (rs.map V.ref) ∧ 0 < rs.length ∧
  (∀ (i : Nat) (r : Addr), rs[i]? = some r → ∃ rest, SqT K H1 r (.int (ks.getD i 0) :: rest)) ∧
  ∀ H2, LamX.ExtN H1 H2 → LamX.Tabs T H2 → ∀ r : Addr, rs[argBest (fun i j => decide (ks.getD i 0 < ks.getD j 0)) (rs.length - 1)]? = some r → Q (.ref r) H2
theorem at_moved {X : Cx} {pins : List (Addr × Obj)} {σ : L2.St} {H : Hp} {s s' : Shared} (I : Inv X pins σ H s) (m : Moved [] (fun a b => b = a) s s') : Inv X pins σ H s' := by
  obtain ⟨h, g, d, t, os⟩ := s
  obtain ⟨h', g', d', t', os'⟩ := s'
  obtain ⟨m1, m2, m3, m4, m5⟩ := m
  have e2 : g' = g := m2
  have e3 : d' = d := m3
  have e4 : os' = os := m4
  subst e2 e3 e4
  exact I.kept (t' := t') fun b u e => m1 b u (by simp) e
theorem pe_minK {X : Cx} {T : List (Addr × Str)} {c P : Addr} {k : Nat} {e : Expr} {ta : TA} {y : Str} {params : Arguments} {scope : Scope} {p p1 p2 p3 lpos kpos pos : Pos} {jk : Nat}
    (hg : Gl X "min") (hm : X.mg "min" = none) (TB : LamX.TabB X.base X.mg c P) (hcode : X.env.code = .ref c) (hmT : (P, X.env.qual ++ "<lambda>") ∈ T) (hu : ∀ p ∈ T, p.1 = P → p.2 = X.env.qual ++ "<lambda>")
    (hr : Room k X.A) (ha : PA X [e] ta) (hdef : defaultsOf params X.env = ([], [])) (hnf : ∀ y ∈ scope.names, y.2 = .free → False) (hco : scope.isCoroutine = false) (hgen : scope.isGenerator = false) (hk : scope.kind = .function)
    (hbind : ∀ (q : Str) (cl : List (Str × Addr)) (pm cv ctv u : Value), bindArgs (PySem.W.kla_fn "<lambda>" q params (.Subscript (.Name y p1) (.Constant (.int 0) jk p2) p3) scope cl pm cv ctv) ⟨[u], []⟩ = pure [(y, u)])
    (hloc : scope.names.lookup y = some .local) (hcell : ∀ x ∈ scope.names, x.2 ≠ .cell) (hy : (y == ("__debug__" : Str)) = false)
    (hee : backTo pos (starEach [e] X.env) = (false, eval e X.env) :: backTo pos (starEach [] X.env) := by rfl) (hpl : (backTo pos (starEach [e] X.env)).any (·.1) = false := by rfl) :
    PE X (.Call (.Name "min" p) [e] [⟨some "key", .Lambda params (.Subscript (.Name y p1) (.Constant (.int 0) jk p2) p3) scope lpos, kpos⟩] pos) (tMinK X.K T ta) := by
  refine ⟨fun pins s σ H Q I h => ?_⟩
  refine wpAny_Call_Name_kw (ld_blt I hg hm (by decide +kernel : bootBuiltins "min" = some (.builtin "min")) ?_)
  refine PyProof.Rows.callWith_kw (thn (ha.run pos pins s σ H _ I h) fun us s1 ⟨vs, H1, I1, r1, q1⟩ => ?_) hee hpl
  obtain ⟨hT, a, rs, ks, rfl, hs, hn, hks, hQ⟩ := q1
  obtain ⟨u1, rfl, e1⟩ := vals1 r1
  cases e1
  show wpAny _ _ (evalAll ((do let v ← eval (.Lambda params (.Subscript (.Name y p1) (.Constant (.int 0) jk p2) p3) scope lpos) X.env; standAt pos; pure v) :: [])) _ _ s1
  refine wpAny_evalAll_cons (wpAny_bind (LamX.lam_make2 I1 TB hcode hmT hu hT hdef (fun y hy z => (hnf y hy z).elim) fun f c' pm ctv H2 s2 I2 eN T2 hf hfn hfr hcO => ?_))
  refine wpAny_bind (wpAny_standAt (wpAny_pure ?_))
  refine wpAny_evalAll_nil ?_
  show wpAny _ _ (call (.builtin "min") [.ref a] [(Str.ofString "key", .ref f)]) _ _ s2
  obtain ⟨its, rv, pl, hz⟩ := I2.list (ExtN.seqL eN hs)
  have ei := vals_refs rv
  subst ei
  have hl : s2.heap.IsList a (rs.map Value.ref).toArray := pl.isList
  have hal : a < s2.heap.objs.size := by
    obtain ⟨o, ho, _⟩ := hl
    exact Heap.lt_size ho
  obtain ⟨⟨oc, vc, tc, hoc, hdc, hvc⟩, _, _⟩ := I2.hok c' _ hcO
  have hd0 : X.A.in1.handled = none := hr.hd
  have lt2 : ∀ b o, s2.heap.get? b = some o → b < s2.heap.objs.size := fun b o e => Heap.lt_size e
  refine call_min_walkK (wpAny_pyIter_list hl ?_)
  have hS : (s2.heap.push { cls := .type "list_iterator", data := .fields #[.ref a, .int 0 0] }).objs.size = s2.heap.objs.size + 1 := by rw [Heap.size_push]
  have sz : (rs.map Value.ref).toArray.size = rs.length := by simp
  have hl2 : (s2.heap.push { cls := .type "list_iterator", data := .fields #[.ref a, .int 0 0] }).IsList a (rs.map Value.ref).toArray := by
    obtain ⟨o, ho, r⟩ := hl
    exact ⟨o, Heap.get?_push_of_some _ ho, r⟩
  refine ⟨s2.heap.objs.size, [s2.heap.objs.size, a], [s2.heap.objs.size], fun a b => b = a, (rs.map Value.ref).toArray.size, _, _, Moved [] (fun a b => b = a) s2, fun i k _ => ∃ t, k = .int (ks.getD i 0) t, fun i j => decide (ks.getD i 0 < ks.getD j 0), rfl,
    (Walks.list hd0 s2.heap.objs.size a (Nat.ne_of_lt hal) (rs.map Value.ref).toArray).toS, ⟨⟨_, Heap.get?_push_size _ rfl, rfl, rfl⟩, hl2⟩, ?_, by rw [sz]; exact hn, ?_, ?_, ?_⟩
  · intro b hb
    rw [hS]
    simp only [List.mem_cons, List.not_mem_nil, or_false] at hb
    rcases hb with rfl | rfl
    · exact Nat.lt_succ_self _
    · exact Nat.lt_succ_of_lt hal
  · rw [hS]
    have out : ∀ b o, s2.heap.get? b = some o → b ∉ (s2.heap.objs.size + 1) :: [s2.heap.objs.size] := fun b o e hb => by
      have := lt2 b o e
      simp only [List.mem_cons, List.not_mem_nil, or_false] at hb
      rcases hb with rfl | rfl
      · exact absurd this (Nat.not_lt.mpr (Nat.le_succ _))
      · exact absurd this (Nat.lt_irrefl _)
    refine ⟨fun s s' hJ hm => ?_, fun i k s s' hv _ => hv, fun i v s o Q' E' hi hP hJ hSt hSo hk' => ?_, fun i j ki kj s Q' E' _ hi hj hq => ?_⟩
    · exact ⟨fun b o _ e => hm.heap b o (out b o e) (hJ.heap b o (by simp) e), hm.gens.trans hJ.gens, hm.drawn.trans hJ.drawn, hm.os.trans hJ.os, Nat.le_trans hJ.toks hm.toks⟩
    · have hv : (rs.map Value.ref)[i]? = some v := by simpa using hP
      rw [List.getElem?_map] at hv
      obtain ⟨r, hri, rfl⟩ := Option.map_eq_some_iff.mp hv
      obtain ⟨rest, hT0⟩ := hks i r hri
      obtain ⟨us, ru, tu, _⟩ := I2.tuple (ExtN.seqT eN hT0)
      cases ru with
      | cons ru1 ru2 =>
        obtain ⟨t0, rfl⟩ := ru1
        have keep : ∀ b o, s2.heap.get? b = some o → s.heap.get? b = some o := fun b o e => hJ.heap b o (by simp) e
        refine lam0_turn (A := X.A.in1) (v := .int (ks.getD i 0) t0) (Nat.lt_of_le_of_lt (Nat.le_refl _) hr.depth) (keep _ _ hf) ⟨c', oc, vc, tc, rfl, keep _ _ hoc, hdc, hvc⟩ (I2.nolimit.keeps keep) hco hgen hk (hbind _ _ _ _ _ _) hloc hcell hy (tu.keeps keep) (by simp) fun h' tk kp htk => ?_
        refine hk' _ _ ⟨fun b o _ e => kp _ _ (keep _ _ e), hJ.gens, hJ.drawn, hJ.os, Nat.le_trans hJ.toks htk⟩ ?_ (kp _ _ hSo) ⟨t0, rfl⟩ fun _ _ z => z
        obtain ⟨⟨oi, ho1, ho2⟩, ⟨ol, ho3, ho4⟩⟩ := hSt
        exact ⟨⟨oi, kp _ _ ho1, ho2⟩, ⟨ol, kp _ _ ho3, ho4⟩⟩
    · exact CmpOf.ints_lt (P := fun i v => ∃ t, v = .int (ks.getD i 0) t) (fun i => ks.getD i 0) (fun i v h => h) i j ki kj s Q' E' hi hj hq
  · exact ⟨fun b o _ e => Heap.get?_push_of_some _ e, rfl, rfl, rfl, Nat.le_refl _⟩
  · intro v s' hP hJ
    rw [sz] at hP
    have hv : (rs.map Value.ref)[argBest (fun i j => decide (ks.getD i 0 < ks.getD j 0)) (rs.length - 1)]? = some v := by simpa using hP
    rw [List.getElem?_map] at hv
    obtain ⟨r, hri, rfl⟩ := Option.map_eq_some_iff.mp hv
    exact ⟨.ref r, H2, at_moved I2 hJ, rfl, hQ H2 eN T2 r hri⟩
/-- the rule for a def whose code object is known -/
theorem okC {P : Program} {w : World} {K : PySem.W.Frag} {mg : Str → Option Value} {base : Heap} {x qual : Str} {st : Stmt} {f c : Addr} {fd : FuncData} {N ps : List Str} {k : Nat} {sp : Sp} (F : Fun K x qual st f fd) (hc : fd.code = .ref c) (S : FnScope N ps (defScope st)) (len : ∀ vs H Q E, sp vs H Q E → vs.length = ps.length)
    (body : ∀ (A : Around) (outer : List Env) (s : Shared) (H : Hp) (vs : List V) (Q : VK) (E : XK), Room k (A.deeper (envOfC qual (defScope st) s.heap.objs.size f (.ref c))) → sp vs H Q E →
      ∃ t, PSs (cxOf CX0 P w K mg base N qual (defScope st) f (.ref c) A outer s H E).nox (defBody st) t ∧ t { nx := fun _ H' => Q .non H', rt := Q } (L2.start N vs) H) : FnOk P w K mg base CX0 (k + 1) f fd ps sp := by
  obtain ⟨_, _, _, _, _, _, cv, _, _, rfl, at_f, named⟩ := F.ex
  have e : cv = .ref c := hc
  subst e
  refine fn_of at_f named S len fun A outer s H vs Q E hr h => ?_
  obtain ⟨t, p, q⟩ := body A outer s H vs Q E hr h
  exact ⟨t, p.nox, q⟩
/-! ### the end of a row whose program makes a lambda: the maker's table of code objects is tracked, and may grow -/
section
open PySem.W (WData Codec OpenSpec WellAll ReadsW)
/-- the objects that may be tracked when the call begins: sequences, an empty table -/
def SeqOrTab (o : Obj) : Prop := (∃ vs n, o.data = .seq vs n) ∨ o.data = .fields #[]
def TrkAt (h : Heap) (H : Hp) : Prop := ∀ b u, H b = some u → ∃ o, h.get? b = some o ∧ SeqOrTab o
theorem TrkAt.free {h : Heap} {H : Hp} (tr : TrkAt h H) {b : Addr} {o : Obj} (e : h.get? b = some o) (n : ¬ SeqOrTab o) : H b = none := by
  cases q : H b with
  | none => rfl
  | some u =>
    obtain ⟨o', e', t⟩ := tr b u q
    rw [e] at e'
    cases e'
    exact absurd t n
theorem TrkAt.hid {h : Heap} {H : Hp} (tr : TrkAt h H) {b : Addr} {o : Obj} (e : h.get? b = some o) (n : ¬ SeqOrTab o) : (hidT h H).get? b = some o := hidT_get e (tr.free e n)
theorem not_seqTab_dict {o : Obj} {es : Array DictEntry} {ep : Nat} (d : o.data = .dict es ep) : ¬ SeqOrTab o := by
  rintro (⟨vs, n, z⟩ | z) <;> (rw [d] at z; cases z)
theorem TrkAt.ns {h : Heap} {H : Hp} (tr : TrkAt h H) {b : Addr} {m : Str → Option Value} (n : h.Ns b m) : (hidT h H).Ns b m := by
  obtain ⟨o, es, ep, e, d, rest⟩ := n
  exact ⟨o, es, ep, tr.hid e (not_seqTab_dict d), d, rest⟩
theorem TrkAt.lim {h : Heap} {H : Hp} (tr : TrkAt h H) (l : h.NoLimit) : (hidT h H).NoLimit := by
  obtain ⟨mc, a, b⟩ := l
  exact ⟨mc, tr.ns a, b⟩
/-- the module's object of built-ins -/
def BuiltinsObj (h : Heap) (mg : Str → Option Value) : Prop := ∃ (bm : Addr) (ob : Obj), mg "__builtins__" = some (.ref bm) ∧ bm ≠ builtinsNs ∧ h.get? bm = some ob ∧ ob.cls = .type "module" ∧ ob.dict = some builtinsNs ∧ ob.data = .plain
theorem TrkAt.tab {h : Heap} {H : Hp} {mg : Str → Option Value} {c T : Addr} (tr : TrkAt h H) (hT : h.get? T = some (PySem.W.tabObj #[])) (C : PySem.W.CodeHd h c T) (ns : h.Ns mainGlobals mg) (bo : BuiltinsObj h mg) : LamX.TabB (hidT h H) mg c T := by
  have nsT : mainGlobals ≠ T := by
    obtain ⟨o, es, ep, e, d, _⟩ := ns
    intro z
    rw [z, hT] at e
    injection e with e
    subst e
    cases d
  refine ⟨?code, ?built, nsT⟩
  case code =>
    obtain ⟨o, us, file, tf, flags, tg, inF, text, tt, e1, e2, e3, e4, rest⟩ := C
    refine ⟨o, us, file, tf, flags, tg, inF, text, tt, tr.hid e1 ?_, e2, e3, e4, rest⟩
    rintro (⟨vs, n, z⟩ | z)
    · rw [e3] at z; cases z
    · rw [e3] at z
      injection z with z
      rw [z] at e4
      simp at e4
  case built =>
    obtain ⟨bm, ob, g1, g2, g3, g4, g5, g6⟩ := bo
    refine ⟨bm, ob, g1, g2, ?_, ?_, tr.hid g3 ?_, g4, g5, g6⟩
    · intro z
      obtain ⟨o, es, ep, e, d, _⟩ := ns
      rw [z, e] at g3
      injection g3 with g3
      subst g3
      rw [d] at g6
      cases g6
    · intro z
      rw [z, hT] at g3
      injection g3 with g3
      subst g3
      cases g6
    · rintro (⟨vs, n, z⟩ | z) <;> (rw [g6] at z; cases z)
/-- the heap at the call's beginning: the arguments' objects, locked, and the table -/
theorem argsT {P : Program} {w : World} {K : PySem.W.Frag} {h : Heap} {A : List Addr} {T : Addr} (ar : ∀ a ∈ A, ArgOb h A a) (hT : h.get? T = some (PySem.W.tabObj #[])) (nT : K.lookup T = none) :
    ∃ H : Hp, H T = some (.tbl #[]) ∧ Same (argH K h A) H ∧ TrkAt h H ∧ HOk P w H h ∧ (∀ b u, H b = some u → K.lookup b = none) ∧ ∀ b, b ≠ T → H b = none ∨ ∃ o u, H b = some (.frz o u) := by
  have none_T : argH K h A T = none := by
    cases q : argH K h A T with
    | none => rfl
    | some u =>
      obtain ⟨_, vs, _, _, z⟩ := argH_is ar q
      rcases z with ⟨z, _⟩ | ⟨z, _⟩ <;>
      · rw [hT] at z
        injection z with z
        injection z with _ _ z3
        cases z3
  have split : ∀ b u, upd (argH K h A) T (.tbl #[]) b = some u → (b = T ∧ u = .tbl #[]) ∨ argH K h A b = some u := by
    intro b u e
    by_cases hb : b = T
    · rw [hb, upd_same] at e
      injection e with e
      exact .inl ⟨hb, e.symm⟩
    · rw [upd_ne hb] at e
      exact .inr e
  refine ⟨upd (argH K h A) T (.tbl #[]), upd_same, Same.new none_T, fun b u e => ?_, fun b u e => ?_, fun b u e => ?_, fun b hb => ?_⟩
  · rcases split b u e with ⟨rfl, rfl⟩ | e
    · exact ⟨_, hT, .inr rfl⟩
    · obtain ⟨_, vs, _, _, z⟩ := argH_is ar e
      rcases z with ⟨z, _⟩ | ⟨z, _⟩
      · exact ⟨_, z, .inl ⟨_, _, rfl⟩⟩
      · exact ⟨_, z, .inl ⟨_, _, rfl⟩⟩
  · rcases split b u e with ⟨rfl, rfl⟩ | e
    · exact hT
    · obtain ⟨_, vs, l1, l2, z⟩ := argH_is ar e
      rcases z with ⟨z, rfl⟩ | ⟨z, rfl⟩
      · exact ⟨z, (List.length_map (as := vs) toV).symm ▸ l1, vs, _, vals_toV l2, z⟩
      · exact ⟨z, (List.length_map (as := vs) toV).symm ▸ l1, vs, vals_toV l2, _, z, rfl, _, rfl⟩
  · rcases split b u e with ⟨rfl, _⟩ | e
    · exact nT
    · exact (argH_is ar e).1
  · rw [upd_ne hb]
    exact argH_only ar b
/-- what the row wants of the call's end -/
def EndOk (R : PySem.W.WRecords) (cl : Str → Option Addr) (d0 : WData) (s₁ : Shared) (r : Result) (s' : Shared) : Prop := ∃ u as, r = .ok (.ret u) ∧ ReadsW R cl s'.heap u d0 as ∧ OldK s₁.heap s'.heap ∧ s'.os = s₁.os ∧ AllBare s'.gens
theorem spec_callT {P : Program} {w : World} {K : PySem.W.Frag} {mg mb : Str → Option Value} {k : Nat} {fa c T : Addr} {fd : FuncData} {ps : List Str} {sp : Sp} {s₁ : Shared} {vals : List Value} {ds : List WData} {R : PySem.W.WRecords} {cl : Str → Option Addr} {d0 : WData}
    (KX : K.In s₁.heap) (ns : s₁.heap.Ns mainGlobals mg) (nb : s₁.heap.Ns builtinsNs mb) (bb : ∀ x : Str, x ≠ "__name__" → mb x = bootBuiltins x) (lim : s₁.heap.NoLimit) (g0 : s₁.gens = #[])
    (hT : s₁.heap.get? T = some (PySem.W.tabObj #[])) (nT : K.lookup T = none) (C : PySem.W.CodeHd s₁.heap c T) (bo : BuiltinsObj s₁.heap mg)
    (wl : WellAll w.params s₁.heap vals ds) (pl : plWs ds = true) (wt : ∀ d ∈ ds, d.weight ≤ 1048576) (hr : Room k callerA)
    (F : ∀ base : Heap, K.In base → base.Ns mainGlobals mg → LamX.TabB base mg c T → FnOk P w K mg base CX0 k fa fd ps sp) (bind : ∀ (s : Shared) (us : List Value), us.length = ps.length → BindsTo s fd ⟨us, []⟩ (ps.zip us)) (len : ds.length = ps.length)
    (hsp : ∀ (H0 H : Hp) (xs : List V), Same H0 H → H T = some (.tbl #[]) → DwAll K H0 xs ds → sp xs H (fun v H' => Dw K H' v d0) E0) :
    codeAny (model P w) callerA (.call (.ref fa) ⟨vals, []⟩) (EndOk R cl d0 s₁) s₁ := by
  obtain ⟨A, okA, ar⟩ := area_all ds vals wl pl wt
  obtain ⟨H, hHT, sm, tr, ok, inK, only⟩ := argsT (P := P) (w := w) (K := K) ar hT nT
  have KB : K.In (hidT s₁.heap H) := by
    intro b o e
    refine hidT_get (KX b o e) ?_
    cases q : H b with
    | none => rfl
    | some u => rw [inK b u q] at e; cases e
  have M : Mod K mg (hidT s₁.heap H) := ⟨KB, tr.ns ns, ⟨mb, tr.ns nb, bb⟩, tr.lim lim⟩
  have start0 : Env0 P w K mg (hidT s₁.heap H) callerA [] s₁ H := by
    refine ⟨rfl, M, fun b o => of_hidT, Nat.le_of_eq (hidT_size s₁.heap H), trivial, ?_, ok, .of_eq g0⟩
    intro b z
    cases z
  have run := (F _ KB (tr.ns ns) (tr.tab hT C ns bo)).run callerA [] s₁ H ⟨vals, []⟩ vals (vals.map toV) _ _ hr start0 (bind s₁ vals (by rw [wellAll_len wl]; exact len)) (vals_toV okA) (hsp _ H _ sm hHT (dw_all KX ar ds vals wl pl okA))
  refine codeAny_mono run fun r s' x => ?_
  match r, x with
  | .error e, x => exact False.elim x
  | .ok .next, x => exact False.elim x
  | .ok .brk, x => exact False.elim x
  | .ok .cont, x => exact False.elim x
  | .ok (.ret u), ⟨v, H', os, bare, un, ok', rv, q⟩ =>
    obtain ⟨more, hmore⟩ := un.tbls T #[] hHT
    have grown : s'.heap.get? T = some (PySem.W.tabObj (#[] ++ more)) := ok' T _ hmore
    have stays : ∀ b o, b ≠ T → s₁.heap.get? b = some o → s'.heap.get? b = some o := by
      intro b o nb e
      rcases only b nb with z | ⟨ob, u3, z⟩
      · exact un.keep b o e z (fun y => nomatch y) (fun y => nomatch y)
      · have y1 := (ok b _ z).1
        have y2 := (ok' b _ (un.frzs b ob u3 z)).1
        rw [e] at y1
        injection y1 with y1
        rw [y1]
        exact y2
    have K' : K.In s'.heap := by
      intro b o e
      refine stays b o (fun z => ?_) (KX b o e)
      rw [z, nT] at e
      cases e
    obtain ⟨as, rd⟩ := Dw.reads (R := R) (cl := cl) ok' K' d0 v u q rv
    refine ⟨u, as, rfl, rd, ⟨?_, ?_⟩, os, bare⟩
    · intro b o e
      by_cases hb : b = T
      · subst hb
        rw [hT] at e
        injection e with e
        subst e
        exact .inr (.inl ⟨(C.tab hT).isCodeTable, rfl, #[], more, rfl, grown⟩)
      · exact .inl (stays b o hb e)
    · intro b o e
      by_cases hb : b = T
      · exact ⟨_, hb ▸ grown⟩
      · exact ⟨o, stays b o hb e⟩
/-- the row's goal, from the promise of its def; x: the def that makes the lambda; cP: its code object and table in the written part -/
theorem walk_specT {r : OpenSpec} {k : Nat} {q : Program} {loose : List Str} {XP : (Str → Option Value) → Heap → Prop} {YP : World → Heap → Prop} {d : DefRec} {K : Params → PySem.W.Frag} {ps : List Str} {sp : PySem.W.Frag → Sp} {x : Str} {cP : PySem.W.Frag → Addr × Addr}
    (said : r.wellSaid = true) (nodef : d.params.defaults = []) (len : r.args.length = ps.length) (hr : Room k callerA) (hY : ∀ (w : World) (h : Heap), YP w h → (K w.params).In h)
    (rec : ((recsOf q).find? (fun e => e.name == x)).isSome = true) (tab : ∀ Pm, PySem.W.tabIn (K Pm) x = some (cP (K Pm))) (noK : ∀ Pm, (K Pm).lookup (cP (K Pm)).2 = none)
    (F : ∀ (w : World) (mg : Str → Option Value) (fa : Addr) (h : Heap), YP w h → (K w.params).In h → h.Ns mainGlobals mg → mg d.name = some (.ref fa) → ∃ fd : FuncData, (∀ (s : Shared) (us : List Value), us.length = ps.length → BindsTo s fd ⟨us, []⟩ (ps.zip us)) ∧
      ∀ base : Heap, (K w.params).In base → base.Ns mainGlobals mg → LamX.TabB base mg (cP (K w.params)).1 (cP (K w.params)).2 → FnOk r.prog w (K w.params) mg base CX0 k fa fd ps (sp (K w.params)))
    (hsp : ∀ (K : PySem.W.Frag) (H0 H : Hp) (xs : List V) (a : Codec.denoteAll r.args), Same H0 H → H (cP K).2 = some (.tbl #[]) → Codec.withinAll r.args a = true → Codec.app r.args r.asked a = true → DwAll K H0 xs (Codec.encAll r.args a) →
      sp K xs H (fun v H' => Dw K H' v (r.ret.enc (Codec.app r.args r.f a))) E0) : PySem.W.WalkOS q loose XP YP r d [] (fun f vs => PySem.call f vs) := by
  intro w s₀ s₁ mg mb G Y fa o pm cd doc dV kV ho hd hcd hD hmg g0 args vals as pre lay rd wl lo
  obtain ⟨a, dec, ask⟩ := PySem.W.os_pre_some pre
  obtain ⟨enc, within⟩ := Codec.encAll_of_decAll r.args args a dec
  subst enc
  obtain ⟨fd, bind, ok⟩ := F w mg fa _ Y (hY w _ Y) G.T.g hmg
  obtain ⟨dc, rec⟩ := Option.isSome_iff_exists.mp rec
  obtain ⟨C, hT⟩ := PySem.W.tab_of (c := (cP (K w.params)).1) (P := (cP (K w.params)).2) G.T (hY w _ Y) rec (tab w.params)
  have run := spec_callT (R := []) (cl := classAt s₀.heap) (d0 := r.ret.enc (Codec.app r.args r.f a)) (hY w _ Y) G.T.g G.T.b G.T.builtins G.T.nolimit g0 hT (noK w.params) C G.T.bmain wl (pl_encAll _ _) (layable_weight lay) hr ok bind (by rw [encAll_len]; exact len)
    (fun H0 H xs sm hP hS => hsp (K w.params) H0 H xs a sm hP within ask hS)
  refine PySem.W.enter_call (codeAny_mono run fun r' s' x => ?_)
  obtain ⟨u, as', rfl, x1, x2, x3, x4⟩ := x
  refine ⟨.inl ⟨u, _, as', rfl, fun _ => rfl, x1, (OpenSpec.post_iff said within _ _).mpr rfl, fun z => ?_⟩, x2, x3, x4⟩
  cases z
end
def qL : Str := ("cheapest" : Str) ++ (".<locals>." : Str) ++ ("<lambda>" : Str)
def tabsK (K : PySem.W.Frag) : List (Addr × Str) := [((cPK K).2, qL)]
def sp_cheapest (K : PySem.W.Frag) : Sp := fun vs H Q _ => ∃ (a : Addr) (rs : List Addr) (rows : List Row), vs = [.ref a] ∧ LamX.Tabs (tabsK K) H ∧ H a = some (.lst (rs.map V.ref)) ∧ Paired (fun r row => ∃ L, H r = some (.tup [.int (row.1 : Nat), .ref L])) rs rows ∧ rows ≠ [] ∧
  ∀ (H' : Hp) (i : Nat) (r : Addr), LamX.ExtN H H' → LamX.Tabs (tabsK K) H' → rs[i]? = some r → rows[i]? = some (cheapest rows) → Q (.ref r) H'
/-- the first of the least, place by place -/
theorem best_at {rows : List Row} {ks : List Int} (hk : ∀ (i : Nat) (r : Row), rows[i]? = some r → ks.getD i 0 = (r.1 : Nat)) : ∀ k, k < rows.length → rows[argBest (fun i j => decide (ks.getD i 0 < ks.getD j 0)) k]? = some (cheapest (rows.take (k + 1)))
  | 0, h => by
    have e : rows[0]? = some rows[0] := List.getElem?_eq_getElem h
    rw [take_at e]
    exact e
  | k + 1, h => by
    have ih := best_at hk k (by omega)
    have e : rows[k + 1]? = some rows[k + 1] := List.getElem?_eq_getElem h
    have ne : rows.take (k + 1) ≠ [] := by
      intro z
      have := congrArg List.length z
      rw [List.length_take, List.length_nil] at this
      omega
    rw [take_at e, cheapest_snoc ne]
    have k1 := hk _ _ e
    have k2 := hk _ _ ih
    show rows[if (decide (ks.getD (k + 1) 0 < ks.getD (argBest (fun i j => decide (ks.getD i 0 < ks.getD j 0)) k) 0)) = true then k + 1 else argBest (fun i j => decide (ks.getD i 0 < ks.getD j 0)) k]? = _
    rw [k1, k2]
    by_cases c : (rows[k + 1]).1 < (cheapest (rows.take (k + 1))).1
    · rw [if_pos c, if_pos (decide_eq_true (by omega))]
      exact e
    · rw [if_neg c, if_neg (by rw [decide_eq_true_eq]; omega)]
      exact ih
theorem ok_cheapest {P : Program} {w : World} {K : PySem.W.Frag} {mg : Str → Option Value} {base : Heap} (T : Txt K mg base) {f : Addr} {fd : FuncData} (D : Def K mg "cheapest" s_cheapest ["rows"] f fd) : FnOk P w K mg base CX0 1 f fd ["rows"] (sp_cheapest K) := by
  refine okC D.F (T.lamc f fd D) sc_cheapest (fun vs H Q E h => ?_) (fun A outer s H vs Q E hr h => ⟨_, pss_one (ps_ret (pe_minK (T := tabsK K) (by rfl) T.b_min T.lam rfl (List.mem_singleton.mpr rfl) (fun p hp _ => by rw [List.mem_singleton.mp hp]; rfl) hr (pa_cons (pv 0) pa_nil)
    rfl (by decide +kernel) rfl rfl rfl (fun _ _ _ _ _ _ => rfl) rfl (by decide +kernel) (by decide +kernel))), ?_⟩)
  · obtain ⟨a, rs, rows, rfl, _⟩ := h
    rfl
  · obtain ⟨a, rs, rows, rfl, tb, ha, hp, ne, k⟩ := h
    have hl : 0 < rows.length := List.length_pos_iff.mpr ne
    have hk : ∀ (i : Nat) (r : Row), rows[i]? = some r → (rows.map fun r => ((r.1 : Nat) : Int)).getD i 0 = (r.1 : Nat) := by
      intro i r e
      rw [List.getD_eq_getElem?_getD, List.getElem?_map, e]
      rfl
    refine ⟨_, rfl, tb, a, rs, rows.map fun r => ((r.1 : Nat) : Int), rfl, SqL.of ha, by rw [hp.length]; exact hl, fun i r hi => ?_, fun H2 eN T2 r hr2 => ?_⟩
    · obtain ⟨row, e, L, q⟩ := paired_at hp hi
      rw [hk i row e]
      exact ⟨_, SqT.of q⟩
    · have z := best_at hk (rows.length - 1) (by omega)
      rw [show rows.length - 1 + 1 = rows.length by omega, List.take_length] at z
      rw [hp.length] at hr2
      exact k H2 _ r eN T2 hr2 z
theorem has_cheapest {P : Program} {w : World} {K : PySem.W.Frag} {mg : Str → Option Value} {base : Heap} (T : Txt K mg base) : Has P w K mg base "cheapest" 1 ["rows"] (sp_cheapest K) :=
  has_of T.d_cheapest fun f fd D => ok_cheapest T D
/-! ### rows in the heap: a list of tuples, each a cost and a list of notes -/
def RowAt (H : Hp) (r : Addr) (row : Row) : Prop := ∃ L, H r = some (.tup [.int (row.1 : Nat), .ref L]) ∧ NotesAt H L row.2
theorem ExtN.notes {H H' : Hp} {a : Addr} {ns : List Sw68.Note} (s : LamX.ExtN H H') (h : NotesAt H a ns) : NotesAt H' a ns := by
  obtain ⟨rs, h1, h2⟩ := h
  exact ⟨rs, s _ _ h1 (fun _ z => nomatch z), L2.Paired.mapP h2 fun r n h => s _ _ h (fun _ z => nomatch z)⟩
theorem ExtN.row {H H' : Hp} {r : Addr} {row : Row} (s : LamX.ExtN H H') (h : RowAt H r row) : RowAt H' r row := by
  obtain ⟨L, h1, h2⟩ := h
  exact ⟨L, s _ _ h1 (fun _ z => nomatch z), ExtN.notes s h2⟩
/-- all but the thing at l and the tables stay -/
def ExtX (l : Addr) (H H' : Hp) : Prop := ∀ b o, H b = some o → (∀ ps, o ≠ .tbl ps) → b ≠ l → H' b = some o
theorem ExtX.refl {l : Addr} {H : Hp} : ExtX l H H := fun _ _ h _ _ => h
theorem ExtX.ext {l : Addr} {H H1 H2 : Hp} (a : ExtX l H H1) (b : LamX.ExtN H1 H2) : ExtX l H H2 := fun x o h n ne => b x o (a x o h n ne) n
theorem ExtX.upd {l : Addr} {H H1 : Hp} {o : HO} (a : ExtX l H H1) : ExtX l H (L2.upd H1 l o) := fun x o' h n ne => by
  rw [upd_ne ne]
  exact a x o' h n ne
theorem extN_of {H H' : Hp} (s : Same H H') : LamX.ExtN H H' := fun b o h _ => s b o h
theorem extN_upd {H H' : Hp} {p : Addr} {o : HO} (s : LamX.ExtN H H') (hp : H p = none) : LamX.ExtN H (L2.upd H' p o) := fun b o' h n => by
  rw [upd_ne (fun z => by rw [z, hp] at h; cases h)]
  exact s _ _ h n
/-- a list written, tables stay tables -/
theorem tabs_upd {T : List (Addr × Str)} {H : Hp} {l : Addr} {ys zs : List V} (t : LamX.Tabs T H) (h : H l = some (.lst ys)) : LamX.Tabs T (L2.upd H l (.lst zs)) := by
  intro p hp
  obtain ⟨ps, h1, h2, h3⟩ := t p hp
  refine ⟨ps, ?_, h2, fun pos cv hc => ?_⟩
  · rw [upd_ne (ne_of h1 h (fun z => nomatch z))]
    exact h1
  · obtain ⟨c, e1, e2⟩ := h3 pos cv hc
    refine ⟨c, e1, ?_⟩
    rw [upd_ne (ne_of e2 h (fun z => nomatch z))]
    exact e2
theorem notes_upd {H : Hp} {r B : Addr} {b : List Sw68.Note} {ys zs : List V} (h : NotesAt H r b) (ne : r ≠ B) (hB : H B = some (.lst ys)) : NotesAt (L2.upd H B (.lst zs)) r b := by
  obtain ⟨rs, h1, h2⟩ := h
  refine ⟨rs, by rw [upd_ne ne]; exact h1, L2.Paired.mapP h2 fun x n h => ?_⟩
  rw [upd_ne (ne_of h hB (fun z => nomatch z))]
  exact h
theorem drop_back {ns : List Int} {i : Nat} {n : Int} (hi : i < ns.length) (h : ns[ns.length - 1 - i]? = some n) : ns.drop (ns.length - (i + 1)) = n :: ns.drop (ns.length - i) := by
  have e : ns.length - (i + 1) = ns.length - 1 - i := by omega
  rw [e, drop_at h, show ns.length - 1 - i + 1 = ns.length - i by omega]
theorem yes_rd {σ : L2.St} {H : Hp} {Qc : Bool → Hp → Prop} (k : Qc true H) : tYes σ H Qc := k
def sp_spelled (K : PySem.W.Frag) : Sp := fun vs H Q _ => ∃ (c : Sw68.Costs) (kk : Int) (a : Addr) (ns : List Int), vs = [.int (c.sign : Nat), .int (c.apart : Nat), .int (c.far : Nat), .int (c.same : Nat), .int kk, .ref a] ∧ SqL K H a (ns.map V.int) ∧ ns.length ≤ 40 ∧ (∀ n ∈ ns, 0 ≤ n ∧ n ≤ 127) ∧ CostOk c ∧ LamX.Tabs (tabsK K) H ∧
  ∀ (H' : Hp) (r : Addr), RowAt H' r (cheapest (rowsOf c kk ns)) → Q (.ref r) H'
theorem ok_spelled {P : Program} {w : World} {K : PySem.W.Frag} {mg : Str → Option Value} {base : Heap} (T : Txt K mg base) {f : Addr} {fd : FuncData} (D : Def K mg "spelled" s_spelled ["sign", "apart", "far", "same", "in_key", "numbers"] f fd) : FnOk P w K mg base CX0 4 f fd ["sign", "apart", "far", "same", "in_key", "numbers"] (sp_spelled K) := by
  refine D.F.ok sc_spelled (fun vs H Q E h => ?_) (fun cdv A outer s H vs Q E hr h => ⟨_, (pss_cons (ps_set (i := 6) sc_spelled.nd rfl (Or.inl rfl) (pe_lst (pa_cons (pe_tup (pa_cons pe_int (pa_cons (pe_lst pa_nil) pa_nil))) pa_nil)))
      (pss_cons (ps_for PassesOwn.never rfl (pi_reversed (by rfl) T.b_reversed (pa_cons (pv 5) pa_nil)) (pg_name (i := 7) sc_spelled.nd rfl (Or.inl rfl))
      (pss_cons (ps_set (i := 8) sc_spelled.nd rfl (Or.inl rfl) (pe_lst pa_nil))
      (pss_cons (ps_for PassesOwn.never rfl (pi_list (pe_has (has_spellings_of T) (hr.mono (by decide)) (pa_cons (pv 7) pa_nil))) (pg_name (i := 9) sc_spelled.nd rfl (Or.inr rfl))
      (pss_cons (ps_set (i := 10) sc_spelled.nd rfl (Or.inl rfl) (pe_has (has_cheapest T) (hr.mono (by decide)) (pa_cons (pe_lc (own := [("behind", 11)]) (g := (gName 11)) (tt := tYes) (te := (tCall (sp_put_ahead K) [] E0 (tCons (tVar 1) (tCons (tVar 3) (tCons (tVar 9) (tCons (tVar 11) tNil)))))) rfl sc_spelled.nd (pi_list (pv 6)) (blkOk_by (N := ["sign", "apart", "far", "same", "in_key", "numbers", "rows", "number", "longer", "note", "row", "behind"]) (sc := defScope s_spelled) (by decide +kernel)) (fun _ _ _ _ _ => (pg_name (i := 11) sc_spelled.nd rfl (Or.inl rfl))) (fun _ _ _ _ _ => pts_nil) (fun _ _ _ _ _ => (pe_has (has_put_ahead T) (hr.mono (by decide)) (pa_cons (pv 1) (pa_cons (pv 3) (pa_cons (pv 9) (pa_cons (pv 11) pa_nil))))))) pa_nil)))
      (pss_one (ps_expr (pe_bm PySem.F.plainAttrs_list PySem.F.slot_list_append PySem.F.type_list_append mt_append (pv 8) (pa_cons (pe_tup (pa_cons (pe_op op_add (pe_ix ix_tup (pv 10) pe_int (fun _ _ => rfl)) (pe_has (has_note_cost T) (hr.mono (by decide)) (pa_cons (pv 0) (pa_cons (pv 2) (pa_cons (pv 4) (pa_cons (pv 9) pa_nil)))))) (pa_cons (pe_ix ix_tup (pv 10) pe_int (fun _ _ => rfl)) pa_nil))) pa_nil))))))
      (pss_one (ps_set (i := 6) sc_spelled.nd rfl (Or.inl rfl) (pv 8))))))
      (pss_one (ps_ret (pe_has (has_cheapest T) (hr.mono (by decide)) (pa_cons (pv 6) pa_nil)))))), ?_⟩)
  · obtain ⟨c, kk, a, ns, rfl, _⟩ := h
    rfl
  · obtain ⟨c, kk, a, ns, rfl, ha, hl, hb, ok, tb, k⟩ := h
    refine ⟨line (by decide), fun L0 hL0 => ⟨line (show 2 ≤ 1000000 by decide), fun r0 hr0 => ⟨line (show 1 ≤ 1000000 by decide), fun R0 hR0 => ?_⟩⟩⟩
    have s0 : Same H (L2.upd (L2.upd (L2.upd H L0 (.lst [])) r0 (.tup [.int 0, .ref L0])) R0 (.lst [.ref r0])) := Same.trans (Same.new hL0) (Same.trans (Same.new hr0) (Same.new hR0))
    refine ⟨_, rfl, a, ns.map V.int, rfl, Same.seq s0 ha, for_it walk_rev (fun i σ Hc => LamX.ExtN H Hc ∧ LamX.Tabs (tabsK K) Hc ∧ ∃ (R : Addr) (rs : List Addr) (s7 s8 s9 s10 s11 : Option V),
      σ = [some (.int (c.sign : Nat)), some (.int (c.apart : Nat)), some (.int (c.far : Nat)), some (.int (c.same : Nat)), some (.int kk), some (.ref a), some (.ref R), s7, s8, s9, s10, s11] ∧ Hc R = some (.lst (rs.map V.ref)) ∧
      Paired (RowAt Hc) rs (rowsOf c kk (ns.drop (ns.length - i)))) ?start ?stays ?turn ?after⟩
    case start =>
      refine ⟨extN_of s0, tb.ext s0, R0, [r0], _, _, _, _, _, rfl, upd_same, ?_⟩
      rw [Nat.sub_zero, List.drop_length]
      refine .cons ⟨L0, Same.new hR0 _ _ upd_same, [], Same.new hR0 _ _ (Same.new hr0 _ _ upd_same), .nil⟩ .nil
    case stays =>
      rintro i σ Hc _ ⟨eN, _⟩
      exact ExtN.seqL eN ha
    case turn =>
      rintro i x σ Hc H' hi ⟨eN, tc, R, rs, s7, s8, s9, s10, s11, rfl, hR, hp⟩ ⟨rfl, hx⟩
      rw [List.length_map] at hi hx
      rw [List.getElem?_map] at hx
      obtain ⟨n, hn, rfl⟩ := Option.map_eq_some_iff.mp hx
      have bn := hb n (List.mem_of_getElem? hn)
      have hbd : ∀ y ∈ ns.drop (ns.length - i), 0 ≤ y ∧ y ≤ 127 := fun y hy => hb y (List.mem_of_mem_drop hy)
      obtain ⟨rok1, rok2, rok3⟩ := rows_ok (c := c) (k := kk) hbd
      have dl : (ns.drop (ns.length - i)).length ≤ 40 := by
        rw [List.length_drop]
        omega
      generalize er : rowsOf c kk (ns.drop (ns.length - i)) = rows at hp rok1 rok2 rok3
      refine ⟨line (by decide), fun Lg hLg => ?_⟩
      refine ⟨_, rfl, n, rfl, bn, fun H2 B hB s2 hnB => ?_⟩
      obtain ⟨bs, hBs, hBp⟩ := hB
      have sc : Same H' H2 := Same.trans (Same.new hLg) s2
      have hLg2 : H2 Lg = some (.lst []) := s2 _ _ upd_same
      have BL : B ≠ Lg := ne_new hnB
      refine ⟨B, rfl, ⟨_, SqL.of hBs⟩, for_list (xs := bs.map V.ref) (fun j σ Hd => ExtX Lg H2 Hd ∧ LamX.Tabs (tabsK K) Hd ∧ ∃ (ls : List Addr) (s9 s10 s11 : Option V),
        σ = [some (.int (c.sign : Nat)), some (.int (c.apart : Nat)), some (.int (c.far : Nat)), some (.int (c.same : Nat)), some (.int kk), some (.ref a), some (.ref R), some (.int n), some (.ref Lg), s9, s10, s11] ∧ Hd Lg = some (.lst (ls.map V.ref)) ∧
        Paired (fun r row => ∃ L, L ≠ Lg ∧ Hd r = some (.tup [.int (row.1 : Nat), .ref L]) ∧ NotesAt Hd L row.2) ls (((Sw68.choices n).take j).map (stepR c kk rows)))
        ⟨ExtX.refl, tc.ext sc, [], _, _, _, rfl, hLg2, .nil⟩ ?_ ?_ ?_⟩
      · rintro j σ Hd _ ⟨ex, _⟩
        exact SqL.of (ex _ _ hBs (fun _ z => nomatch z) BL)
      · rintro j y σ Hd hy ⟨ex, td, ls, s9, s10, s11, rfl, hLd, hpl⟩
        obtain ⟨t, ht', rfl⟩ := ref_at hy
        obtain ⟨x, hx', htx⟩ := paired_at hBp ht'
        have eC : LamX.ExtN H' Hd := fun b o h n => ex b o (sc _ _ h) n (fun z => by rw [z, hLg] at h; cases h)
        have htd : Hd t = some (.tup (vN x)) := ex _ _ htx (fun _ z => nomatch z) (ne_of htx hLg2 (fun z => nomatch z))
        have ox := List.all_eq_true.mp (choices_ok bn.1 bn.2) x (List.mem_of_getElem? hx')
        have bx := ok_l (l := x.letter) (r := x.alt) (o := x.octave) ox
        have jl : j < 7 := by
          have h1 := (List.getElem?_eq_some_iff.mp hx').1
          have h2 := choices_few bn.1 bn.2
          omega
        have hRd : Hd R = some (.lst (rs.map V.ref)) := eC _ _ hR (fun _ z => nomatch z)
        refine ⟨_, rfl, R, rfl, ⟨_, SqL.of hRd⟩, fun D hD => lc_list (xs := rs.map V.ref) (fun m He => Same Hd He ∧ ∃ ps : List Addr, He D = some (.lst (ps.map V.ref)) ∧
          Paired (fun p row => ∃ L, Hd L = none ∧ L ≠ D ∧ He p = some (.tup [.int (row.1 : Nat), .ref L]) ∧ NotesAt He L row.2) ps ((rows.take m).map (pre c x))) ⟨Same.new hD, [], upd_same, .nil⟩ ?_ ?_ ?_⟩
        · rintro m He _ ⟨sd, _⟩
          exact SqL.of (sd _ _ hRd)
        · rintro m z He hz ⟨sd, ps, hDe, hpp⟩
          obtain ⟨r, hr', rfl⟩ := ref_at hz
          obtain ⟨row, hrow, L, hrL, hNL⟩ := paired_at hp hr'
          obtain ⟨q1, q2⟩ := rok3 row (List.mem_of_getElem? hrow)
          have eE : LamX.ExtN H' He := LamX.ExtN.trans eC (extN_of sd)
          have lp : ps.length ≤ 7 := by
            rw [hpp.length, List.length_map, List.length_take]
            omega
          refine ⟨rfl, ?_⟩
          refine yes_rd ?_
          refine iteT ⟨_, rfl, _, rfl, _, rfl, _, rfl, c, t, r, L, x, row, rfl, sd _ _ htd, bx, eE _ _ hrL (fun _ z => nomatch z), ExtN.notes eE hNL, q2, by omega, ok, fun H4 p L' hp4 hN4 s4 hn4 => ⟨ps.map V.ref, s4 _ _ hDe, line (by rw [List.length_map]; omega), ?_⟩⟩
          have LD : L' ≠ D := fun z => by rw [z, hDe] at hn4; cases hn4
          have Ld : Hd L' = none := by
            cases e : Hd L' with
            | none => rfl
            | some o => rw [sd _ _ e] at hn4; cases hn4
          refine ⟨Same.upd (Same.trans sd s4) hD, ps ++ [p], upd_same.trans (by rw [List.map_append]; rfl), ?_⟩
          rw [take_at hrow, List.map_append]
          refine Paired.snoc (L2.Paired.mapP hpp fun p' row' h => ?_) ?_
          · obtain ⟨L1, g1, g2, g3, g4⟩ := h
            refine ⟨L1, g1, g2, ?_, notes_upd (Same.notes s4 g4) g2 (s4 _ _ hDe)⟩
            rw [upd_ne (ne_of g3 hDe (fun z => nomatch z))]
            exact s4 _ _ g3
          · refine ⟨L', Ld, LD, ?_, notes_upd hN4 LD (s4 _ _ hDe)⟩
            rw [upd_ne (ne_of hp4 (s4 _ _ hDe) (fun z => nomatch z))]
            exact hp4
        · rintro He ⟨sd, ps, hDe, hpp⟩
          rw [List.length_map, hp.length, List.take_length] at hpp
          refine ⟨D, ps, rows.map (pre c x), rfl, td.ext sd, hDe, L2.Paired.mapP hpp fun p row h => ?_, by simpa using rok1, fun H3 i' r e3 t3 hri hrow => ?_⟩
          · obtain ⟨L, _, _, g3, _⟩ := h
            exact ⟨L, g3⟩
          · obtain ⟨row, hrow', L, g1, g2, g3, g4⟩ := paired_at hpp hri
            rw [hrow] at hrow'
            injection hrow' with hrow'
            subst hrow'
            have LL : L ≠ Lg := fun z => by rw [z, hLd] at g1; cases g1
            have eD : LamX.ExtN Hd H3 := LamX.ExtN.trans (extN_of sd) e3
            have g3' := e3 _ _ g3 (fun _ z => nomatch z)
            have htd3 := eD _ _ htd (fun _ z => nomatch z)
            have hL3 : H3 Lg = some (.lst (ls.map V.ref)) := eD _ _ hLd (fun _ z => nomatch z)
            have ll : ls.length ≤ 7 := by
              rw [hpl.length, List.length_map, List.length_take]
              omega
            refine ⟨_, rfl, .inl ⟨rfl, _, SqL.of hL3⟩, ?_⟩
            refine ⟨_, rfl, r, _, 0, _, rfl, rfl, SqT.of g3', rfl, ?_⟩
            refine ⟨_, rfl, _, rfl, _, rfl, _, rfl, c, kk, t, x, rfl, htd3, bx, ok, _, _, rfl, rfl, ?_⟩
            refine ⟨_, rfl, r, _, 1, _, rfl, rfl, SqT.of g3', rfl, line (show 2 ≤ 1000000 by decide), fun p hp1 => ⟨Lg, ls.map V.ref, .ref p, rfl, rfl, Same.new hp1 _ _ hL3, line (by rw [List.length_map]; omega), ?_⟩⟩
            have sN : Same H3 (L2.upd H3 p (.tup [.int (((cheapest (rows.map (pre c x))).1 : Nat) + (Sw68.own c kk x : Nat)), .ref L])) := Same.new hp1
            have hLN := sN _ _ hL3
            have stp : stepR c kk rows x = ((cheapest (rows.map (pre c x))).1 + Sw68.own c kk x, (cheapest (rows.map (pre c x))).2) := rfl
            refine ⟨ExtX.upd (ExtX.ext (ExtX.ext ex eD) (extN_of sN)), tabs_upd (t3.ext sN) hLN, ls ++ [p], some (.ref t), some (.ref r), _, rfl, upd_same.trans (by rw [List.map_append]; rfl), ?_⟩
            rw [take_at hx', List.map_append]
            refine Paired.snoc (L2.Paired.mapP hpl fun r' row' h => ?_) ?_
            · obtain ⟨L1, f1, f2, f3⟩ := h
              refine ⟨L1, f1, ?_, notes_upd (Same.notes sN (ExtN.notes eD f3)) f1 hLN⟩
              rw [upd_ne (ne_of f2 hLd (fun z => nomatch z))]
              exact sN _ _ (eD _ _ f2 (fun _ z => nomatch z))
            · refine ⟨L, LL, ?_, notes_upd (Same.notes sN (ExtN.notes e3 g4)) LL hLN⟩
              rw [upd_ne (ne_of upd_same hLN (fun z => nomatch z)), upd_same, stp, Int.natCast_add]
      · rintro σ Hd ⟨ex, td, ls, s9, s10, s11, rfl, hLd, hpl⟩
        rw [List.length_map, hBp.length, List.take_length] at hpl
        have eC : LamX.ExtN H' Hd := fun b o h n => ex b o (sc _ _ h) n (fun z => by rw [z, hLg] at h; cases h)
        refine ⟨_, rfl, LamX.ExtN.trans eN eC, td, Lg, ls, _, _, _, _, _, rfl, hLd, ?_⟩
        rw [drop_back hi hn]
        show Paired _ ls ((Sw68.choices n).map (stepR c kk (rowsOf c kk (ns.drop (ns.length - i)))))
        rw [er]
        refine L2.Paired.mapP hpl fun r row h => ?_
        obtain ⟨L, _, f2, f3⟩ := h
        exact ⟨L, f2, f3⟩
    case after =>
      rintro σ Hc ⟨eN, tc, R, rs, s7, s8, s9, s10, s11, rfl, hR, hp⟩
      rw [List.length_map, Nat.sub_self, List.drop_zero] at hp
      refine ⟨_, rfl, R, rs, rowsOf c kk ns, rfl, tc, hR, L2.Paired.mapP hp fun r row h => ?_, (rows_ok (c := c) (k := kk) hb).1, fun H' i r e3 t3 hri hrow => ?_⟩
      · obtain ⟨L, h1, _⟩ := h
        exact ⟨L, h1⟩
      · obtain ⟨row, hrow', h⟩ := paired_at hp hri
        rw [hrow] at hrow'
        injection hrow' with hrow'
        subst hrow'
        exact k H' r (ExtN.row e3 h)
theorem has_spelled {P : Program} {w : World} {K : PySem.W.Frag} {mg : Str → Option Value} {base : Heap} (T : Txt K mg base) : Has P w K mg base "spelled" 4 ["sign", "apart", "far", "same", "in_key", "numbers"] (sp_spelled K) :=
  has_of T.d_spelled fun f fd D => ok_spelled T D
/-- counted: a new list, how many ahead -/
def sp_counted (K : PySem.W.Frag) : Sp := fun vs H Q _ => ∃ (a : Addr) (xs : List Int), vs = [.ref a] ∧ (SqL K H a (xs.map V.int) ∨ SqT K H a (xs.map V.int)) ∧ xs.length ≤ 100000 ∧
  ∀ (H' : Hp) (p : Addr), H' p = some (.lst (((xs.length : Int) :: xs).map V.int)) → Same H H' → Q (.ref p) H'
theorem ok_counted {P : Program} {w : World} {K : PySem.W.Frag} {mg : Str → Option Value} {base : Heap} (T : Txt K mg base) {f : Addr} {fd : FuncData} (D : Def K mg "counted" s_counted ["numbers"] f fd) : FnOk P w K mg base CX0 1 f fd ["numbers"] (sp_counted K) := by
  refine D.F.ok sc_counted (fun vs H Q E h => ?_) (fun cdv A outer s H vs Q E hr h => ⟨_, (pss_one (ps_ret (pe_op op_cat (pe_lst (pa_cons (pe_callB call_len_seq (by rfl) T.b_len PySem.boot_len (pa_cons (pv 0) pa_nil)) pa_nil)) (pe_callTy call_list_of (by rfl) T.b_list (by decide +kernel) (pa_cons (pv 0) pa_nil))))), ?_⟩)
  · obtain ⟨a, xs, rfl, _⟩ := h
    rfl
  · obtain ⟨a, xs, rfl, hs, hl, k⟩ := h
    simp only [tSeq, tAsg, tIfS, tRet, tNext, tOp, tUn, tTest, tB, tNot, tAnd, tOr, tAndV, tOrV, tNotV, tChain, tVar, tC, tCons, tNil, tCall, tCB, tIf, tDrop, gName, tAug, ipI, rI, rI0, rU, CMul, CDiv, rEq, rNe, scal, tTab, tInTab, cxOf_K, L2.start, Nat.reduceAdd, Nat.reduceSub, Nat.sub_self, List.map_cons, List.map_nil, List.length_cons, List.length_nil, List.replicate, List.append_nil, List.cons_append, List.nil_append, List.set_cons_zero, List.set_cons_succ, List.getElem?_cons_zero, List.getElem?_cons_succ, Option.some.injEq, List.cons.injEq, V.int.injEq, V.bl.injEq, V.ref.injEq, and_true, true_and, exists_eq_left, and_assoc, exists_eq_left', exists_and_left, decide_eq_true_eq, Bool.true_eq_false, if_true, if_false, tLst]
    refine ⟨_, hs, line (by decide), fun p hp => ⟨xs.map V.int, hs.imp (Same.seq (Same.new hp)) (Same.tup (Same.new hp)), fun q hq => ?_⟩⟩
    have np : q ≠ p := ne_new hq
    refine ⟨p, q, _, _, rfl, rfl, (upd_ne np.symm).trans upd_same, upd_same, line (by simp; omega), fun p' hp' => k _ p' ?_ ?_⟩
    · rw [upd_same]
      simp
    · exact ((Same.new hp).trans (Same.new hq)).trans (Same.new hp')
theorem has_counted {P : Program} {w : World} {K : PySem.W.Frag} {mg : Str → Option Value} {base : Heap} (T : Txt K mg base) : Has P w K mg base "counted" 1 ["numbers"] (sp_counted K) :=
  has_of T.d_counted fun f fd D => ok_counted T D
theorem ne_refsS {H : Hp} {l a : Addr} {n : Int} {xs : List V} {rs : List Addr} (hl : H l = some (.lst (.int n :: xs))) (ha : H a = some (.lst (rs.map V.ref))) : a ≠ l := by
  intro z
  rw [z, hl] at ha
  injection ha with h1
  injection h1 with h1
  cases rs with
  | nil => cases h1
  | cons r rs =>
    rw [List.map_cons] at h1
    injection h1 with h1
    cases h1
theorem flatS_length : ∀ xs : List Sw68.Note, (xs.flatMap fun x => 3 :: outN x).length = 4 * xs.length
  | [] => rfl
  | x :: l => by
    rw [List.flatMap_cons, List.length_append, flatS_length l, List.length_cons]
    show 4 + 4 * l.length = 4 * (l.length + 1)
    omega
def sp_spell (K : PySem.W.Frag) : Sp := fun vs H Q _ => ∃ (c : Sw68.Costs) (kk : Int) (a : Addr) (ns : List Int), vs = [.int (c.sign : Nat), .int (c.apart : Nat), .int (c.far : Nat), .int (c.same : Nat), .int kk, .ref a] ∧ SqL K H a (ns.map V.int) ∧ CostOk c ∧ LamX.Tabs (tabsK K) H ∧
  ∀ (H' : Hp) (p : Addr), H' p = some (.lst ((ansS c kk ns).map V.int)) → Q (.ref p) H'
theorem ok_spell {P : Program} {w : World} {K : PySem.W.Frag} {mg : Str → Option Value} {base : Heap} (T : Txt K mg base) {f : Addr} {fd : FuncData} (D : Def K mg "spell" s_spell ["sign", "apart", "far", "same", "in_key", "numbers"] f fd) : FnOk P w K mg base CX0 5 f fd ["sign", "apart", "far", "same", "in_key", "numbers"] (sp_spell K) := by
  refine D.F.ok sc_spell (fun vs H Q E h => ?_) (fun cdv A outer s H vs Q E hr h => ⟨_, (pss_cons (ps_if (PW.pt (pw_or (pt_not (pt_val (pe_has (has_is_key T) (hr.mono (by decide)) (pa_cons (pv 4) pa_nil)))) (pw_or (pt_cmpR op_gt (pe_callB call_len_seq (by rfl) T.b_len PySem.boot_len (pa_cons (pv 5) pa_nil)) (pe_globI T.c_MOST_NUMBERS) (nomark _)) (pw_or1 (pt_not (pt_val (pe_has (has_are_sounds T) (hr.mono (by decide)) (pa_cons (pv 5) pa_nil)))))))) (pss_one (ps_ret (pe_lst (pa_cons (pe_globI T.c_REFUSED) pa_nil)))) pss_nil)
      (pss_cons (ps_set (i := 6) sc_spell.nd rfl (Or.inl rfl) (pe_has (has_spelled T) (hr.mono (by decide)) (pa_cons (pv 0) (pa_cons (pv 1) (pa_cons (pv 2) (pa_cons (pv 3) (pa_cons (pv 4) (pa_cons (pv 5) pa_nil))))))))
      (pss_cons (ps_set (i := 7) sc_spell.nd rfl (Or.inl rfl) (pe_lst (pa_cons (pe_ix ix_tup (pv 6) pe_int (fun _ _ => rfl)) pa_nil)))
      (pss_cons (ps_for PassesOwn.never rfl (pi_list (pe_ix ix_tup (pv 6) pe_int (fun _ _ => rfl))) (pg_name (i := 8) sc_spell.nd rfl (Or.inl rfl))
      (pss_one (ps_expr (pe_bm PySem.F.plainAttrs_list PySem.F.slot_list_extend PySem.F.type_list_extend mt_extend (pv 7) (pa_cons (pe_has (has_counted T) (hr.mono (by decide)) (pa_cons (pv 8) pa_nil)) pa_nil)))))
      (pss_one (ps_ret (pv 7))))))), ?_⟩)
  · obtain ⟨c, kk, a, ns, rfl, _⟩ := h
    rfl
  · obtain ⟨c, kk, a, ns, rfl, ha, ok, tb, k⟩ := h
    have ref : (Sw68.keyOk kk && (decide (ns.length ≤ Sw68.LONG) && soundsOk ns)) = false → ∀ (σ : L2.St) (H' : Hp), tLst (tCons (tC (V.int (-1))) tNil) σ H' Q := fun z σ H' =>
      ⟨line (by decide), fun p hp => k _ p (by rw [upd_same, ansS_no z]; rfl)⟩
    refine ⟨_, rfl, kk, rfl, _, rfl, ?_⟩
    cases c1 : Sw68.keyOk kk with
    | false => exact iteT (iteT (ref (by rw [c1] <;> rfl) _ _))
    | true =>
      refine iteF ⟨_, rfl, a, _, rfl, .inl ha, _, _, rfl, rfl, _, rfl, ?_⟩
      rw [List.length_map]
      by_cases c2 : ns.length ≤ 40
      · refine iteN (by rw [decide_eq_true_eq]; omega) ⟨_, rfl, a, ns, rfl, ha, _, rfl, ?_⟩
        cases c3 : soundsOk ns with
        | false => exact iteT (ref (by rw [c1, c3, Bool.and_false] <;> rfl) _ _)
        | true =>
          refine iteF ?_
          have hb : ∀ n ∈ ns, 0 ≤ n ∧ n ≤ 127 := by
            intro n hn
            have z := List.all_eq_true.mp c3 n hn
            rw [Bool.and_eq_true, decide_eq_true_eq, decide_eq_true_eq] at z
            exact z
          obtain ⟨q0, _, q3⟩ := rows_ok (c := c) (k := kk) hb
          obtain ⟨q1, q2⟩ := q3 _ (cheapest_mem q0)
          refine ⟨_, rfl, _, rfl, _, rfl, _, rfl, _, rfl, _, rfl, c, kk, a, ns, rfl, ha, c2, hb, ok, tb, fun H1 r hrow => ?_⟩
          have ans := ansS_rows (c := c) c1 c2 c3
          generalize cheapest (rowsOf c kk ns) = row at hrow q1 q2 ans
          obtain ⟨L, hr0, rs, hL, hp⟩ := hrow
          refine ⟨_, rfl, r, _, 0, _, rfl, rfl, SqT.of hr0, rfl, line (show 1 ≤ 1000000 by decide), fun l hl0 => ?_⟩
          have sl : Same H1 (L2.upd H1 l (.lst [.int (row.1 : Nat)])) := Same.new hl0
          have hl1 : L2.upd H1 l (.lst [.int (row.1 : Nat)]) l = some (.lst [.int (row.1 : Nat)]) := upd_same
          revert sl hl1
          generalize L2.upd H1 l (.lst [.int (row.1 : Nat)]) = H2
          intro sl hl1
          have hL2 := sl _ _ hL
          refine ⟨_, rfl, r, _, 1, _, rfl, rfl, SqT.of (sl _ _ hr0), rfl, L, rfl, ⟨_, SqL.of hL2⟩, for_list (xs := rs.map V.ref) (fun i σ Hc => SameB l H2 Hc ∧ ∃ (acc : List Int) (s8 : Option V),
            σ = [some (.int (c.sign : Nat)), some (.int (c.apart : Nat)), some (.int (c.far : Nat)), some (.int (c.same : Nat)), some (.int kk), some (.ref a), some (.ref r), some (.ref l), s8] ∧ Hc l = some (.lst ((((row.1 : Nat) : Int) :: acc).map V.int)) ∧
            acc ++ ((row.2.drop i).flatMap fun x => 3 :: outN x) = row.2.flatMap fun x => 3 :: outN x)
            ⟨SameB.refl, [], _, rfl, hl1, rfl⟩ ?_ ?_ ?_⟩
          · rintro i σ Hc _ ⟨sm, _⟩
            exact SqL.of (sm _ _ (ne_refsS hl1 hL2) hL2)
          · rintro i x σ Hc hx ⟨sm, acc, s8, rfl, hLc, eq⟩
            obtain ⟨t, ht', rfl⟩ := ref_at hx
            obtain ⟨n, hn, ht⟩ := paired_at hp ht'
            have ht2 := sl _ _ ht
            have htc : Hc t = some (.tup (vN n)) := sm _ _ (ne_of ht2 hl1 (fun z => nomatch z)) ht2
            have eq' : (acc ++ (3 :: outN n)) ++ ((row.2.drop (i + 1)).flatMap fun x => 3 :: outN x) = row.2.flatMap fun x => 3 :: outN x := by
              rw [← eq, drop_at hn, List.append_assoc]
              rfl
            have bound : acc.length + 4 ≤ 160 := by
              have z := congrArg List.length eq'
              rw [List.length_append, List.length_append, flatS_length, flatS_length] at z
              have z' : acc.length + 4 + 4 * (row.2.drop (i + 1)).length = 4 * row.2.length := z
              omega
            refine ⟨_, rfl, .inl ⟨rfl, _, SqL.of hLc⟩, _, rfl, t, outN n, rfl, .inr (SqT.of htc), by show 3 ≤ _; decide, fun H3 p3 hp3 s3 => ⟨l, p3, _, _, rfl, rfl, s3 _ _ hLc, hp3, line ?_, ?_⟩⟩
            · rw [List.length_map, List.length_map, List.length_cons, List.length_cons]
              show acc.length + 1 + (3 + 1) ≤ _
              omega
            · refine ⟨SameB.upd (SameB.same sm s3), acc ++ (3 :: outN n), some (.ref t), rfl, upd_same.trans ?_, eq'⟩
              rw [← List.map_append]
              rfl
          · rintro σ Hc ⟨sm, acc, s8, rfl, hLc, eq⟩
            rw [List.length_map, hp.length, List.drop_length] at eq
            refine ⟨_, rfl, k Hc l ?_⟩
            rw [hLc, ans, ← eq]
            show _ = some (HO.lst ((((row.1 : Nat) : Int) :: (acc ++ [])).map V.int))
            rw [List.append_nil]
      · refine iteY (by rw [decide_eq_true_eq]; omega) ?_
        exact iteT (ref (by rw [c1, decide_eq_false (show ¬ ns.length ≤ Sw68.LONG from c2)] <;> rfl) _ _)
end Sn
namespace Sn
open PySem PySem.Spec PyProof.Rows L2
/-! ### The end: what the top has written -/
theorem lamc_of {K : PySem.W.Frag} {h : Heap} {mg : Str → Option Value} {x : Str} {st : Stmt} {ps : List Str} {cp : Addr × Addr} (X : K.In h) (G : h.Ns mainGlobals mg) (g : PySem.W.tabIn K x = some cp) {f : Addr} {fd : FuncData} (D : Def K mg x st ps f fd) : fd.code = .ref cp.1 := by
  obtain ⟨oc, od, kV, doc, pm, an, cdv, ct, osl, e, lk, _⟩ := D.F.ex
  exact PySem.W.law_code (c := cp.1) (P := cp.2) X G g D.g (X _ _ lk) rfl
theorem txt_mk {K : PySem.W.Frag} {h : Heap} {mg : Str → Option Value} (X : K.In h) (G : h.Ns mainGlobals mg)
    {t_REFUSED : Tok}
    {t_LETTERS : Tok}
    {t_HALVES_IN_OCTAVE : Tok}
    {t_MOST_RAISED : Tok}
    {t_LOWEST_OCTAVE : Tok}
    {t_HIGHEST_OCTAVE : Tok}
    {t_MOST_IN_KEY : Tok}
    {t_FIFTHS_IN_RAISING : Tok}
    {t_MOST_NUMBERS : Tok}
    {t_HIGHEST_SOUND : Tok}
    {t_NEAR_FIFTHS : Tok}
    {t_MIDDLE_OF_KEY : Tok}
    {a_HALVES_ABOVE_C : Addr} {o_HALVES_ABOVE_C : Option Addr} {n_HALVES_ABOVE_C : Nat} {l_HALVES_ABOVE_C : Array (Option Value)} {t_HALVES_ABOVE_C_0 t_HALVES_ABOVE_C_1 t_HALVES_ABOVE_C_2 t_HALVES_ABOVE_C_3 t_HALVES_ABOVE_C_4 t_HALVES_ABOVE_C_5 t_HALVES_ABOVE_C_6 : Tok}
    {a_FIFTHS_OF_LETTERS : Addr} {o_FIFTHS_OF_LETTERS : Option Addr} {n_FIFTHS_OF_LETTERS : Nat} {l_FIFTHS_OF_LETTERS : Array (Option Value)} {t_FIFTHS_OF_LETTERS_0 t_FIFTHS_OF_LETTERS_1 t_FIFTHS_OF_LETTERS_2 t_FIFTHS_OF_LETTERS_3 t_FIFTHS_OF_LETTERS_4 t_FIFTHS_OF_LETTERS_5 t_FIFTHS_OF_LETTERS_6 : Tok}
    {f_is_note : Addr} {od_is_note an_is_note : Option Addr} {sl_is_note : Array (Option Value)} {oc_is_note kV_is_note dc_is_note pm_is_note cd_is_note ct_is_note : Value}
    {f_is_key : Addr} {od_is_key an_is_key : Option Addr} {sl_is_key : Array (Option Value)} {oc_is_key kV_is_key dc_is_key pm_is_key cd_is_key ct_is_key : Value}
    {f_sound_of : Addr} {od_sound_of an_sound_of : Option Addr} {sl_sound_of : Array (Option Value)} {oc_sound_of kV_sound_of dc_sound_of pm_sound_of cd_sound_of ct_sound_of : Value}
    {f_fifths_of : Addr} {od_fifths_of an_fifths_of : Option Addr} {sl_fifths_of : Array (Option Value)} {oc_fifths_of kV_fifths_of dc_fifths_of pm_fifths_of cd_fifths_of ct_fifths_of : Value}
    {f_raised_by_key : Addr} {od_raised_by_key an_raised_by_key : Option Addr} {sl_raised_by_key : Array (Option Value)} {oc_raised_by_key kV_raised_by_key dc_raised_by_key pm_raised_by_key cd_raised_by_key ct_raised_by_key : Value}
    {f_are_sounds : Addr} {od_are_sounds an_are_sounds : Option Addr} {sl_are_sounds : Array (Option Value)} {oc_are_sounds kV_are_sounds dc_are_sounds pm_are_sounds cd_are_sounds ct_are_sounds : Value}
    {f_spellings_of : Addr} {od_spellings_of an_spellings_of : Option Addr} {sl_spellings_of : Array (Option Value)} {oc_spellings_of kV_spellings_of dc_spellings_of pm_spellings_of cd_spellings_of ct_spellings_of : Value}
    {f_beyond_five : Addr} {od_beyond_five an_beyond_five : Option Addr} {sl_beyond_five : Array (Option Value)} {oc_beyond_five kV_beyond_five dc_beyond_five pm_beyond_five cd_beyond_five ct_beyond_five : Value}
    {f_note_cost : Addr} {od_note_cost an_note_cost : Option Addr} {sl_note_cost : Array (Option Value)} {oc_note_cost kV_note_cost dc_note_cost pm_note_cost cd_note_cost ct_note_cost : Value}
    {f_neighbours_cost : Addr} {od_neighbours_cost an_neighbours_cost : Option Addr} {sl_neighbours_cost : Array (Option Value)} {oc_neighbours_cost kV_neighbours_cost dc_neighbours_cost pm_neighbours_cost cd_neighbours_cost ct_neighbours_cost : Value}
    {f_put_ahead : Addr} {od_put_ahead an_put_ahead : Option Addr} {sl_put_ahead : Array (Option Value)} {oc_put_ahead kV_put_ahead dc_put_ahead pm_put_ahead cd_put_ahead ct_put_ahead : Value}
    {f_cheapest : Addr} {od_cheapest an_cheapest : Option Addr} {sl_cheapest : Array (Option Value)} {oc_cheapest kV_cheapest dc_cheapest pm_cheapest cd_cheapest ct_cheapest : Value}
    {f_spelled : Addr} {od_spelled an_spelled : Option Addr} {sl_spelled : Array (Option Value)} {oc_spelled kV_spelled dc_spelled pm_spelled cd_spelled ct_spelled : Value}
    {f_counted : Addr} {od_counted an_counted : Option Addr} {sl_counted : Array (Option Value)} {oc_counted kV_counted dc_counted pm_counted cd_counted ct_counted : Value}
    {f_spell : Addr} {od_spell an_spell : Option Addr} {sl_spell : Array (Option Value)} {oc_spell kV_spell dc_spell pm_spell cd_spell ct_spell : Value}
    (g_tab : PySem.W.tabIn K "cheapest" = some (cPK K))
    (g_REFUSED : PySem.W.nsIn K mainGlobals "REFUSED" = some (some (.int (-1) t_REFUSED)))
    (g_LETTERS : PySem.W.nsIn K mainGlobals "LETTERS" = some (some (.int (7) t_LETTERS)))
    (g_HALVES_IN_OCTAVE : PySem.W.nsIn K mainGlobals "HALVES_IN_OCTAVE" = some (some (.int (12) t_HALVES_IN_OCTAVE)))
    (g_MOST_RAISED : PySem.W.nsIn K mainGlobals "MOST_RAISED" = some (some (.int (3) t_MOST_RAISED)))
    (g_LOWEST_OCTAVE : PySem.W.nsIn K mainGlobals "LOWEST_OCTAVE" = some (some (.int (-1) t_LOWEST_OCTAVE)))
    (g_HIGHEST_OCTAVE : PySem.W.nsIn K mainGlobals "HIGHEST_OCTAVE" = some (some (.int (9) t_HIGHEST_OCTAVE)))
    (g_MOST_IN_KEY : PySem.W.nsIn K mainGlobals "MOST_IN_KEY" = some (some (.int (7) t_MOST_IN_KEY)))
    (g_FIFTHS_IN_RAISING : PySem.W.nsIn K mainGlobals "FIFTHS_IN_RAISING" = some (some (.int (7) t_FIFTHS_IN_RAISING)))
    (g_MOST_NUMBERS : PySem.W.nsIn K mainGlobals "MOST_NUMBERS" = some (some (.int (40) t_MOST_NUMBERS)))
    (g_HIGHEST_SOUND : PySem.W.nsIn K mainGlobals "HIGHEST_SOUND" = some (some (.int (127) t_HIGHEST_SOUND)))
    (g_NEAR_FIFTHS : PySem.W.nsIn K mainGlobals "NEAR_FIFTHS" = some (some (.int (5) t_NEAR_FIFTHS)))
    (g_MIDDLE_OF_KEY : PySem.W.nsIn K mainGlobals "MIDDLE_OF_KEY" = some (some (.int (2) t_MIDDLE_OF_KEY)))
    (g_HALVES_ABOVE_C : PySem.W.nsIn K mainGlobals "HALVES_ABOVE_C" = some (some (.ref a_HALVES_ABOVE_C)))
    (k_HALVES_ABOVE_C : K.lookup a_HALVES_ABOVE_C = some ⟨.type "tuple", o_HALVES_ABOVE_C, .seq #[.int (0) t_HALVES_ABOVE_C_0, .int (2) t_HALVES_ABOVE_C_1, .int (4) t_HALVES_ABOVE_C_2, .int (5) t_HALVES_ABOVE_C_3, .int (7) t_HALVES_ABOVE_C_4, .int (9) t_HALVES_ABOVE_C_5, .int (11) t_HALVES_ABOVE_C_6] n_HALVES_ABOVE_C, l_HALVES_ABOVE_C⟩)
    (g_FIFTHS_OF_LETTERS : PySem.W.nsIn K mainGlobals "FIFTHS_OF_LETTERS" = some (some (.ref a_FIFTHS_OF_LETTERS)))
    (k_FIFTHS_OF_LETTERS : K.lookup a_FIFTHS_OF_LETTERS = some ⟨.type "tuple", o_FIFTHS_OF_LETTERS, .seq #[.int (0) t_FIFTHS_OF_LETTERS_0, .int (2) t_FIFTHS_OF_LETTERS_1, .int (4) t_FIFTHS_OF_LETTERS_2, .int (-1) t_FIFTHS_OF_LETTERS_3, .int (1) t_FIFTHS_OF_LETTERS_4, .int (3) t_FIFTHS_OF_LETTERS_5, .int (5) t_FIFTHS_OF_LETTERS_6] n_FIFTHS_OF_LETTERS, l_FIFTHS_OF_LETTERS⟩)
    (g_abs : PySem.W.nsIn K mainGlobals "abs" = some none)
    (g_len : PySem.W.nsIn K mainGlobals "len" = some none)
    (g_list : PySem.W.nsIn K mainGlobals "list" = some none)
    (g_max : PySem.W.nsIn K mainGlobals "max" = some none)
    (g_min : PySem.W.nsIn K mainGlobals "min" = some none)
    (g_range : PySem.W.nsIn K mainGlobals "range" = some none)
    (g_reversed : PySem.W.nsIn K mainGlobals "reversed" = some none)
    (g_is_note : PySem.W.nsIn K mainGlobals "is_note" = some (some (.ref f_is_note)))
    (l_is_note : K.lookup f_is_note = some ⟨oc_is_note, od_is_note, .func (PySem.W.fnOf "is_note" "is_note" (defArgs s_is_note) (defBody s_is_note) (defScope s_is_note) .none kV_is_note dc_is_note pm_is_note an_is_note cd_is_note ct_is_note), sl_is_note⟩)
    (e_is_note : PySem.W.codeIn K cd_is_note "is_note" = true)
    (p_is_note : PySem.W.keepIn K (.ref f_is_note) = true)
    (g_is_key : PySem.W.nsIn K mainGlobals "is_key" = some (some (.ref f_is_key)))
    (l_is_key : K.lookup f_is_key = some ⟨oc_is_key, od_is_key, .func (PySem.W.fnOf "is_key" "is_key" (defArgs s_is_key) (defBody s_is_key) (defScope s_is_key) .none kV_is_key dc_is_key pm_is_key an_is_key cd_is_key ct_is_key), sl_is_key⟩)
    (e_is_key : PySem.W.codeIn K cd_is_key "is_key" = true)
    (p_is_key : PySem.W.keepIn K (.ref f_is_key) = true)
    (g_sound_of : PySem.W.nsIn K mainGlobals "sound_of" = some (some (.ref f_sound_of)))
    (l_sound_of : K.lookup f_sound_of = some ⟨oc_sound_of, od_sound_of, .func (PySem.W.fnOf "sound_of" "sound_of" (defArgs s_sound_of) (defBody s_sound_of) (defScope s_sound_of) .none kV_sound_of dc_sound_of pm_sound_of an_sound_of cd_sound_of ct_sound_of), sl_sound_of⟩)
    (e_sound_of : PySem.W.codeIn K cd_sound_of "sound_of" = true)
    (p_sound_of : PySem.W.keepIn K (.ref f_sound_of) = true)
    (g_fifths_of : PySem.W.nsIn K mainGlobals "fifths_of" = some (some (.ref f_fifths_of)))
    (l_fifths_of : K.lookup f_fifths_of = some ⟨oc_fifths_of, od_fifths_of, .func (PySem.W.fnOf "fifths_of" "fifths_of" (defArgs s_fifths_of) (defBody s_fifths_of) (defScope s_fifths_of) .none kV_fifths_of dc_fifths_of pm_fifths_of an_fifths_of cd_fifths_of ct_fifths_of), sl_fifths_of⟩)
    (e_fifths_of : PySem.W.codeIn K cd_fifths_of "fifths_of" = true)
    (p_fifths_of : PySem.W.keepIn K (.ref f_fifths_of) = true)
    (g_raised_by_key : PySem.W.nsIn K mainGlobals "raised_by_key" = some (some (.ref f_raised_by_key)))
    (l_raised_by_key : K.lookup f_raised_by_key = some ⟨oc_raised_by_key, od_raised_by_key, .func (PySem.W.fnOf "raised_by_key" "raised_by_key" (defArgs s_raised_by_key) (defBody s_raised_by_key) (defScope s_raised_by_key) .none kV_raised_by_key dc_raised_by_key pm_raised_by_key an_raised_by_key cd_raised_by_key ct_raised_by_key), sl_raised_by_key⟩)
    (e_raised_by_key : PySem.W.codeIn K cd_raised_by_key "raised_by_key" = true)
    (p_raised_by_key : PySem.W.keepIn K (.ref f_raised_by_key) = true)
    (g_are_sounds : PySem.W.nsIn K mainGlobals "are_sounds" = some (some (.ref f_are_sounds)))
    (l_are_sounds : K.lookup f_are_sounds = some ⟨oc_are_sounds, od_are_sounds, .func (PySem.W.fnOf "are_sounds" "are_sounds" (defArgs s_are_sounds) (defBody s_are_sounds) (defScope s_are_sounds) .none kV_are_sounds dc_are_sounds pm_are_sounds an_are_sounds cd_are_sounds ct_are_sounds), sl_are_sounds⟩)
    (e_are_sounds : PySem.W.codeIn K cd_are_sounds "are_sounds" = true)
    (p_are_sounds : PySem.W.keepIn K (.ref f_are_sounds) = true)
    (g_spellings_of : PySem.W.nsIn K mainGlobals "spellings_of" = some (some (.ref f_spellings_of)))
    (l_spellings_of : K.lookup f_spellings_of = some ⟨oc_spellings_of, od_spellings_of, .func (PySem.W.fnOf "spellings_of" "spellings_of" (defArgs s_spellings_of) (defBody s_spellings_of) (defScope s_spellings_of) .none kV_spellings_of dc_spellings_of pm_spellings_of an_spellings_of cd_spellings_of ct_spellings_of), sl_spellings_of⟩)
    (e_spellings_of : PySem.W.codeIn K cd_spellings_of "spellings_of" = true)
    (p_spellings_of : PySem.W.keepIn K (.ref f_spellings_of) = true)
    (g_beyond_five : PySem.W.nsIn K mainGlobals "beyond_five" = some (some (.ref f_beyond_five)))
    (l_beyond_five : K.lookup f_beyond_five = some ⟨oc_beyond_five, od_beyond_five, .func (PySem.W.fnOf "beyond_five" "beyond_five" (defArgs s_beyond_five) (defBody s_beyond_five) (defScope s_beyond_five) .none kV_beyond_five dc_beyond_five pm_beyond_five an_beyond_five cd_beyond_five ct_beyond_five), sl_beyond_five⟩)
    (e_beyond_five : PySem.W.codeIn K cd_beyond_five "beyond_five" = true)
    (p_beyond_five : PySem.W.keepIn K (.ref f_beyond_five) = true)
    (g_note_cost : PySem.W.nsIn K mainGlobals "note_cost" = some (some (.ref f_note_cost)))
    (l_note_cost : K.lookup f_note_cost = some ⟨oc_note_cost, od_note_cost, .func (PySem.W.fnOf "note_cost" "note_cost" (defArgs s_note_cost) (defBody s_note_cost) (defScope s_note_cost) .none kV_note_cost dc_note_cost pm_note_cost an_note_cost cd_note_cost ct_note_cost), sl_note_cost⟩)
    (e_note_cost : PySem.W.codeIn K cd_note_cost "note_cost" = true)
    (p_note_cost : PySem.W.keepIn K (.ref f_note_cost) = true)
    (g_neighbours_cost : PySem.W.nsIn K mainGlobals "neighbours_cost" = some (some (.ref f_neighbours_cost)))
    (l_neighbours_cost : K.lookup f_neighbours_cost = some ⟨oc_neighbours_cost, od_neighbours_cost, .func (PySem.W.fnOf "neighbours_cost" "neighbours_cost" (defArgs s_neighbours_cost) (defBody s_neighbours_cost) (defScope s_neighbours_cost) .none kV_neighbours_cost dc_neighbours_cost pm_neighbours_cost an_neighbours_cost cd_neighbours_cost ct_neighbours_cost), sl_neighbours_cost⟩)
    (e_neighbours_cost : PySem.W.codeIn K cd_neighbours_cost "neighbours_cost" = true)
    (p_neighbours_cost : PySem.W.keepIn K (.ref f_neighbours_cost) = true)
    (g_put_ahead : PySem.W.nsIn K mainGlobals "put_ahead" = some (some (.ref f_put_ahead)))
    (l_put_ahead : K.lookup f_put_ahead = some ⟨oc_put_ahead, od_put_ahead, .func (PySem.W.fnOf "put_ahead" "put_ahead" (defArgs s_put_ahead) (defBody s_put_ahead) (defScope s_put_ahead) .none kV_put_ahead dc_put_ahead pm_put_ahead an_put_ahead cd_put_ahead ct_put_ahead), sl_put_ahead⟩)
    (e_put_ahead : PySem.W.codeIn K cd_put_ahead "put_ahead" = true)
    (p_put_ahead : PySem.W.keepIn K (.ref f_put_ahead) = true)
    (g_cheapest : PySem.W.nsIn K mainGlobals "cheapest" = some (some (.ref f_cheapest)))
    (l_cheapest : K.lookup f_cheapest = some ⟨oc_cheapest, od_cheapest, .func (PySem.W.fnOf "cheapest" "cheapest" (defArgs s_cheapest) (defBody s_cheapest) (defScope s_cheapest) .none kV_cheapest dc_cheapest pm_cheapest an_cheapest cd_cheapest ct_cheapest), sl_cheapest⟩)
    (e_cheapest : PySem.W.codeIn K cd_cheapest "cheapest" = true)
    (p_cheapest : PySem.W.keepIn K (.ref f_cheapest) = true)
    (g_spelled : PySem.W.nsIn K mainGlobals "spelled" = some (some (.ref f_spelled)))
    (l_spelled : K.lookup f_spelled = some ⟨oc_spelled, od_spelled, .func (PySem.W.fnOf "spelled" "spelled" (defArgs s_spelled) (defBody s_spelled) (defScope s_spelled) .none kV_spelled dc_spelled pm_spelled an_spelled cd_spelled ct_spelled), sl_spelled⟩)
    (e_spelled : PySem.W.codeIn K cd_spelled "spelled" = true)
    (p_spelled : PySem.W.keepIn K (.ref f_spelled) = true)
    (g_counted : PySem.W.nsIn K mainGlobals "counted" = some (some (.ref f_counted)))
    (l_counted : K.lookup f_counted = some ⟨oc_counted, od_counted, .func (PySem.W.fnOf "counted" "counted" (defArgs s_counted) (defBody s_counted) (defScope s_counted) .none kV_counted dc_counted pm_counted an_counted cd_counted ct_counted), sl_counted⟩)
    (e_counted : PySem.W.codeIn K cd_counted "counted" = true)
    (p_counted : PySem.W.keepIn K (.ref f_counted) = true)
    (g_spell : PySem.W.nsIn K mainGlobals "spell" = some (some (.ref f_spell)))
    (l_spell : K.lookup f_spell = some ⟨oc_spell, od_spell, .func (PySem.W.fnOf "spell" "spell" (defArgs s_spell) (defBody s_spell) (defScope s_spell) .none kV_spell dc_spell pm_spell an_spell cd_spell ct_spell), sl_spell⟩)
    (e_spell : PySem.W.codeIn K cd_spell "spell" = true)
    (p_spell : PySem.W.keepIn K (.ref f_spell) = true) : (∃ f fd, Def K mg "spell" s_spell ["sign", "apart", "far", "same", "in_key", "numbers"] f fd) ∧ ∀ base : Heap, LamX.TabB base mg (cPK K).1 (cPK K).2 → Txt K mg base :=
  ⟨⟨_, _, fun_mk (st := s_spell) l_spell e_spell p_spell, PySem.W.mg_of X G g_spell, fun s us hu => match us, hu with | [_, _, _, _, _, _], _ => .of_eq rfl⟩, fun base B => ⟨B,
   fun f fd D => lamc_of X G g_tab D,
   ⟨_, PySem.W.mg_of X G g_REFUSED⟩,
   ⟨_, PySem.W.mg_of X G g_LETTERS⟩,
   ⟨_, PySem.W.mg_of X G g_HALVES_IN_OCTAVE⟩,
   ⟨_, PySem.W.mg_of X G g_MOST_RAISED⟩,
   ⟨_, PySem.W.mg_of X G g_LOWEST_OCTAVE⟩,
   ⟨_, PySem.W.mg_of X G g_HIGHEST_OCTAVE⟩,
   ⟨_, PySem.W.mg_of X G g_MOST_IN_KEY⟩,
   ⟨_, PySem.W.mg_of X G g_FIFTHS_IN_RAISING⟩,
   ⟨_, PySem.W.mg_of X G g_MOST_NUMBERS⟩,
   ⟨_, PySem.W.mg_of X G g_HIGHEST_SOUND⟩,
   ⟨_, PySem.W.mg_of X G g_NEAR_FIFTHS⟩,
   ⟨_, PySem.W.mg_of X G g_MIDDLE_OF_KEY⟩,
   ⟨a_HALVES_ABOVE_C, PySem.W.mg_of X G g_HALVES_ABOVE_C, fun H => .inr ⟨_, _, _, k_HALVES_ABOVE_C, rfl, rfl, line (show 7 ≤ 1000000 from by decide), (Paired.cons ⟨t_HALVES_ABOVE_C_0, rfl⟩ (Paired.cons ⟨t_HALVES_ABOVE_C_1, rfl⟩ (Paired.cons ⟨t_HALVES_ABOVE_C_2, rfl⟩ (Paired.cons ⟨t_HALVES_ABOVE_C_3, rfl⟩ (Paired.cons ⟨t_HALVES_ABOVE_C_4, rfl⟩ (Paired.cons ⟨t_HALVES_ABOVE_C_5, rfl⟩ (Paired.cons ⟨t_HALVES_ABOVE_C_6, rfl⟩ Paired.nil)))))))⟩⟩,
   ⟨a_FIFTHS_OF_LETTERS, PySem.W.mg_of X G g_FIFTHS_OF_LETTERS, fun H => .inr ⟨_, _, _, k_FIFTHS_OF_LETTERS, rfl, rfl, line (show 7 ≤ 1000000 from by decide), (Paired.cons ⟨t_FIFTHS_OF_LETTERS_0, rfl⟩ (Paired.cons ⟨t_FIFTHS_OF_LETTERS_1, rfl⟩ (Paired.cons ⟨t_FIFTHS_OF_LETTERS_2, rfl⟩ (Paired.cons ⟨t_FIFTHS_OF_LETTERS_3, rfl⟩ (Paired.cons ⟨t_FIFTHS_OF_LETTERS_4, rfl⟩ (Paired.cons ⟨t_FIFTHS_OF_LETTERS_5, rfl⟩ (Paired.cons ⟨t_FIFTHS_OF_LETTERS_6, rfl⟩ Paired.nil)))))))⟩⟩,
   (PySem.W.mg_none_of X G g_abs),
   (PySem.W.mg_none_of X G g_len),
   (PySem.W.mg_none_of X G g_list),
   (PySem.W.mg_none_of X G g_max),
   (PySem.W.mg_none_of X G g_min),
   (PySem.W.mg_none_of X G g_range),
   (PySem.W.mg_none_of X G g_reversed),
   ⟨_, _, fun_mk (st := s_is_note) l_is_note e_is_note p_is_note, PySem.W.mg_of X G g_is_note, fun s us hu => match us, hu with | [_, _, _], _ => .of_eq rfl⟩,
   ⟨_, _, fun_mk (st := s_is_key) l_is_key e_is_key p_is_key, PySem.W.mg_of X G g_is_key, fun s us hu => match us, hu with | [_], _ => .of_eq rfl⟩,
   ⟨_, _, fun_mk (st := s_sound_of) l_sound_of e_sound_of p_sound_of, PySem.W.mg_of X G g_sound_of, fun s us hu => match us, hu with | [_, _, _], _ => .of_eq rfl⟩,
   ⟨_, _, fun_mk (st := s_fifths_of) l_fifths_of e_fifths_of p_fifths_of, PySem.W.mg_of X G g_fifths_of, fun s us hu => match us, hu with | [_, _], _ => .of_eq rfl⟩,
   ⟨_, _, fun_mk (st := s_raised_by_key) l_raised_by_key e_raised_by_key p_raised_by_key, PySem.W.mg_of X G g_raised_by_key, fun s us hu => match us, hu with | [_, _], _ => .of_eq rfl⟩,
   ⟨_, _, fun_mk (st := s_are_sounds) l_are_sounds e_are_sounds p_are_sounds, PySem.W.mg_of X G g_are_sounds, fun s us hu => match us, hu with | [_], _ => .of_eq rfl⟩,
   ⟨_, _, fun_mk (st := s_spellings_of) l_spellings_of e_spellings_of p_spellings_of, PySem.W.mg_of X G g_spellings_of, fun s us hu => match us, hu with | [_], _ => .of_eq rfl⟩,
   ⟨_, _, fun_mk (st := s_beyond_five) l_beyond_five e_beyond_five p_beyond_five, PySem.W.mg_of X G g_beyond_five, fun s us hu => match us, hu with | [_], _ => .of_eq rfl⟩,
   ⟨_, _, fun_mk (st := s_note_cost) l_note_cost e_note_cost p_note_cost, PySem.W.mg_of X G g_note_cost, fun s us hu => match us, hu with | [_, _, _, _], _ => .of_eq rfl⟩,
   ⟨_, _, fun_mk (st := s_neighbours_cost) l_neighbours_cost e_neighbours_cost p_neighbours_cost, PySem.W.mg_of X G g_neighbours_cost, fun s us hu => match us, hu with | [_, _, _, _], _ => .of_eq rfl⟩,
   ⟨_, _, fun_mk (st := s_put_ahead) l_put_ahead e_put_ahead p_put_ahead, PySem.W.mg_of X G g_put_ahead, fun s us hu => match us, hu with | [_, _, _, _], _ => .of_eq rfl⟩,
   ⟨_, _, fun_mk (st := s_cheapest) l_cheapest e_cheapest p_cheapest, PySem.W.mg_of X G g_cheapest, fun s us hu => match us, hu with | [_], _ => .of_eq rfl⟩,
   ⟨_, _, fun_mk (st := s_spelled) l_spelled e_spelled p_spelled, PySem.W.mg_of X G g_spelled, fun s us hu => match us, hu with | [_, _, _, _, _, _], _ => .of_eq rfl⟩,
   ⟨_, _, fun_mk (st := s_counted) l_counted e_counted p_counted, PySem.W.mg_of X G g_counted, fun s us hu => match us, hu with | [_], _ => .of_eq rfl⟩,
   ⟨_, _, fun_mk (st := s_spell) l_spell e_spell p_spell, PySem.W.mg_of X G g_spell, fun s us hu => match us, hu with | [_, _, _, _, _, _], _ => .of_eq rfl⟩⟩⟩
theorem all_of {P : Program} {w : World} {K : PySem.W.Frag} {mg : Str → Option Value} {fa : Addr} (hfa : mg "spell" = some (.ref fa)) (T : (∃ f fd, Def K mg "spell" s_spell ["sign", "apart", "far", "same", "in_key", "numbers"] f fd) ∧ ∀ base : Heap, LamX.TabB base mg (cPK K).1 (cPK K).2 → Txt K mg base) :
    ∃ fd : FuncData, (∀ (s : Shared) (us : List Value), us.length = (["sign", "apart", "far", "same", "in_key", "numbers"] : List Str).length → BindsTo s fd ⟨us, []⟩ ((["sign", "apart", "far", "same", "in_key", "numbers"] : List Str).zip us)) ∧ ∀ base : Heap, K.In base → base.Ns mainGlobals mg → LamX.TabB base mg (cPK K).1 (cPK K).2 → FnOk P w K mg base CX0 5 fa fd ["sign", "apart", "far", "same", "in_key", "numbers"] (sp_spell K) := by
  obtain ⟨⟨f, fd, D⟩, T⟩ := T
  have e : f = fa := by have z := D.g.symm.trans hfa; injection z with z; injection z
  subst e
  exact ⟨fd, D.bt, fun base _ _ B => ok_spell (T base B) D⟩
end Sn
open PySem PySem.W PyProof.Rows
set_option maxRecDepth 100000 in
set_option maxHeartbeats 8000000 in
theorem PySem.Challenge.cw_spellednotes_s06_spell_holds : PySem.Challenge.rw_spellednotes_s06_spell.Holds := by
  w_on; k_headS; (case hw => exact ⟨[.int 0, .int 0, .int 0, .int 0, .int 0, .list []], by decide +kernel, by decide +kernel⟩)
  k_fillS
  refine Sn.walk_specT (r := PySem.Challenge.rw_spellednotes_s06_spell) (k := 5) (ps := ["sign", "apart", "far", "same", "in_key", "numbers"]) (sp := Sn.sp_spell) (x := "cheapest") (cP := Sn.cPK) (by decide +kernel) rfl rfl ⟨rfl, by decide, by decide⟩ (fun w h Y => PySem.W.kIn_of Y) ?xRec ?xTab ?xNo ?F ?S
  case xRec => kernel_rfl
  case xTab => intro Pm; kernel_rfl
  case xNo => intro Pm; kernel_rfl
  case F =>
    intro w mg fa h Y KX G hmg
    refine Sn.all_of hmg ?_
    refine' Sn.txt_mk KX G ?g_tab ?g_REFUSED ?g_LETTERS ?g_HALVES_IN_OCTAVE ?g_MOST_RAISED ?g_LOWEST_OCTAVE ?g_HIGHEST_OCTAVE ?g_MOST_IN_KEY ?g_FIFTHS_IN_RAISING ?g_MOST_NUMBERS ?g_HIGHEST_SOUND ?g_NEAR_FIFTHS ?g_MIDDLE_OF_KEY ?g_HALVES_ABOVE_C ?k_HALVES_ABOVE_C ?g_FIFTHS_OF_LETTERS ?k_FIFTHS_OF_LETTERS ?g_abs ?g_len ?g_list ?g_max ?g_min ?g_range ?g_reversed ?g_is_note ?l_is_note ?e_is_note ?p_is_note ?g_is_key ?l_is_key ?e_is_key ?p_is_key ?g_sound_of ?l_sound_of ?e_sound_of ?p_sound_of ?g_fifths_of ?l_fifths_of ?e_fifths_of ?p_fifths_of ?g_raised_by_key ?l_raised_by_key ?e_raised_by_key ?p_raised_by_key ?g_are_sounds ?l_are_sounds ?e_are_sounds ?p_are_sounds ?g_spellings_of ?l_spellings_of ?e_spellings_of ?p_spellings_of ?g_beyond_five ?l_beyond_five ?e_beyond_five ?p_beyond_five ?g_note_cost ?l_note_cost ?e_note_cost ?p_note_cost ?g_neighbours_cost ?l_neighbours_cost ?e_neighbours_cost ?p_neighbours_cost ?g_put_ahead ?l_put_ahead ?e_put_ahead ?p_put_ahead ?g_cheapest ?l_cheapest ?e_cheapest ?p_cheapest ?g_spelled ?l_spelled ?e_spelled ?p_spelled ?g_counted ?l_counted ?e_counted ?p_counted ?g_spell ?l_spell ?e_spell ?p_spell
    (case g_tab => kernel_rfl)
    (case g_REFUSED => k_is)
    (case g_LETTERS => k_is)
    (case g_HALVES_IN_OCTAVE => k_is)
    (case g_MOST_RAISED => k_is)
    (case g_LOWEST_OCTAVE => k_is)
    (case g_HIGHEST_OCTAVE => k_is)
    (case g_MOST_IN_KEY => k_is)
    (case g_FIFTHS_IN_RAISING => k_is)
    (case g_MOST_NUMBERS => k_is)
    (case g_HIGHEST_SOUND => k_is)
    (case g_NEAR_FIFTHS => k_is)
    (case g_MIDDLE_OF_KEY => k_is)
    (case g_HALVES_ABOVE_C => k_is)
    (case k_HALVES_ABOVE_C => k_is)
    (case g_FIFTHS_OF_LETTERS => k_is)
    (case k_FIFTHS_OF_LETTERS => k_is)
    (case g_abs => k_is)
    (case g_len => k_is)
    (case g_list => k_is)
    (case g_max => k_is)
    (case g_min => k_is)
    (case g_range => k_is)
    (case g_reversed => k_is)
    (case g_is_note => k_is)
    (case l_is_note => k_is)
    (case e_is_note => k_is)
    (case p_is_note => k_is)
    (case g_is_key => k_is)
    (case l_is_key => k_is)
    (case e_is_key => k_is)
    (case p_is_key => k_is)
    (case g_sound_of => k_is)
    (case l_sound_of => k_is)
    (case e_sound_of => k_is)
    (case p_sound_of => k_is)
    (case g_fifths_of => k_is)
    (case l_fifths_of => k_is)
    (case e_fifths_of => k_is)
    (case p_fifths_of => k_is)
    (case g_raised_by_key => k_is)
    (case l_raised_by_key => k_is)
    (case e_raised_by_key => k_is)
    (case p_raised_by_key => k_is)
    (case g_are_sounds => k_is)
    (case l_are_sounds => k_is)
    (case e_are_sounds => k_is)
    (case p_are_sounds => k_is)
    (case g_spellings_of => k_is)
    (case l_spellings_of => k_is)
    (case e_spellings_of => k_is)
    (case p_spellings_of => k_is)
    (case g_beyond_five => k_is)
    (case l_beyond_five => k_is)
    (case e_beyond_five => k_is)
    (case p_beyond_five => k_is)
    (case g_note_cost => k_is)
    (case l_note_cost => k_is)
    (case e_note_cost => k_is)
    (case p_note_cost => k_is)
    (case g_neighbours_cost => k_is)
    (case l_neighbours_cost => k_is)
    (case e_neighbours_cost => k_is)
    (case p_neighbours_cost => k_is)
    (case g_put_ahead => k_is)
    (case l_put_ahead => k_is)
    (case e_put_ahead => k_is)
    (case p_put_ahead => k_is)
    (case g_cheapest => k_is)
    (case l_cheapest => k_is)
    (case e_cheapest => k_is)
    (case p_cheapest => k_is)
    (case g_spelled => k_is)
    (case l_spelled => k_is)
    (case e_spelled => k_is)
    (case p_spelled => k_is)
    (case g_counted => k_is)
    (case l_counted => k_is)
    (case e_counted => k_is)
    (case p_counted => k_is)
    (case g_spell => k_is)
    (case l_spell => k_is)
    (case e_spell => k_is)
    (case p_spell => k_is)
  case S =>
    intro K H0 H xs a sm hP hwi hask hx
    obtain ⟨s, ap, f, m, k, ns, u⟩ := a
    cases hx with
    | cons h1 hx => cases hx with
      | cons h2 hx => cases hx with
        | cons h3 hx => cases hx with
          | cons h4 hx => cases hx with
            | cons h5 hx => cases hx with
              | cons h6 hx =>
                cases hx; cases h1; cases h2; cases h3; cases h4; cases h5
                have h6' : L2.Dw K H0 _ (WData.list (ns.map WData.int)) := h6
                cases h6' with
                | lst h7 h8 =>
                  rw [L2.ints_dw _ _ h8] at h7
                  have hask' : PySw68.spell_asked s ap f m k ns = true := hask
                  obtain ⟨s', a', f', m', e1, e2, e3, e4, b1, b2, b3, b4, _, ew⟩ := Sn.spell_inv hask'
                  refine ⟨⟨s', a', f', m'⟩, k, _, ns, by rw [e1, e2, e3, e4], L2.Same.seq sm h7, ⟨by show s' < _; omega, by show a' < _; omega, by show f' < _; omega, by show m' < _; omega⟩, ?_, fun H' p hp => ?_⟩
                  · intro p hp
                    rw [List.mem_singleton.mp hp]
                    exact LamX.TabS.nil hP
                  · show L2.Dw K H' (.ref p) (WData.list ((PySw68.spell s ap f m k ns).map WData.int))
                    rw [ew]
                    exact .lst (L2.SqL.of hp) (L2.dw_ints _)
#print axioms PySem.Challenge.cw_spellednotes_s06_spell_holds

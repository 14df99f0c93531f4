import PyProof.Rows.All
import Wide.All
import OpenK.AllK
import Wide.FinOn
import Open.SpecLaws
import KE.OsGo
import HandS.Base
import HandS.Call
import HandS.List
import HandS.Ends
import HandS.Exc
import HandS.TryOnly
import HandS.ExcOwn
import HandS.Spec
import HandS.Words
import HandS.WordsList
import HandS.WordsExc
import HandS.Comp
import HandS.Dict
import HandS.Iter
import HandS.WordsDict
import HandS.Walk
import PySem.Challenge.RW_spellednotes_s04_write
set_option Elab.async false
set_option linter.all false
set_option maxRecDepth 100000
set_option maxHeartbeats 2000000
namespace Sn
open PySem PySem.Spec PyProof.Rows L2
/-! ### Words of this proof: a def of the text with its promise; a number, a table of the top -/
def Has (P : Program) (w : World) (K : PySem.W.Frag) (mg : Str → Option Value) (base : Heap) (x : Str) (k : Nat) (ps : List Str) (sp : Sp) : Prop :=
  ∃ (f : Addr) (fd : FuncData), FnOk P w K mg base CX0 k f fd ps sp ∧ mg x = some (.ref f) ∧ PySem.W.keepIn K (.ref f) = true ∧ Binds K fd ps []
theorem pe_has {X : Cx} {x : Str} {k : Nat} {ps : List Str} {sp : Sp} {e : Expr} {es : List Expr} {p pos : Pos} {t : TA}
    (h : Has X.prog X.w X.K X.mg X.base x k ps sp) (hr : Room k X.A) (ha : PA X (e :: es) t) (hg : Gl X x := by rfl) (hdb : (x == ("__debug__" : Str)) = false := by decide)
    (he : starEach (e :: es) X.env = (false, eval e X.env) :: starEach es X.env := by rfl) (hpl : (backTo pos (starEach es X.env)).any (·.1) = false := by rfl) :
    PE X (.Call (.Name x p) (e :: es) [] pos) (tCall sp [] E0 t) := by
  obtain ⟨f, fd, F, g, kp, b⟩ := h
  exact pe_call F hr hg g kp b .nil pass0 ha hdb he hpl
theorem pe_globI {X : Cx} {x : Str} {n : Int} {pos : Pos} (hm : ∃ t, X.mg x = some (.int n t)) (hg : Gl X x := by rfl) (hd : (x == ("__debug__" : Str)) = false := by decide) : PE X (.Name x pos) (tC (.int n)) := by
  obtain ⟨t, ht⟩ := hm
  exact pe_glob hg ht ⟨t, rfl⟩ hd
/-- a written tuple of numbers of the top, at a name -/
def Tab (K : PySem.W.Frag) (mg : Str → Option Value) (x : Str) (ns : List Int) : Prop := ∃ a, mg x = some (.ref a) ∧ ∀ H, SqT K H a (ns.map V.int)
/-- its name as a value -/
def tGT (K : PySem.W.Frag) (ns : List Int) : TE := fun _ H Q => ∀ a, (∀ H, SqT K H a (ns.map V.int)) → Q (.ref a) H
theorem pe_globT {X : Cx} {x : Str} {ns : List Int} {pos : Pos} (hm : Tab X.K X.mg x ns) (hg : Gl X x := by rfl) (hd : (x == ("__debug__" : Str)) = false := by decide) : PE X (.Name x pos) (tGT X.K ns) := by
  obtain ⟨a, ha, hT⟩ := hm
  exact ⟨fun pins s σ H Q I h => (pe_glob (v := .ref a) hg ha rfl hd).run pins s σ H Q I (h a hT)⟩
theorem tGT_at {K : PySem.W.Frag} {ns : List Int} {σ : L2.St} {H : Hp} {Q : VK} (h : ∀ a, (∀ H, SqT K H a (ns.map V.int)) → Q (.ref a) H) : tGT K ns σ H Q := h
/-- an item of such a table -/
theorem at_tab {ns : List Int} {i : Int} (h0 : 0 ≤ i) (h1 : i < ns.length) : atI (ns.map V.int) i = some (V.int (ns.getD i.toNat 0)) := by
  obtain ⟨j, rfl⟩ : ∃ j : Nat, i = (j : Int) := ⟨i.toNat, by omega⟩
  refine atI_nat ?_
  have hj : j < ns.length := by omega
  simp [List.getElem?_map, List.getElem?_eq_getElem hj]
/-- a table's item, as a reading: the index lies in it -/
def tTab (ns : List Int) (ti : TE) : TE := fun σ H Q => ti σ H fun y H1 => ∃ i : Int, y = .int i ∧ (0 ≤ i ∧ i < ns.length) ∧ Q (.int (ns.getD i.toNat 0)) H1
theorem pe_tab {X : Cx} {x : Str} {ns : List Int} {p pos : Pos} {b : Expr} {ti : TE} (hm : Tab X.K X.mg x ns) (hi : PE X b ti) (hs : PlainIx b) (hg : Gl X x := by rfl) (hd : (x == ("__debug__" : Str)) = false := by decide) :
    PE X (.Subscript (.Name x p) b pos) (tTab ns ti) := by
  obtain ⟨a, ha, hT⟩ := hm
  have hr : IxR X (fun x y H Q => x = .ref a ∧ ∃ i : Int, y = .int i ∧ (0 ≤ i ∧ i < ns.length) ∧ Q (.int (ns.getD i.toNat 0)) H) := by
    rintro value slice pins s σ H x y v u Q I rx ry ⟨rfl, i, rfl, ⟨h0, h1⟩, q⟩ hs
    exact ix_tup value slice pins s σ H _ _ v u Q I rx ry ⟨a, _, i, _, rfl, rfl, hT H, at_tab h0 h1, q⟩ hs
  have e := pe_ix (pos := pos) hr (pe_glob (pos := p) (v := .ref a) hg ha rfl hd) hi hs
  have z : tOp (fun x y H Q => x = .ref a ∧ ∃ i : Int, y = .int i ∧ (0 ≤ i ∧ i < ns.length) ∧ Q (.int (ns.getD i.toNat 0)) H) (tC (.ref a)) ti = tTab ns ti := by
    funext σ H Q
    show ti σ H _ = ti σ H _
    congr 1
    funext y H1
    exact propext ⟨fun h => h.2, fun h => ⟨rfl, h⟩⟩
  rw [z] at e
  exact e
theorem in_ints {i : Int} : ∀ {ns : List Int}, inV (.int i) (ns.map V.int) = decide (i ∈ ns)
  | [] => by simp [inV]
  | n :: r => by
    have ih := in_ints (i := i) (ns := r)
    show (eqV (.int n) (.int i) || inV (.int i) (r.map V.int)) = _
    rw [ih]
    show ((n == i) || decide (i ∈ r)) = _
    by_cases h : n = i
    · subst h
      simp
    · have h' : ¬ i = n := fun z => h z.symm
      simp [h, h']
/-- is it in the table -/
def tInTab (ns : List Int) (ti : TE) : TE := fun σ H Q => ti σ H fun y H1 => ∃ i : Int, y = .int i ∧ Q (.bl (decide (i ∈ ns))) H1
theorem pe_inTab {X : Cx} {x : Str} {ns : List Int} {p pos : Pos} {b : Expr} {ti : TE} (hm : Tab X.K X.mg x ns) (hi : PE X b ti) (hg : Gl X x := by rfl) (hd : (x == ("__debug__" : Str)) = false := by decide) :
    PE X (.Compare b [.In] [.Name x p] pos) (tInTab ns ti) := by
  obtain ⟨a, ha, hT⟩ := hm
  have hr : OpR X (compareOp .In) (fun x y H Q => y = .ref a ∧ ∃ i : Int, x = .int i ∧ Q (.bl (decide (i ∈ ns))) H) := by
    rintro pins s σ H x y v u Q I rx ry ⟨rfl, i, rfl, q⟩
    refine op_in_seq pins s σ H _ _ v u Q I rx ry ⟨a, _, rfl, .inr (hT H), rfl, ?_, ?_⟩
    · rw [List.all_map]
      exact List.all_eq_true.mpr fun _ _ => rfl
    · rw [in_ints]
      exact q
  have e := pe_cmpR (pos := pos) hr hi (pe_glob (pos := p) (v := .ref a) hg ha rfl hd) rfl
  have z : tOp (fun x y H Q => y = .ref a ∧ ∃ i : Int, x = .int i ∧ Q (.bl (decide (i ∈ ns))) H) ti (tC (.ref a)) = tInTab ns ti := by
    funext σ H Q
    show ti σ H _ = ti σ H _
    congr 1
    funext y H1
    exact propext ⟨fun h => h.2, fun h => ⟨rfl, h⟩⟩
  rw [z] at e
  exact e
theorem pt_inTab {X : Cx} {x : Str} {ns : List Int} {p pos : Pos} {b : Expr} {ti : TE} (hm : Tab X.K X.mg x ns) (hi : PE X b ti) (hg : Gl X x := by rfl) (hd : (x == ("__debug__" : Str)) = false := by decide) :
    PT X (.Compare b [.In] [.Name x p] pos) (tB (tInTab ns ti)) := by
  obtain ⟨a, ha, hT⟩ := hm
  have hr : OpR X (compareOp .In) (fun x y H Q => y = .ref a ∧ ∃ i : Int, x = .int i ∧ Q (.bl (decide (i ∈ ns))) H) := by
    rintro pins s σ H x y v u Q I rx ry ⟨rfl, i, rfl, q⟩
    refine op_in_seq pins s σ H _ _ v u Q I rx ry ⟨a, _, rfl, .inr (hT H), rfl, ?_, ?_⟩
    · rw [List.all_map]
      exact List.all_eq_true.mpr fun _ _ => rfl
    · rw [in_ints]
      exact q
  have e := pt_cmpR (pos := pos) hr hi (pe_glob (pos := p) (v := .ref a) hg ha rfl hd) rfl
  have z : tTest (tOp (fun x y H Q => y = .ref a ∧ ∃ i : Int, x = .int i ∧ Q (.bl (decide (i ∈ ns))) H) ti (tC (.ref a))) = tB (tInTab ns ti) := by
    funext σ H Q
    show ti σ H _ = ti σ H _
    congr 1
    funext y H1
    exact propext ⟨fun h => h.2, fun h => ⟨rfl, h⟩⟩
  rw [z] at e
  exact e
/-- what the top has of a def -/
structure Def (K : PySem.W.Frag) (mg : Str → Option Value) (x : Str) (st : Stmt) (ps : List Str) (f : Addr) (fd : FuncData) : Prop where
  F : Fun K x x st f fd
  g : mg x = some (.ref f)
  bt : ∀ (s : Shared) (us : List Value), us.length = ps.length → BindsTo s fd ⟨us, []⟩ (ps.zip us)
theorem Def.b {K : PySem.W.Frag} {mg : Str → Option Value} {x : Str} {st : Stmt} {ps : List Str} {f : Addr} {fd : FuncData} (D : Def K mg x st ps f fd) : Binds K fd ps [] := fun s us _ hl => by
  rw [List.append_nil] at hl ⊢
  exact D.bt s us hl
theorem has_of {P : Program} {w : World} {K : PySem.W.Frag} {mg : Str → Option Value} {base : Heap} {x : Str} {st : Stmt} {ps : List Str} {k : Nat} {sp : Sp} (D : ∃ f fd, Def K mg x st ps f fd)
    (h : ∀ f fd, Def K mg x st ps f fd → FnOk P w K mg base CX0 k f fd ps sp) : Has P w K mg base x k ps sp := by
  obtain ⟨f, fd, D⟩ := D
  exact ⟨f, fd, h f fd D, D.g, D.F.kp, D.b⟩
theorem cxOf_K {CX : CXT} {P : Program} {w : World} {K : PySem.W.Frag} {mg : Str → Option Value} {base : Heap} {N : List Str} {q : Str} {sc : Scope} {f : Addr} {cd : Value} {A : Around} {o : List Env} {s : Shared} {H : Hp} {E : XK} : (cxOf CX P w K mg base N q sc f cd A o s H E).K = K := rfl
theorem Same.tup {K : PySem.W.Frag} {H H' : Hp} {a : Addr} {xs : List V} (e : Same H H') (h : SqT K H a xs) : SqT K H' a xs := by
  rcases h with (h | ⟨o, h⟩) | h
  · exact .inl (.inl (e _ _ h))
  · exact .inl (.inr ⟨o, e _ _ h⟩)
  · exact .inr h
theorem Same.new {H : Hp} {p : Addr} {o : HO} (hp : H p = none) : Same H (upd H p o) := fun b o' h => by
  rw [upd_ne (fun z => by rw [z, hp] at h; cases h)]
  exact h
theorem ne_new {H : Hp} {p q : Addr} {o : HO} (h : upd H p o q = none) : q ≠ p := fun z => by
  rw [z, upd_same] at h
  cases h
/-- tuple(xs), len(xs): their readings by name -/
def rTupOf (K : PySem.W.Frag) : List V → Hp → VK → Prop := fun xs H Q => ∃ p ys, xs = [.ref p] ∧ ((SqL K H p ys ∧ ∀ l, H l = none → Q (.ref l) (upd H l (.tup ys))) ∨ (SqT K H p ys ∧ Q (.ref p) H))
def rLenOf (K : PySem.W.Frag) : List V → Hp → VK → Prop := fun xs H Q => ∃ p ys, xs = [.ref p] ∧ (SqL K H p ys ∨ SqT K H p ys) ∧ Q (.int ys.length) H
theorem line {n : Nat} (h : n ≤ 1000000) : n ≤ sizeLine := Nat.le_trans h (by decide)
end Sn
namespace Sn
open PySem PySem.Spec PyProof.Rows L2
/-! ### The text: each def by its place in the program -/
def top (i : Nat) : Stmt := PySem.Challenge.pw_spellednotes_s04_write.main.body.getD i (.Pass ⟨0, 0, 0, 0⟩)
abbrev s_is_note : Stmt := top 9
theorem sc_is_note : FnScope ["letter", "raised", "octave"] ["letter", "raised", "octave"] (defScope s_is_note) := ⟨rfl, rfl, rfl, by decide +kernel, rfl, by decide +kernel, by decide +kernel⟩
abbrev s_is_key : Stmt := top 10
theorem sc_is_key : FnScope ["in_key"] ["in_key"] (defScope s_is_key) := ⟨rfl, rfl, rfl, by decide +kernel, rfl, by decide +kernel, by decide +kernel⟩
abbrev s_step_of : Stmt := top 11
theorem sc_step_of : FnScope ["letter", "octave"] ["letter", "octave"] (defScope s_step_of) := ⟨rfl, rfl, rfl, by decide +kernel, rfl, by decide +kernel, by decide +kernel⟩
abbrev s_raised_by_key : Stmt := top 12
theorem sc_raised_by_key : FnScope ["in_key", "letter", "place"] ["in_key", "letter"] (defScope s_raised_by_key) := ⟨rfl, rfl, rfl, by decide +kernel, rfl, by decide +kernel, by decide +kernel⟩
abbrev s_notes_in : Stmt := top 13
theorem sc_notes_in : FnScope ["numbers", "start"] ["numbers"] (defScope s_notes_in) := ⟨rfl, rfl, rfl, by decide +kernel, rfl, by decide +kernel, by decide +kernel⟩
abbrev s_bars_in : Stmt := top 14
theorem sc_bars_in : FnScope ["numbers", "bars", "place", "start"] ["numbers"] (defScope s_bars_in) := ⟨rfl, rfl, rfl, by decide +kernel, rfl, by decide +kernel, by decide +kernel⟩
abbrev s_are_notes : Stmt := top 15
theorem sc_are_notes : FnScope ["notes", "letter", "raised", "octave"] ["notes"] (defScope s_are_notes) := ⟨rfl, rfl, rfl, by decide +kernel, rfl, by decide +kernel, by decide +kernel⟩
abbrev s_letters_raised_otherwise : Stmt := top 16
theorem sc_letters_raised_otherwise : FnScope ["in_key", "notes", "letter", "raised", "octave"] ["in_key", "notes"] (defScope s_letters_raised_otherwise) := ⟨rfl, rfl, rfl, by decide +kernel, rfl, by decide +kernel, by decide +kernel⟩
abbrev s_written_bar : Stmt := top 17
theorem sc_written_bar : FnScope ["in_key", "notes", "letters_otherwise", "in_force", "written", "letter", "raised", "octave", "step", "by_key", "sign", "warned"] ["in_key", "notes", "letters_otherwise"] (defScope s_written_bar) := ⟨rfl, rfl, rfl, by decide +kernel, rfl, by decide +kernel, by decide +kernel⟩
abbrev s_counted : Stmt := top 18
theorem sc_counted : FnScope ["numbers"] ["numbers"] (defScope s_counted) := ⟨rfl, rfl, rfl, by decide +kernel, rfl, by decide +kernel, by decide +kernel⟩
abbrev s_write : Stmt := top 19
theorem sc_write : FnScope ["in_key", "bars", "answer", "letters_otherwise", "notes"] ["in_key", "bars"] (defScope s_write) := ⟨rfl, rfl, rfl, by decide +kernel, rfl, by decide +kernel, by decide +kernel⟩
/-- what the top has left -/
structure Txt (K : PySem.W.Frag) (mg : Str → Option Value) : Prop where
  c_REFUSED : ∃ t, mg "REFUSED" = some (.int (-1) t)
  c_LETTERS : ∃ t, mg "LETTERS" = some (.int (7) t)
  c_MOST_RAISED : ∃ t, mg "MOST_RAISED" = some (.int (3) t)
  c_LOWEST_OCTAVE : ∃ t, mg "LOWEST_OCTAVE" = some (.int (-1) t)
  c_HIGHEST_OCTAVE : ∃ t, mg "HIGHEST_OCTAVE" = some (.int (9) t)
  c_MOST_IN_KEY : ∃ t, mg "MOST_IN_KEY" = some (.int (7) t)
  c_NUMBERS_IN_NOTE : ∃ t, mg "NUMBERS_IN_NOTE" = some (.int (3) t)
  c_FIFTHS_OF_LETTERS : Tab K mg "FIFTHS_OF_LETTERS" [0, 2, 4, -1, 1, 3, 5]
  b_len : mg "len" = none
  b_list : mg "list" = none
  b_range : mg "range" = none
  b_tuple : mg "tuple" = none
  d_is_note : ∃ f fd, Def K mg "is_note" s_is_note ["letter", "raised", "octave"] f fd
  d_is_key : ∃ f fd, Def K mg "is_key" s_is_key ["in_key"] f fd
  d_step_of : ∃ f fd, Def K mg "step_of" s_step_of ["letter", "octave"] f fd
  d_raised_by_key : ∃ f fd, Def K mg "raised_by_key" s_raised_by_key ["in_key", "letter"] f fd
  d_notes_in : ∃ f fd, Def K mg "notes_in" s_notes_in ["numbers"] f fd
  d_bars_in : ∃ f fd, Def K mg "bars_in" s_bars_in ["numbers"] f fd
  d_are_notes : ∃ f fd, Def K mg "are_notes" s_are_notes ["notes"] f fd
  d_letters_raised_otherwise : ∃ f fd, Def K mg "letters_raised_otherwise" s_letters_raised_otherwise ["in_key", "notes"] f fd
  d_written_bar : ∃ f fd, Def K mg "written_bar" s_written_bar ["in_key", "notes", "letters_otherwise"] f fd
  d_counted : ∃ f fd, Def K mg "counted" s_counted ["numbers"] f fd
  d_write : ∃ f fd, Def K mg "write" s_write ["in_key", "bars"] f fd
end Sn
namespace Sn
open PySem PySem.Spec PyProof.Rows L2
/-! ### The mathematics -/
theorem nat_tab (l : Int) : ([0, 2, 4, 5, 7, 9, 11] : List Int).getD l.toNat 0 = Sw68.natural l := rfl
theorem fdiv7 (s : Int) : s.fdiv 7 = s / 7 := Int.fdiv_eq_ediv_of_nonneg s (by decide)
theorem fmod7 (s : Int) : s.fmod 7 = s % 7 := Int.fmod_eq_emod_of_nonneg s (by decide)
theorem note_iff {l r o : Int} : Sw68.noteOk ⟨l, r, o⟩ = true ↔ (0 ≤ l ∧ l ≤ 6) ∧ (-3 ≤ r ∧ r ≤ 3) ∧ (-1 ≤ o ∧ o ≤ 9) := by
  simp only [Sw68.noteOk, Bool.and_eq_true, decide_eq_true_eq]
  exact Iff.rfl
theorem ok_l {l r o : Int} (h : Sw68.noteOk ⟨l, r, o⟩ = true) : 0 ≤ l ∧ l ≤ 6 := by
  simp only [Sw68.noteOk, Bool.and_eq_true, decide_eq_true_eq] at h
  exact h.1
theorem int_in {z : Int} {l : List Int} (h : -2147483648 ≤ z ∧ z ≤ 2147483647) : Sw68Neutral.intIn (z :: l) = some (z, l) := by
  unfold Sw68Neutral.intIn
  exact if_pos ⟨by omega, by omega⟩
theorem note_in {a b c : Int} {l : List Int} (h1 : -2147483648 ≤ a ∧ a ≤ 2147483647) (h2 : -2147483648 ≤ b ∧ b ≤ 2147483647) (h3 : -2147483648 ≤ c ∧ c ≤ 2147483647) : Sw68Neutral.noteIn (a :: b :: c :: l) = some (⟨a, b, c⟩, l) := by
  unfold Sw68Neutral.noteIn
  rw [int_in h1]
  show (Option.bind (Sw68Neutral.intIn (b :: c :: l)) _) = _
  rw [int_in h2]
  show (Option.map _ (Sw68Neutral.intIn (c :: l))) = _
  rw [int_in h3]
  rfl
theorem interval_in {a b : Int} {l : List Int} (h1 : -2147483648 ≤ a ∧ a ≤ 2147483647) (h2 : -2147483648 ≤ b ∧ b ≤ 2147483647) : Sw68Neutral.intervalIn (a :: b :: l) = some (⟨a, b⟩, l) := by
  unfold Sw68Neutral.intervalIn
  rw [int_in h1]
  show (Option.map _ (Sw68Neutral.intIn (b :: l))) = _
  rw [int_in h2]
  rfl
def slotI (σ : L2.St) (i : Nat) : Int := match σ[i]? with
  | some (some (.int f)) => f
  | _ => 0
def lenAt (H : Hp) (B : Addr) : Nat := match H B with
  | some (.lst xs) => xs.length
  | _ => 0
theorem lenAt_of {H : Hp} {B : Addr} {xs : List V} (h : H B = some (.lst xs)) : lenAt H B = xs.length := by
  unfold lenAt
  rw [h]
theorem iteY {c : Bool} {A B : Prop} (h : c = true) (k : A) : if c = true then A else B := by
  rw [if_pos h]
  exact k
theorem iteN {c : Bool} {A B : Prop} (h : ¬ c = true) (k : B) : if c = true then A else B := by
  rw [if_neg h]
  exact k
def sp_is_note : Sp := fun vs H Q _ => ∃ l r o : Int, vs = [.int l, .int r, .int o] ∧ Q (.bl (Sw68.noteOk ⟨l, r, o⟩)) H
theorem ok_is_note {P : Program} {w : World} {K : PySem.W.Frag} {mg : Str → Option Value} {base : Heap} (T : Txt K mg) {f : Addr} {fd : FuncData} (D : Def K mg "is_note" s_is_note ["letter", "raised", "octave"] f fd) : FnOk P w K mg base CX0 1 f fd ["letter", "raised", "octave"] (sp_is_note) := by
  refine D.F.ok sc_is_note (fun vs H Q E h => ?_) (fun cdv A outer s H vs Q E hr h => ⟨_, (pss_cons (ps_if (pt_not (pt_chain op_le op_lt pe_int (pv 0) (pe_globI T.c_LETTERS))) (pss_one (ps_ret pe_bl)) pss_nil)
      (pss_cons (ps_if (pt_not (pt_chain op_le op_le (pe_un un_neg (pe_globI T.c_MOST_RAISED)) (pv 1) (pe_globI T.c_MOST_RAISED))) (pss_one (ps_ret pe_bl)) pss_nil)
      (pss_one (ps_ret (pe_chain op_le op_le (pe_globI T.c_LOWEST_OCTAVE) (pv 2) (pe_globI T.c_HIGHEST_OCTAVE)))))), ?_⟩)
  · obtain ⟨l, r, o, rfl, _⟩ := h
    rfl
  · obtain ⟨l, r, o, rfl, k⟩ := h
    have e : ∀ b, b = Sw68.noteOk ⟨l, r, o⟩ → Q (.bl b) H := fun b z => z ▸ k
    simp only [tSeq, tAsg, tIfS, tRet, tNext, tOp, tUn, tTest, tB, tNot, tAnd, tOr, tAndV, tOrV, tNotV, tChain, tVar, tC, tCons, tNil, tCall, tCB, tIf, tDrop, gName, tAug, ipI, rI, rI0, rU, CMul, CDiv, rEq, rNe, scal, tTab, tInTab, cxOf_K, L2.start, Nat.reduceAdd, Nat.reduceSub, Nat.sub_self, List.map_cons, List.map_nil, List.length_cons, List.length_nil, List.replicate, List.append_nil, List.cons_append, List.nil_append, List.set_cons_zero, List.set_cons_succ, List.getElem?_cons_zero, List.getElem?_cons_succ, Option.some.injEq, List.cons.injEq, V.int.injEq, V.bl.injEq, V.ref.injEq, and_true, true_and, exists_eq_left, and_assoc, exists_eq_left', exists_and_left, decide_eq_true_eq, Bool.true_eq_false, if_true, if_false]
    repeat' split
    all_goals
      apply e
      clear e k
      rw [Bool.eq_iff_iff, note_iff]
      simp at *
      try omega
theorem has_is_note {P : Program} {w : World} {K : PySem.W.Frag} {mg : Str → Option Value} {base : Heap} (T : Txt K mg) : Has P w K mg base "is_note" 1 ["letter", "raised", "octave"] (sp_is_note) :=
  has_of T.d_is_note fun f fd D => ok_is_note T D
def sp_is_key : Sp := fun vs H Q _ => ∃ k : Int, vs = [.int k] ∧ Q (.bl (Sw68.keyOk k)) H
theorem key_iff {k : Int} : Sw68.keyOk k = true ↔ (-7 ≤ k ∧ k ≤ 7) := by
  simp only [Sw68.keyOk, Bool.and_eq_true, decide_eq_true_eq]
  exact Iff.rfl
theorem ok_is_key {P : Program} {w : World} {K : PySem.W.Frag} {mg : Str → Option Value} {base : Heap} (T : Txt K mg) {f : Addr} {fd : FuncData} (D : Def K mg "is_key" s_is_key ["in_key"] f fd) : FnOk P w K mg base CX0 1 f fd ["in_key"] (sp_is_key) := by
  refine D.F.ok sc_is_key (fun vs H Q E h => ?_) (fun cdv A outer s H vs Q E hr h => ⟨_, (pss_one (ps_ret (pe_chain op_le op_le (pe_un un_neg (pe_globI T.c_MOST_IN_KEY)) (pv 0) (pe_globI T.c_MOST_IN_KEY)))), ?_⟩)
  · obtain ⟨k, rfl, _⟩ := h
    rfl
  · obtain ⟨k, rfl, q⟩ := h
    have e : ∀ b, b = Sw68.keyOk k → Q (.bl b) H := fun b z => z ▸ q
    simp only [tSeq, tAsg, tIfS, tRet, tNext, tOp, tUn, tTest, tB, tNot, tAnd, tOr, tAndV, tOrV, tNotV, tChain, tVar, tC, tCons, tNil, tCall, tCB, tIf, tDrop, gName, tAug, ipI, rI, rI0, rU, CMul, CDiv, rEq, rNe, scal, tTab, tInTab, cxOf_K, L2.start, Nat.reduceAdd, Nat.reduceSub, Nat.sub_self, List.map_cons, List.map_nil, List.length_cons, List.length_nil, List.replicate, List.append_nil, List.cons_append, List.nil_append, List.set_cons_zero, List.set_cons_succ, List.getElem?_cons_zero, List.getElem?_cons_succ, Option.some.injEq, List.cons.injEq, V.int.injEq, V.bl.injEq, V.ref.injEq, and_true, true_and, exists_eq_left, and_assoc, exists_eq_left', exists_and_left, decide_eq_true_eq, Bool.true_eq_false, if_true, if_false]
    repeat' split
    all_goals
      apply e
      clear e q
      rw [Bool.eq_iff_iff, key_iff]
      simp at *
      try omega
theorem has_is_key {P : Program} {w : World} {K : PySem.W.Frag} {mg : Str → Option Value} {base : Heap} (T : Txt K mg) : Has P w K mg base "is_key" 1 ["in_key"] (sp_is_key) :=
  has_of T.d_is_key fun f fd D => ok_is_key T D
def sp_step_of : Sp := fun vs H Q _ => ∃ l o : Int, vs = [.int l, .int o] ∧ Q (.int (7 * o + l)) H
theorem ok_step_of {P : Program} {w : World} {K : PySem.W.Frag} {mg : Str → Option Value} {base : Heap} (T : Txt K mg) {f : Addr} {fd : FuncData} (D : Def K mg "step_of" s_step_of ["letter", "octave"] f fd) : FnOk P w K mg base CX0 1 f fd ["letter", "octave"] (sp_step_of) := by
  refine D.F.ok sc_step_of (fun vs H Q E h => ?_) (fun cdv A outer s H vs Q E hr h => ⟨_, (pss_one (ps_ret (pe_op op_add (pe_op op_mul (pe_globI T.c_LETTERS) (pv 1)) (pv 0)))), ?_⟩)
  · obtain ⟨l, o, rfl, _⟩ := h
    rfl
  · obtain ⟨l, o, rfl, k⟩ := h
    simp only [tSeq, tAsg, tIfS, tRet, tNext, tOp, tUn, tTest, tB, tNot, tAnd, tOr, tAndV, tOrV, tNotV, tChain, tVar, tC, tCons, tNil, tCall, tCB, tIf, tDrop, gName, tAug, ipI, rI, rI0, rU, CMul, CDiv, rEq, rNe, scal, tTab, tInTab, cxOf_K, L2.start, Nat.reduceAdd, Nat.reduceSub, Nat.sub_self, List.map_cons, List.map_nil, List.length_cons, List.length_nil, List.replicate, List.append_nil, List.cons_append, List.nil_append, List.set_cons_zero, List.set_cons_succ, List.getElem?_cons_zero, List.getElem?_cons_succ, Option.some.injEq, List.cons.injEq, V.int.injEq, V.bl.injEq, V.ref.injEq, and_true, true_and, exists_eq_left, and_assoc, exists_eq_left', exists_and_left, decide_eq_true_eq, Bool.true_eq_false, if_true, if_false]
    exact ⟨.inl (by decide), k⟩
theorem has_step_of {P : Program} {w : World} {K : PySem.W.Frag} {mg : Str → Option Value} {base : Heap} (T : Txt K mg) : Has P w K mg base "step_of" 1 ["letter", "octave"] (sp_step_of) :=
  has_of T.d_step_of fun f fd D => ok_step_of T D
def sp_raised_by_key : Sp := fun vs H Q _ => ∃ k l : Int, vs = [.int k, .int l] ∧ (0 ≤ l ∧ l ≤ 6) ∧ Q (.int (Sw68.keyAlt k l)) H
theorem keyAlt_eq {k l : Int} (h : 0 ≤ l ∧ l ≤ 6) : Sw68.keyAlt k l = if ([0, 2, 4, -1, 1, 3, 5] : List Int).getD l.toNat 0 + 1 < k then 1 else if 7 + k ≤ ([0, 2, 4, -1, 1, 3, 5] : List Int).getD l.toNat 0 + 1 then -1 else 0 := by
  have e : ((Sw68.ORDER.idxOf l : Nat) : Int) = ([0, 2, 4, -1, 1, 3, 5] : List Int).getD l.toNat 0 + 1 := by
    have c : l = 0 ∨ l = 1 ∨ l = 2 ∨ l = 3 ∨ l = 4 ∨ l = 5 ∨ l = 6 := by omega
    rcases c with rfl | rfl | rfl | rfl | rfl | rfl | rfl <;> rfl
  unfold Sw68.keyAlt
  rw [← e]
theorem ok_raised_by_key {P : Program} {w : World} {K : PySem.W.Frag} {mg : Str → Option Value} {base : Heap} (T : Txt K mg) {f : Addr} {fd : FuncData} (D : Def K mg "raised_by_key" s_raised_by_key ["in_key", "letter"] f fd) : FnOk P w K mg base CX0 1 f fd ["in_key", "letter"] (sp_raised_by_key) := by
  refine D.F.ok sc_raised_by_key (fun vs H Q E h => ?_) (fun cdv A outer s H vs Q E hr h => ⟨_, (pss_cons (ps_set (i := 2) sc_raised_by_key.nd rfl (Or.inl rfl) (pe_op op_add (pe_tab T.c_FIFTHS_OF_LETTERS (pv 1) (fun _ _ => rfl)) pe_int))
      (pss_cons (ps_if (pt_cmpR op_lt (pv 2) (pv 0) (nomark _)) (pss_one (ps_ret pe_int)) pss_nil)
      (pss_cons (ps_if (pt_cmpR op_ge (pv 2) (pe_op op_add (pe_globI T.c_LETTERS) (pv 0)) (nomark _)) (pss_one (ps_ret (pe_un un_neg pe_int))) pss_nil)
      (pss_one (ps_ret pe_int))))), ?_⟩)
  · obtain ⟨k, l, rfl, _⟩ := h
    rfl
  · obtain ⟨k, l, rfl, hl, q⟩ := h
    rw [keyAlt_eq hl] at q
    simp only [tSeq, tAsg, tIfS, tRet, tNext, tOp, tUn, tTest, tB, tNot, tAnd, tOr, tAndV, tOrV, tNotV, tChain, tVar, tC, tCons, tNil, tCall, tCB, tIf, tDrop, gName, tAug, ipI, rI, rI0, rU, CMul, CDiv, rEq, rNe, scal, tTab, tInTab, cxOf_K, L2.start, Nat.reduceAdd, Nat.reduceSub, Nat.sub_self, List.map_cons, List.map_nil, List.length_cons, List.length_nil, List.replicate, List.append_nil, List.cons_append, List.nil_append, List.set_cons_zero, List.set_cons_succ, List.getElem?_cons_zero, List.getElem?_cons_succ, Option.some.injEq, List.cons.injEq, V.int.injEq, V.bl.injEq, V.ref.injEq, and_true, true_and, exists_eq_left, and_assoc, exists_eq_left', exists_and_left, decide_eq_true_eq, Bool.true_eq_false, if_true, if_false]
    refine ⟨hl.1, by omega, ?_⟩
    generalize ([0, 2, 4, -1, 1, 3, 5] : List Int).getD l.toNat 0 + 1 = p at q ⊢
    by_cases c : p < k
    · rw [if_pos c] at q ⊢
      exact q
    · rw [if_neg c] at q ⊢
      by_cases c2 : 7 + k ≤ p
      · rw [if_pos c2] at q
        rw [if_pos c2]
        exact q
      · rw [if_neg c2] at q
        rw [if_neg c2]
        exact q
theorem has_raised_by_key {P : Program} {w : World} {K : PySem.W.Frag} {mg : Str → Option Value} {base : Heap} (T : Txt K mg) : Has P w K mg base "raised_by_key" 1 ["in_key", "letter"] (sp_raised_by_key) :=
  has_of T.d_raised_by_key fun f fd D => ok_raised_by_key T D
/-! the parse -/
theorem many_in {A : Type} {p : List Int → Option (A × List Int)} {e : A → List Int} {ok : A → Prop} (hp : ∀ l x r, p l = some (x, r) → l = e x ++ r ∧ ok x) :
    ∀ (k : Nat) (l : List Int) (xs : List A) (r : List Int), Sw68Neutral.many_ p k l = some (xs, r) → l = xs.flatMap e ++ r ∧ xs.length = k ∧ ∀ x ∈ xs, ok x
  | 0, l, xs, r, h => by
    unfold Sw68Neutral.many_ at h
    injection h with h
    injection h with h1 h2
    subst h1 h2
    exact ⟨rfl, rfl, fun x hx => nomatch hx⟩
  | k + 1, l, xs, r, h => by
    unfold Sw68Neutral.many_ at h
    cases e1 : p l with
    | none => rw [e1] at h; cases h
    | some x =>
      rw [e1] at h
      obtain ⟨x, l1⟩ := x
      obtain ⟨e1, o1⟩ := hp l x l1 e1
      change Option.map _ (Sw68Neutral.many_ p k l1) = _ at h
      cases e2 : Sw68Neutral.many_ p k l1 with
      | none => rw [e2] at h; cases h
      | some y =>
        rw [e2] at h
        obtain ⟨ys, r'⟩ := y
        injection h with h
        injection h with h1 h2
        have h1' : x :: ys = xs := h1
        have h2' : r' = r := h2
        subst h1' h2'
        obtain ⟨e3, e4, e5⟩ := many_in hp k l1 ys r' e2
        refine ⟨?_, by rw [List.length_cons, e4], fun z hz => ?_⟩
        · rw [e1, e3, List.flatMap_cons, List.append_assoc]
        · rcases List.mem_cons.mp hz with rfl | hz
          · exact o1
          · exact e5 z hz
/-- a list behind how many it has -/
def encL {A : Type} (e : A → List Int) (xs : List A) : List Int := (xs.length : Int) :: xs.flatMap e
theorem list_in {A : Type} {p : List Int → Option (A × List Int)} {e : A → List Int} {ok : A → Prop} (hp : ∀ l x r, p l = some (x, r) → l = e x ++ r ∧ ok x)
    (l : List Int) (xs : List A) (r : List Int) (h : Sw68Neutral.listIn p l = some (xs, r)) : l = encL e xs ++ r ∧ (xs.length ≤ 60 ∧ ∀ x ∈ xs, ok x) := by
  unfold Sw68Neutral.listIn at h
  cases l with
  | nil => cases h
  | cons n l =>
    by_cases c : 0 ≤ n ∧ n ≤ 60
    · have h' : (if 0 ≤ n ∧ n ≤ 60 then Sw68Neutral.many_ p n.toNat l else none) = some (xs, r) := h
      rw [if_pos c] at h'
      obtain ⟨h1, h2, h3⟩ := many_in hp _ _ _ _ h'
      refine ⟨?_, by omega, h3⟩
      unfold encL
      rw [List.cons_append, ← h1, h2, Int.toNat_of_nonneg c.1]
    · have h' : (if 0 ≤ n ∧ n ≤ 60 then Sw68Neutral.many_ p n.toNat l else none) = some (xs, r) := h
      rw [if_neg c] at h'
      cases h'
theorem int_in_inv {l : List Int} {z : Int} {r : List Int} (h : Sw68Neutral.intIn l = some (z, r)) : l = z :: r ∧ (-2147483648 ≤ z ∧ z ≤ 2147483647) := by
  unfold Sw68Neutral.intIn at h
  cases l with
  | nil => cases h
  | cons n l =>
    have h' : (if -(2 ^ 31) ≤ n ∧ n < 2 ^ 31 then some (n, l) else none) = some (z, r) := h
    by_cases c : -(2 ^ 31 : Int) ≤ n ∧ n < 2 ^ 31
    · rw [if_pos c] at h'
      injection h' with h'
      injection h' with h1 h2
      subst h1 h2
      exact ⟨rfl, by omega⟩
    · rw [if_neg c] at h'
      cases h'
abbrev outN (n : Sw68.Note) : List Int := [n.letter, n.alt, n.octave]
theorem note_in_inv (l : List Int) (x : Sw68.Note) (r : List Int) (h : Sw68Neutral.noteIn l = some (x, r)) : l = outN x ++ r ∧ True := by
  unfold Sw68Neutral.noteIn at h
  cases e1 : Sw68Neutral.intIn l with
  | none => rw [e1] at h; cases h
  | some a =>
    rw [e1] at h
    obtain ⟨a, l1⟩ := a
    change Option.bind (Sw68Neutral.intIn l1) _ = _ at h
    cases e2 : Sw68Neutral.intIn l1 with
    | none => rw [e2] at h; cases h
    | some b =>
      rw [e2] at h
      obtain ⟨b, l2⟩ := b
      change Option.map _ (Sw68Neutral.intIn l2) = _ at h
      cases e3 : Sw68Neutral.intIn l2 with
      | none => rw [e3] at h; cases h
      | some c =>
        rw [e3] at h
        obtain ⟨c, l3⟩ := c
        injection h with h
        injection h with h1 h2
        have h1' : (⟨a, b, c⟩ : Sw68.Note) = x := h1
        have h2' : l3 = r := h2
        subst h1' h2'
        obtain ⟨rfl, _⟩ := int_in_inv e1
        obtain ⟨rfl, _⟩ := int_in_inv e2
        obtain ⟨rfl, _⟩ := int_in_inv e3
        exact ⟨rfl, trivial⟩
/-- the numbers of bars of notes -/
abbrev encB (bs : List (List Sw68.Note)) : List Int := encL (encL outN) bs
theorem all_inv {A : Type} {x : Option (A × List Int)} {a : A} (h : Sw68Neutral.all_ x = some a) : x = some (a, []) := by
  unfold Sw68Neutral.all_ at h
  cases x with
  | none => cases h
  | some y =>
    obtain ⟨y, l⟩ := y
    cases l with
    | nil =>
      injection h with h
      have h' : y = a := h
      rw [h']
    | cons z l => cases h
theorem asked_call {c : List Int} (h : Sw68Neutral.asked [c] = true) : ∃ x, Sw68Neutral.callOf c = some x := by
  unfold Sw68Neutral.asked at h
  rw [Bool.and_eq_true] at h
  have h1 := h.1
  rw [List.all_cons, Bool.and_eq_true] at h1
  exact Option.isSome_iff_exists.mp h1.1
/-! ### notes in the heap: a list of tuples -/
abbrev vN (n : Sw68.Note) : List V := [.int n.letter, .int n.alt, .int n.octave]
def NotesAt (H : Hp) (a : Addr) (ns : List Sw68.Note) : Prop := ∃ rs : List Addr, H a = some (.lst (rs.map V.ref)) ∧ Paired (fun r n => H r = some (.tup (vN n))) rs ns
theorem Same.notes {H H' : Hp} {a : Addr} {ns : List Sw68.Note} (s : Same H H') (h : NotesAt H a ns) : NotesAt H' a ns := by
  obtain ⟨rs, h1, h2⟩ := h
  exact ⟨rs, s _ _ h1, L2.Paired.mapP h2 fun r n h => s _ _ h⟩
theorem paired_at {α β : Type} {F : α → β → Prop} : ∀ {l₁ : List α} {l₂ : List β}, Paired F l₁ l₂ → ∀ {i : Nat} {x : α}, l₁[i]? = some x → ∃ y, l₂[i]? = some y ∧ F x y
  | _, _, .nil, i, x, h => by simp at h
  | _, _, .cons h1 h2, 0, x, h => by
    rw [List.getElem?_cons_zero] at h
    injection h with h
    subst h
    exact ⟨_, rfl, h1⟩
  | _, _, .cons h1 h2, i + 1, x, h => by
    rw [List.getElem?_cons_succ] at h
    obtain ⟨y, e, f⟩ := paired_at h2 h
    exact ⟨y, by rw [List.getElem?_cons_succ]; exact e, f⟩
theorem ref_at {rs : List Addr} {i : Nat} {x : V} (h : (rs.map V.ref)[i]? = some x) : ∃ r, rs[i]? = some r ∧ x = .ref r := by
  rw [List.getElem?_map] at h
  cases e : rs[i]? with
  | none => rw [e] at h; cases h
  | some r =>
    rw [e] at h
    injection h with h
    exact ⟨r, rfl, h.symm⟩
theorem drop_at {α : Type} {l : List α} {i : Nat} {x : α} (h : l[i]? = some x) : l.drop i = x :: l.drop (i + 1) := by
  obtain ⟨hi, e⟩ := List.getElem?_eq_some_iff.mp h
  rw [List.drop_eq_getElem_cons hi, e]
theorem take_at {α : Type} {l : List α} {i : Nat} {x : α} (h : l[i]? = some x) : l.take (i + 1) = l.take i ++ [x] := by
  rw [List.take_add_one, h]
  rfl
theorem Same.upd {H H' : Hp} {p : Addr} {o : HO} (s : Same H H') (hp : H p = none) : Same H (upd H' p o) := fun b o' h => by
  rw [upd_ne (fun z => by rw [z, hp] at h; cases h)]
  exact s _ _ h
/-- all but the thing at l stays -/
def SameB (l : Addr) (H H' : Hp) : Prop := ∀ b o, b ≠ l → H b = some o → H' b = some o
theorem SameB.refl {l : Addr} {H : Hp} : SameB l H H := fun _ _ _ h => h
theorem SameB.same {l : Addr} {H H1 H2 : Hp} (a : SameB l H H1) (b : Same H1 H2) : SameB l H H2 := fun x o n h => b _ _ (a x o n h)
theorem SameB.upd {l : Addr} {H H1 : Hp} {o : HO} (a : SameB l H H1) : SameB l H (upd H1 l o) := fun x o' n h => by
  rw [upd_ne n]
  exact a x o' n h
theorem SameB.notes {l : Addr} {H H' : Hp} {a : Addr} {ns : List Sw68.Note} {n : Int} {xs : List V} (s : SameB l H H') (hl : H l = some (.lst (.int n :: xs))) (h : NotesAt H a ns) : NotesAt H' a ns := by
  obtain ⟨rs, h1, h2⟩ := h
  refine ⟨rs, s _ _ ?_ h1, L2.Paired.mapP h2 fun r n h => s _ _ ?_ h⟩
  · intro z
    rw [z, hl] at h1
    injection h1 with h1
    injection h1 with h1
    cases rs with
    | nil => cases h1
    | cons r rs =>
      rw [List.map_cons] at h1
      injection h1 with h1
      cases h1
  · intro z
    rw [z, hl] at h
    injection h with h
    cases h
theorem rg3 {n : Nat} (h : n ≤ 1000000) : RgC 0 ((3 * n : Nat) : Int) 3 n := by
  have e : Builtin.Range.rangeSize 0 ((3 * n : Nat) : Int) 3 = (n : Int) := by
    unfold Builtin.Range.rangeSize
    rw [if_pos (by decide)]
    split <;> omega
  refine ⟨by decide, by decide, ?_, e⟩
  unfold Builtin.Range.small
  rw [e]
  unfold Builtin.Range.rangeFitsLong
  have b : ∀ x : Int, -2 ^ 63 ≤ x → x < 2 ^ 63 → (decide (-2 ^ 63 ≤ x) && decide (x < 2 ^ 63)) = true := fun x h0 h1 => by rw [decide_eq_true h0, decide_eq_true h1]; rfl
  rw [if_pos (show (3 : Int) > 0 by decide), b 0 (by omega) (by omega), b 3 (by omega) (by omega), b (n : Int) (by omega) (by omega), b ((3 * n : Nat) : Int) (by omega) (by omega), b (((3 * n : Nat) : Int) + (3 - 1)) (by omega) (by omega), Bool.or_true]
  rfl
theorem cut_mid (A B C : List V) {i j : Int} (hi : i = (A.length : Nat)) (hj : j = (A.length + B.length : Nat)) : cutV (A ++ (B ++ C)) (some i) (some j) = B := by
  subst hi hj
  unfold cutV
  rw [HT.sIx_nat, HT.sIx_nat]
  have e1 : min A.length (A ++ (B ++ C)).length = A.length := by
    rw [List.length_append]
    omega
  have e2 : min (A.length + B.length) (A ++ (B ++ C)).length = A.length + B.length := by
    rw [List.length_append, List.length_append]
    omega
  rw [e1, e2, List.drop_left, Nat.add_sub_cancel_left, List.take_left]
theorem flat_outN (ns : List Sw68.Note) : (ns.flatMap outN).length = 3 * ns.length := by
  induction ns with
  | nil => rfl
  | cons x l ih =>
    rw [List.flatMap_cons, List.length_append, ih, List.length_cons]
    show 3 + 3 * l.length = 3 * (l.length + 1)
    omega
theorem note_cut {ns : List Sw68.Note} {i : Nat} {x : Sw68.Note} (h : ns[i]? = some x) : cutV ((ns.flatMap outN).map V.int) (some (0 + (i : Int) * 3)) (some (0 + (i : Int) * 3 + 3)) = vN x := by
  have hi : i < ns.length := (List.getElem?_eq_some_iff.mp h).1
  have e : ns = ns.take i ++ (x :: ns.drop (i + 1)) := by rw [← drop_at h, List.take_append_drop]
  have e2 : (ns.flatMap outN).map V.int = ((ns.take i).flatMap outN).map V.int ++ (vN x ++ ((ns.drop (i + 1)).flatMap outN).map V.int) := by
    conv => lhs; rw [e]
    rw [List.flatMap_append, List.flatMap_cons, List.map_append, List.map_append]
    rfl
  have l : (((ns.take i).flatMap outN).map V.int).length = 3 * i := by
    rw [List.length_map, flat_outN, List.length_take]
    omega
  rw [e2]
  exact cut_mid _ _ _ (by rw [l]; omega) (by rw [l]; show _ = ((3 * i + 3 : Nat) : Int); omega)
def sp_notes_in (K : PySem.W.Frag) : Sp := fun vs H Q _ => ∃ (a : Addr) (ns : List Sw68.Note), vs = [.ref a] ∧ SqL K H a ((ns.flatMap outN).map V.int) ∧ ns.length ≤ 60 ∧
  ∀ (H' : Hp) (p : Addr), NotesAt H' p ns → Same H H' → H p = none → Q (.ref p) H'
theorem ok_notes_in {P : Program} {w : World} {K : PySem.W.Frag} {mg : Str → Option Value} {base : Heap} (T : Txt K mg) {f : Addr} {fd : FuncData} (D : Def K mg "notes_in" s_notes_in ["numbers"] f fd) : FnOk P w K mg base CX0 1 f fd ["numbers"] (sp_notes_in K) := by
  refine D.F.ok sc_notes_in (fun vs H Q E h => ?_) (fun cdv A outer s H vs Q E hr h => ⟨_, (pss_one (ps_ret (pe_lc (own := [("start", 1)]) (g := (gName 1)) (tt := tYes) (te := (tCB (rTupOf K) (tCons (tSl (rSlL K) (tVar 0) (tPart (tVar 1)) (tPart (tOp (rI0 fun i j => V.int (i + j)) (tVar 1) (tC (V.int (3)))))) tNil))) rfl sc_notes_in.nd (pi_range3 (by rfl) T.b_range (pa_cons pe_int (pa_cons (pe_callB call_len_seq (by rfl) T.b_len PySem.boot_len (pa_cons (pv 0) pa_nil)) (pa_cons (pe_globI T.c_NUMBERS_IN_NOTE) pa_nil)))) (blkOk_by (N := ["numbers", "start"]) (sc := defScope s_notes_in) (by decide +kernel)) (fun _ _ _ _ _ => (pg_name (i := 1) sc_notes_in.nd rfl (Or.inl rfl))) (fun _ _ _ _ _ => pts_nil) (fun _ _ _ _ _ => (pe_callTy call_tuple_of (by rfl) T.b_tuple (by decide +kernel) (pa_cons (pe_slice sl_list (pv 0) (po_some (pv 1)) (po_some (pe_op op_add (pv 1) (pe_globI T.c_NUMBERS_IN_NOTE)))) pa_nil)))))), ?_⟩)
  · obtain ⟨a, ns, rfl, _⟩ := h
    rfl
  · obtain ⟨a, ns, rfl, ha, hl, k⟩ := h
    simp only [tSeq, tAsg, tIfS, tRet, tNext, tOp, tUn, tTest, tB, tNot, tAnd, tOr, tAndV, tOrV, tNotV, tChain, tVar, tC, tCons, tNil, tCall, tCB, tIf, tDrop, gName, tAug, ipI, rI, rI0, rU, CMul, CDiv, rEq, rNe, scal, tTab, tInTab, cxOf_K, L2.start, Nat.reduceAdd, Nat.reduceSub, Nat.sub_self, List.map_cons, List.map_nil, List.length_cons, List.length_nil, List.replicate, List.append_nil, List.cons_append, List.nil_append, List.set_cons_zero, List.set_cons_succ, List.getElem?_cons_zero, List.getElem?_cons_succ, Option.some.injEq, List.cons.injEq, V.int.injEq, V.bl.injEq, V.ref.injEq, and_true, true_and, exists_eq_left, and_assoc, exists_eq_left', exists_and_left, decide_eq_true_eq, Bool.true_eq_false, if_true, if_false]
    refine ⟨_, rfl, a, rfl, _, .inl ha, 0, _, 3, ns.length, rfl, ?_, fun D hD => lc_it walk_rangeC
      (fun i Hc => Same H Hc ∧ ∃ rs : List Addr, Hc D = some (.lst (rs.map V.ref)) ∧ Paired (fun r n => Hc r = some (.tup (vN n))) rs (ns.take i)) ?_ (fun _ _ _ _ => trivial) ?_ ?_⟩
    · rw [List.length_map, flat_outN]
      exact rg3 (by omega)
    · exact ⟨Same.new hD, [], upd_same, .nil⟩
    · rintro i x Hc H' hi ⟨sm, rs, hrs, hp⟩ ⟨rfl, rfl⟩
      have hx : ns[i]? = some ns[i] := List.getElem?_eq_getElem hi
      simp only [tYes, eq_self, if_true]
      refine ⟨rfl, ?_⟩
      refine ⟨_, rfl, _, rfl, _, rfl, _, rfl, _, _, rfl, rfl, _, rfl, a, _, rfl, Same.seq sm ha, fun p1 hp1 => ⟨p1, _, rfl, .inl ⟨SqL.of upd_same, fun p2 hp2 => ?_⟩⟩⟩
      rw [note_cut hx] at hp2 ⊢
      have s2 : Same H' (upd (upd H' p1 (.lst (vN ns[i]))) p2 (.tup (vN ns[i]))) := (Same.new hp1).trans (Same.new hp2)
      refine ⟨rs.map V.ref, s2 _ _ hrs, line ?_, Same.upd (Same.trans sm s2) hD, rs ++ [p2], upd_same.trans (by rw [List.map_append]; rfl), ?_⟩
      · rw [List.length_map]
        have := hp.length
        rw [List.length_take] at this
        omega
      · rw [take_at hx]
        refine Paired.snoc (L2.Paired.mapP hp fun r n h => ?_) ?_
        · rw [upd_ne (ne_of h hrs (fun z => nomatch z))]
          exact s2 _ _ h
        · rw [upd_ne (ne_of upd_same (s2 _ _ hrs) (fun z => nomatch z))]
          exact upd_same
    · rintro Hc ⟨sm, rs, hrs, hp⟩
      rw [List.take_length] at hp
      exact k Hc D ⟨rs, hrs, hp⟩ sm hD
theorem has_notes_in {P : Program} {w : World} {K : PySem.W.Frag} {mg : Str → Option Value} {base : Heap} (T : Txt K mg) : Has P w K mg base "notes_in" 1 ["numbers"] (sp_notes_in K) :=
  has_of T.d_notes_in fun f fd D => ok_notes_in T D
def BarsAt (H : Hp) (a : Addr) (bs : List (List Sw68.Note)) : Prop := ∃ rs : List Addr, H a = some (.lst (rs.map V.ref)) ∧ Paired (fun r b => NotesAt H r b) rs bs
def sp_bars_in (K : PySem.W.Frag) : Sp := fun vs H Q _ => ∃ (a : Addr) (bs : List (List Sw68.Note)), vs = [.ref a] ∧ SqL K H a ((encB bs).map V.int) ∧ bs.length ≤ 60 ∧ (∀ b ∈ bs, b.length ≤ 60) ∧
  ∀ (H' : Hp) (p : Addr), BarsAt H' p bs → Same H H' → Q (.ref p) H'
theorem NotesAt.upd {H : Hp} {r B : Addr} {b : List Sw68.Note} {ys zs : List V} (h : NotesAt H r b) (ne : r ≠ B) (hB : H B = some (.lst ys)) : NotesAt (upd H B (.lst zs)) r b := by
  obtain ⟨rs, h1, h2⟩ := h
  refine ⟨rs, by rw [upd_ne ne]; exact h1, L2.Paired.mapP h2 fun x n h => ?_⟩
  rw [upd_ne (ne_of h hB (fun z => nomatch z))]
  exact h
/-- where the i-th bar's count stands -/
def plc (bs : List (List Sw68.Note)) (i : Nat) : Nat := 1 + ((bs.take i).flatMap (encL outN)).length
theorem encB_split {bs : List (List Sw68.Note)} {i : Nat} {b : List Sw68.Note} (h : bs[i]? = some b) :
    encB bs = ((bs.length : Int) :: (bs.take i).flatMap (encL outN)) ++ (((b.length : Int) :: b.flatMap outN) ++ (bs.drop (i + 1)).flatMap (encL outN)) := by
  have e : bs = bs.take i ++ (b :: bs.drop (i + 1)) := by rw [← drop_at h, List.take_append_drop]
  show (bs.length : Int) :: bs.flatMap (encL outN) = _
  have e2 : bs.flatMap (encL outN) = (bs.take i).flatMap (encL outN) ++ (encL outN b ++ (bs.drop (i + 1)).flatMap (encL outN)) := by
    conv => lhs; rw [e]
    rw [List.flatMap_append, List.flatMap_cons]
  rw [e2]
  rfl
theorem plc_len {bs : List (List Sw68.Note)} {i : Nat} : ((bs.length : Int) :: (bs.take i).flatMap (encL outN)).length = plc bs i := by
  unfold plc
  rw [List.length_cons]
  omega
theorem plc_at {bs : List (List Sw68.Note)} {i : Nat} {b : List Sw68.Note} (h : bs[i]? = some b) : ((encB bs).map V.int)[plc bs i]? = some (.int (b.length : Int)) := by
  rw [encB_split h, List.map_append, List.getElem?_append_right (by rw [List.length_map, plc_len]; exact Nat.le_refl _), List.length_map, plc_len, Nat.sub_self]
  rfl
theorem plc_next {bs : List (List Sw68.Note)} {i : Nat} {b : List Sw68.Note} (h : bs[i]? = some b) : plc bs (i + 1) = plc bs i + 1 + 3 * b.length := by
  unfold plc
  rw [take_at h, List.flatMap_append, List.length_append, List.flatMap_cons, List.flatMap_nil, List.append_nil]
  show 1 + (_ + (b.flatMap outN).length + 1) = _
  rw [flat_outN]
  omega
theorem bar_cut {bs : List (List Sw68.Note)} {i : Nat} {b : List Sw68.Note} (h : bs[i]? = some b) {x y : Int} (hx : x = (plc bs i + 1 : Nat)) (hy : y = (plc bs i + 1 + 3 * b.length : Nat)) :
    cutV ((encB bs).map V.int) (some x) (some y) = (b.flatMap outN).map V.int := by
  have e : (encB bs).map V.int = (((bs.length : Int) :: (bs.take i).flatMap (encL outN)) ++ [(b.length : Int)]).map V.int ++ ((b.flatMap outN).map V.int ++ ((bs.drop (i + 1)).flatMap (encL outN)).map V.int) := by
    rw [encB_split h]
    simp only [List.map_append, List.append_assoc, List.map_cons, List.map_nil, List.cons_append, List.nil_append]
  rw [e]
  have l : ((((bs.length : Int) :: (bs.take i).flatMap (encL outN)) ++ [(b.length : Int)]).map V.int).length = plc bs i + 1 := by
    rw [List.length_map, List.length_append, plc_len]
    rfl
  have l2 : ((b.flatMap outN).map V.int).length = 3 * b.length := by rw [List.length_map, flat_outN]
  exact cut_mid _ _ _ (by rw [l]; exact hx) (by rw [l, l2]; exact hy)
theorem ok_bars_in {P : Program} {w : World} {K : PySem.W.Frag} {mg : Str → Option Value} {base : Heap} (T : Txt K mg) {f : Addr} {fd : FuncData} (D : Def K mg "bars_in" s_bars_in ["numbers"] f fd) : FnOk P w K mg base CX0 2 f fd ["numbers"] (sp_bars_in K) := by
  refine D.F.ok sc_bars_in (fun vs H Q E h => ?_) (fun cdv A outer s H vs Q E hr h => ⟨_, (pss_cons (ps_set (i := 1) sc_bars_in.nd rfl (Or.inl rfl) (pe_lst pa_nil))
      (pss_cons (ps_set (i := 2) sc_bars_in.nd rfl (Or.inl rfl) pe_int)
      (pss_cons (ps_while PassesOwn.never (pt_cmpR op_lt (pe_callB call_len_seq (by rfl) T.b_len PySem.boot_len (pa_cons (pv 1) pa_nil)) (pe_ix ix_list (pv 0) pe_int (fun _ _ => rfl)) (nomark _))
      (pss_cons (ps_set (i := 3) sc_bars_in.nd rfl (Or.inl rfl) (pe_op op_add (pv 2) pe_int))
      (pss_cons (ps_set (i := 2) sc_bars_in.nd rfl (Or.inl rfl) (pe_op op_add (pv 3) (pe_op op_mul (pe_globI T.c_NUMBERS_IN_NOTE) (pe_ix ix_list (pv 0) (pv 2) (fun _ _ => rfl)))))
      (pss_one (ps_expr (pe_bm PySem.F.plainAttrs_list PySem.F.slot_list_append PySem.F.type_list_append mt_append (pv 1) (pa_cons (pe_has (has_notes_in T) (hr.mono (by decide)) (pa_cons (pe_slice sl_list (pv 0) (po_some (pv 3)) (po_some (pv 2))) pa_nil)) pa_nil)))))))
      (pss_one (ps_ret (pv 1)))))), ?_⟩)
  · obtain ⟨a, bs, rfl, _⟩ := h
    rfl
  · obtain ⟨a, bs, rfl, ha, hl, hb, k⟩ := h
    simp only [tSeq, tAsg, tIfS, tRet, tNext, tOp, tUn, tTest, tB, tNot, tAnd, tOr, tAndV, tOrV, tNotV, tChain, tVar, tC, tCons, tNil, tCall, tCB, tIf, tDrop, gName, tAug, ipI, rI, rI0, rU, CMul, CDiv, rEq, rNe, scal, tTab, tInTab, cxOf_K, L2.start, Nat.reduceAdd, Nat.reduceSub, Nat.sub_self, List.map_cons, List.map_nil, List.length_cons, List.length_nil, List.replicate, List.append_nil, List.cons_append, List.nil_append, List.set_cons_zero, List.set_cons_succ, List.getElem?_cons_zero, List.getElem?_cons_succ, Option.some.injEq, List.cons.injEq, V.int.injEq, V.bl.injEq, V.ref.injEq, and_true, true_and, exists_eq_left, and_assoc, exists_eq_left', exists_and_left, decide_eq_true_eq, Bool.true_eq_false, if_true, if_false, tLst]
    refine ⟨line (by decide), fun B hB => ?_⟩
    refine while_by (fun σ Hc => Same H Hc ∧ ∃ (i : Nat) (s3 : Option V) (rs : List Addr), i ≤ bs.length ∧ σ = [some (.ref a), some (.ref B), some (.int (plc bs i : Nat)), s3] ∧ Hc B = some (.lst (rs.map V.ref)) ∧
      Paired (fun r b => r ≠ B ∧ NotesAt Hc r b) rs (bs.take i)) (fun _ Hc => bs.length - lenAt Hc B) ⟨Same.new hB, 0, _, [], Nat.zero_le _, rfl, upd_same, .nil⟩ ?_ ?_
    · rintro σ Hc ⟨sm, i, s3, rs, hi, rfl, hc, hp⟩
      simp only [tSeq, tAsg, tIfS, tRet, tNext, tOp, tUn, tTest, tB, tNot, tAnd, tOr, tAndV, tOrV, tNotV, tChain, tVar, tC, tCons, tNil, tCall, tCB, tIf, tDrop, gName, tAug, ipI, rI, rI0, rU, CMul, CDiv, rEq, rNe, scal, tTab, tInTab, cxOf_K, L2.start, Nat.reduceAdd, Nat.reduceSub, Nat.sub_self, List.map_cons, List.map_nil, List.length_cons, List.length_nil, List.replicate, List.append_nil, List.cons_append, List.nil_append, List.set_cons_zero, List.set_cons_succ, List.getElem?_cons_zero, List.getElem?_cons_succ, Option.some.injEq, List.cons.injEq, V.int.injEq, V.bl.injEq, V.ref.injEq, and_true, true_and, exists_eq_left, and_assoc, exists_eq_left', exists_and_left, decide_eq_true_eq, Bool.true_eq_false, if_true, if_false, sp_notes_in]
      have li : rs.length = i := by
        rw [hp.length, List.length_take]
        omega
      refine ⟨_, .inl (SqL.of hc), a, _, 0, .int (bs.length : Int), rfl, rfl, Same.seq sm ha, atI_nat (show ((encB bs).map V.int)[0]? = some (.int (bs.length : Int)) from rfl), (bs.length : Int), rfl, ?_⟩
      by_cases c : i < bs.length
      · have hx : bs[i]? = some bs[i] := List.getElem?_eq_getElem c
        have hb' := hb _ (List.mem_of_getElem? hx)
        rw [if_pos (by rw [List.length_map, li]; omega)]
        refine ⟨a, _, _, .int (bs[i].length : Int), rfl, rfl, Same.seq sm ha, atI_nat (plc_at hx), _, rfl, .inl (by decide), ?_⟩
        refine ⟨_, rfl, .inl ⟨rfl, _, SqL.of hc⟩, _, rfl, _, rfl, _, rfl, _, rfl, _, rfl, a, _, rfl, Same.seq sm ha, fun p hp1 => ⟨p, bs[i], rfl, ?_, hb', fun H' q hq sm' hn => ⟨B, rs.map V.ref, .ref q, rfl, rfl, sm' _ _ (Same.new hp1 _ _ hc), line (by rw [List.length_map]; omega), ?_⟩⟩⟩
        · rw [bar_cut hx (by omega) (by omega)]
          exact SqL.of upd_same
        · have s2 : Same Hc H' := Same.trans (Same.new hp1) sm'
          have qB : q ≠ B := fun z => by rw [z, Same.new hp1 _ _ hc] at hn; cases hn
          refine ⟨Same.upd (Same.trans sm s2) hB, ⟨i + 1, c, ?_, rs ++ [q], upd_same.trans (by rw [List.map_append]; rfl), ?_⟩, ?_⟩
          · rw [plc_next hx]
            omega
          · rw [take_at hx]
            refine Paired.snoc (L2.Paired.mapP hp fun r b h => ⟨h.1, ?_⟩) ⟨qB, NotesAt.upd hq qB (s2 _ _ hc)⟩
            exact NotesAt.upd (Same.notes s2 h.2) h.1 (s2 _ _ hc)
          · rw [lenAt_of hc, lenAt_of upd_same, List.length_append, List.length_map, li]
            show _ - (i + 1) < _
            omega
      · rw [if_neg (by rw [List.length_map, li]; omega)]
        have e : i = bs.length := by omega
        rw [e, List.take_length] at hp
        exact k Hc B ⟨rs, hc, L2.Paired.mapP hp fun r b h => h.2⟩ sm
    · intro σ H Q Q' hq h
      simp only [tTest, tOp, tCB, tCons, tNil, tVar, tC, rI0, rIxL] at h ⊢
      obtain ⟨v, h1, p, h2, x, h3, v', h4, p', xs, i, v1, h5, h6, h7, h8, i', j', h9, h10, b, h11, h12⟩ := h
      exact ⟨v, h1, p, h2, x, h3, v', h4, p', xs, i, v1, h5, h6, h7, h8, i', j', h9, h10, b, h11, hq _ _ h12⟩
theorem has_bars_in {P : Program} {w : World} {K : PySem.W.Frag} {mg : Str → Option Value} {base : Heap} (T : Txt K mg) : Has P w K mg base "bars_in" 2 ["numbers"] (sp_bars_in K) :=
  has_of T.d_bars_in fun f fd D => ok_bars_in T D
def sp_are_notes : Sp := fun vs H Q _ => ∃ (a : Addr) (ns : List Sw68.Note), vs = [.ref a] ∧ NotesAt H a ns ∧ Q (.bl (ns.all Sw68.noteOk)) H
theorem ok_are_notes {P : Program} {w : World} {K : PySem.W.Frag} {mg : Str → Option Value} {base : Heap} (T : Txt K mg) {f : Addr} {fd : FuncData} (D : Def K mg "are_notes" s_are_notes ["notes"] f fd) : FnOk P w K mg base CX0 2 f fd ["notes"] (sp_are_notes) := by
  refine D.F.ok sc_are_notes (fun vs H Q E h => ?_) (fun cdv A outer s H vs Q E hr h => ⟨_, (pss_cons (ps_for PassesOwn.never rfl (pi_list (pv 0)) (pg_tup rfl (pgs_cons (pg_name (i := 1) sc_are_notes.nd rfl (Or.inl rfl)) (pgs_cons (pg_name (i := 2) sc_are_notes.nd rfl (Or.inl rfl)) (pgs_cons (pg_name (i := 3) sc_are_notes.nd rfl (Or.inl rfl)) pgs_nil))))
      (pss_one (ps_if (pt_not (pt_val (pe_has (has_is_note T) (hr.mono (by decide)) (pa_cons (pv 1) (pa_cons (pv 2) (pa_cons (pv 3) pa_nil)))))) (pss_one (ps_ret pe_bl)) pss_nil)))
      (pss_one (ps_ret pe_bl))), ?_⟩)
  · obtain ⟨a, ns, rfl, _⟩ := h
    rfl
  · obtain ⟨a, ns, rfl, ⟨rs, hrs, hp⟩, k⟩ := h
    simp only [tSeq, tAsg, tIfS, tRet, tNext, tOp, tUn, tTest, tB, tNot, tAnd, tOr, tAndV, tOrV, tNotV, tChain, tVar, tC, tCons, tNil, tCall, tCB, tIf, tDrop, gName, tAug, ipI, rI, rI0, rU, CMul, CDiv, rEq, rNe, scal, tTab, tInTab, cxOf_K, L2.start, Nat.reduceAdd, Nat.reduceSub, Nat.sub_self, List.map_cons, List.map_nil, List.length_cons, List.length_nil, List.replicate, List.append_nil, List.cons_append, List.nil_append, List.set_cons_zero, List.set_cons_succ, List.getElem?_cons_zero, List.getElem?_cons_succ, Option.some.injEq, List.cons.injEq, V.int.injEq, V.bl.injEq, V.ref.injEq, and_true, true_and, exists_eq_left, and_assoc, exists_eq_left', exists_and_left, decide_eq_true_eq, Bool.true_eq_false, if_true, if_false]
    refine ⟨_, rfl, a, rfl, ⟨_, SqL.of hrs⟩, for_list (xs := rs.map V.ref) (fun i σ Hc => Hc = H ∧ (∃ s1 s2 s3, σ = [some (.ref a), s1, s2, s3]) ∧ ((ns.take i).all Sw68.noteOk) = true) ⟨rfl, ⟨_, _, _, rfl⟩, rfl⟩ ?_ ?_ ?_⟩
    · rintro i σ Hc _ ⟨rfl, _, _⟩
      exact SqL.of hrs
    · rintro i x σ Hc hx ⟨rfl, ⟨s1, s2, s3, rfl⟩, all⟩
      obtain ⟨r, hr', rfl⟩ := ref_at hx
      obtain ⟨n, hn, ht⟩ := paired_at hp hr'
      refine ⟨r, vN n, rfl, SqT.of ht, rfl, _, _, rfl, _, _, rfl, _, _, rfl, rfl, ?_⟩
      simp only [tSeq, tAsg, tIfS, tRet, tNext, tOp, tUn, tTest, tB, tNot, tAnd, tOr, tAndV, tOrV, tNotV, tChain, tVar, tC, tCons, tNil, tCall, tCB, tIf, tDrop, gName, tAug, ipI, rI, rI0, rU, CMul, CDiv, rEq, rNe, scal, tTab, tInTab, cxOf_K, L2.start, Nat.reduceAdd, Nat.reduceSub, Nat.sub_self, List.map_cons, List.map_nil, List.length_cons, List.length_nil, List.replicate, List.append_nil, List.cons_append, List.nil_append, List.set_cons_zero, List.set_cons_succ, List.getElem?_cons_zero, List.getElem?_cons_succ, Option.some.injEq, List.cons.injEq, V.int.injEq, V.bl.injEq, V.ref.injEq, and_true, true_and, exists_eq_left, and_assoc, exists_eq_left', exists_and_left, decide_eq_true_eq, Bool.true_eq_false, if_true, if_false, sp_is_note]
      cases c : Sw68.noteOk ⟨n.letter, n.alt, n.octave⟩ with
      | false =>
        have z : ns.all Sw68.noteOk = false := by
          rw [← Bool.not_eq_true]
          intro z
          have := List.all_eq_true.mp z n (List.mem_of_getElem? hn)
          rw [c] at this
          cases this
        rw [z] at k
        exact iteT k
      | true =>
        refine iteF ⟨⟨_, rfl⟩, ?_⟩
        rw [take_at hn, List.all_append, all, List.all_cons, c]
        rfl
    · rintro σ Hc ⟨rfl, _, all⟩
      rw [List.length_map, hp.length, List.take_length] at all
      rw [all] at k
      exact k
theorem has_are_notes {P : Program} {w : World} {K : PySem.W.Frag} {mg : Str → Option Value} {base : Heap} (T : Txt K mg) : Has P w K mg base "are_notes" 2 ["notes"] (sp_are_notes) :=
  has_of T.d_are_notes fun f fd D => ok_are_notes T D
/-- what write is asked: its numbers are those of some bars -/
theorem write_inv {k : Int} {ns : List Int} (h : PySw68.write_asked k ns = true) :
    ∃ bs : List (List Sw68.Note), ns = encB bs ∧ bs.length ≤ 60 ∧ (∀ b ∈ bs, b.length ≤ 60) ∧ PySw68.write k ns = Sw68Neutral.out (Sw68.step (.write k bs)) := by
  obtain ⟨x, hx⟩ := asked_call h
  have hx' : Sw68Neutral.callOf (3 :: k :: ns) = some x := hx
  have e : Sw68Neutral.all_ ((Sw68Neutral.intIn (k :: ns)).bind fun k => (Sw68Neutral.listIn (Sw68Neutral.listIn Sw68Neutral.noteIn) k.2).map fun y => (Sw68.Call.write k.1 y.1, y.2)) = some x := hx'
  have e := all_inv e
  cases e1 : Sw68Neutral.intIn (k :: ns) with
  | none => rw [e1] at e; cases e
  | some a =>
    rw [e1] at e
    obtain ⟨a, l1⟩ := a
    obtain ⟨q, _⟩ := int_in_inv e1
    injection q with q1 q2
    subst q1 q2
    change Option.map _ (Sw68Neutral.listIn (Sw68Neutral.listIn Sw68Neutral.noteIn) ns) = _ at e
    cases e2 : Sw68Neutral.listIn (Sw68Neutral.listIn Sw68Neutral.noteIn) ns with
    | none => rw [e2] at e; cases e
    | some y =>
      rw [e2] at e
      obtain ⟨bs, r⟩ := y
      injection e with e
      injection e with e3 e4
      have e3' : Sw68.Call.write k bs = x := e3
      have e4' : r = [] := e4
      subst e3' e4'
      obtain ⟨z1, z2, z3⟩ := list_in (list_in note_in_inv) _ _ _ e2
      refine ⟨bs, by rw [z1, List.append_nil], z2, fun b hb => (z3 b hb).1, ?_⟩
      show Sw68Neutral.f (3 :: k :: ns) = _
      unfold Sw68Neutral.f
      rw [hx']
/-! what's written of a bar -/
/-- the letters that a bar raises otherwise than the key -/
def oth (k : Int) (b : List Sw68.Note) : List Int := (b.filter fun n => decide (n.alt ≠ Sw68.keyAlt k n.letter)).map (·.letter)
def sgn (a r : Int) : List Int := if r = a then [0, 0] else [1, r]
def wrn (k : Int) (ls : List Int) (f : Sw68.Force) (x : Sw68.Note) : Bool := (f.lookup (x.letter, x.octave)).isNone && (decide (x.alt = Sw68.keyAlt k x.letter) && decide (x.letter ∈ ls))
def oneW (k : Int) (ls : List Int) (f : Sw68.Force) (x : Sw68.Note) : List Int := [x.letter, x.octave] ++ sgn (Sw68.inForce k f x.letter x.octave) x.alt ++ [if wrn k ls f x = true then 1 else 0]
def wBar (k : Int) (ls : List Int) : Sw68.Force → List Sw68.Note → List Int
  | _, [] => []
  | f, x :: l => oneW k ls f x ++ wBar k ls (((x.letter, x.octave), x.alt) :: f) l
theorem oneW_length (k : Int) (ls : List Int) (f : Sw68.Force) (x : Sw68.Note) : (oneW k ls f x).length = 5 := by
  unfold oneW sgn
  split <;> rfl
theorem wBar_length (k : Int) (ls : List Int) : ∀ (f : Sw68.Force) (l : List Sw68.Note), (wBar k ls f l).length = 5 * l.length
  | _, [] => rfl
  | f, x :: l => by
    unfold wBar
    rw [List.length_append, oneW_length, wBar_length k ls _ l, List.length_cons]
    omega
theorem lookup_had (f : Sw68.Force) (p : Int × Int) : (f.map (·.1)).contains p = (f.lookup p).isSome := by
  induction f with
  | nil => rfl
  | cons q f ih =>
    obtain ⟨q, v⟩ := q
    rw [List.map_cons, List.contains_cons, List.lookup_cons]
    by_cases h : p = q
    · subst h
      simp
    · have h1 : (p == q) = false := by simpa using h
      rw [h1, Bool.false_or, ih]
theorem any_oth (k : Int) (before : List Sw68.Note) (x : Sw68.Note) (h : x.alt = Sw68.keyAlt k x.letter) :
    (before.any fun y => y.letter == x.letter && y.alt != x.alt) = decide (x.letter ∈ oth k before) := by
  rw [Bool.eq_iff_iff, List.any_eq_true, decide_eq_true_eq]
  unfold oth
  rw [List.mem_map]
  constructor
  · rintro ⟨y, hy, c⟩
    simp only [Bool.and_eq_true, beq_iff_eq, bne_iff_ne, ne_eq] at c
    refine ⟨y, List.mem_filter.mpr ⟨hy, ?_⟩, c.1⟩
    rw [decide_eq_true_eq, c.1, ← h]
    exact c.2
  · rintro ⟨y, hy, c⟩
    obtain ⟨h1, h2⟩ := List.mem_filter.mp hy
    rw [decide_eq_true_eq, c, ← h] at h2
    refine ⟨y, h1, ?_⟩
    simp only [Bool.and_eq_true, beq_iff_eq, bne_iff_ne, ne_eq]
    exact ⟨c, h2⟩
theorem wBar_eq (k : Int) (before : List Sw68.Note) : ∀ (f : Sw68.Force) (l : List Sw68.Note), wBar k (oth k before) f l = Sw68.barOut (Sw68.writeBar k f l) (Sw68.warned k before (f.map (·.1)) l)
  | _, [] => rfl
  | f, x :: l => by
    have ih := wBar_eq k before (((x.letter, x.octave), x.alt) :: f) l
    unfold wBar Sw68.writeBar Sw68.warned
    unfold Sw68.barOut at ih ⊢
    rw [List.zip_cons_cons, List.flatMap_cons, ih]
    congr 1
    have e : wrn k (oth k before) f x = (!(f.map (·.1)).contains (x.letter, x.octave) && (x.alt == Sw68.keyAlt k x.letter && before.any fun y => y.letter == x.letter && y.alt != x.alt)) := by
      unfold wrn
      rw [lookup_had]
      congr 1
      · cases f.lookup (x.letter, x.octave) <;> rfl
      · by_cases h : x.alt = Sw68.keyAlt k x.letter
        · rw [any_oth k before x h]
          congr 1
        · have h1 : (x.alt == Sw68.keyAlt k x.letter) = false := by simpa using h
          rw [h1, decide_eq_false h, Bool.false_and, Bool.false_and]
    show oneW k (oth k before) f x = _
    unfold oneW sgn
    rw [e]
    by_cases h : x.alt = Sw68.inForce k f x.letter x.octave
    · rw [if_pos h, if_pos h.symm]
      rfl
    · have h' : ¬ Sw68.inForce k f x.letter x.octave = x.alt := fun z => h z.symm
      simp only [if_neg h, if_neg h']
      rfl
/-- all bars, each behind how many numbers it has -/
def wBars (k : Int) : List Sw68.Note → List (List Sw68.Note) → List Int
  | _, [] => []
  | before, b :: l => (((wBar k (oth k before) [] b).length : Int) :: wBar k (oth k before) [] b) ++ wBars k b l
theorem wBars_eq (k : Int) : ∀ (before : List Sw68.Note) (bs : List (List Sw68.Note)),
    wBars k before bs = (((Sw68.write k bs).zip (Sw68.warnings k before bs)).map fun x => Sw68.barOut x.1 x.2).flatMap fun w => (w.length : Int) :: w
  | _, [] => rfl
  | before, b :: l => by
    have ih := wBars_eq k b l
    unfold wBars Sw68.warnings
    unfold Sw68.write at ih ⊢
    rw [List.map_cons, List.zip_cons_cons, List.map_cons, List.flatMap_cons, ih, wBar_eq k before [] b]
    rfl
theorem wBars_length (k : Int) : ∀ (before : List Sw68.Note) (bs : List (List Sw68.Note)), (∀ b ∈ bs, b.length ≤ 60) → (wBars k before bs).length ≤ 301 * bs.length
  | _, [], _ => Nat.le_refl _
  | before, b :: l, h => by
    have ih := wBars_length k b l fun x hx => h x (List.mem_cons_of_mem _ hx)
    have hb := h b (List.mem_cons_self ..)
    unfold wBars
    rw [List.length_append, List.length_cons, List.length_cons, wBar_length]
    omega
def ansW (k : Int) (bs : List (List Sw68.Note)) : List Int := Sw68Neutral.out (Sw68.step (.write k bs))
theorem ansW_no {k : Int} {bs : List (List Sw68.Note)} (c : (Sw68.keyOk k && bs.all fun b => b.all Sw68.noteOk) = false) : ansW k bs = [-1] := by
  unfold ansW Sw68.step
  simp only [c, if_true]
  rfl
theorem ansW_ok {k : Int} {bs : List (List Sw68.Note)} (c1 : Sw68.keyOk k = true) (c2 : (bs.all fun b => b.all Sw68.noteOk) = true) : ansW k bs = (bs.length : Int) :: wBars k [] bs := by
  unfold ansW Sw68.step
  simp only [c1, c2, Bool.and_self, Bool.true_eq_false, if_false]
  rw [wBars_eq]
  rfl
theorem oth_no {kk : Int} {ns : List Sw68.Note} {i : Nat} {n : Sw68.Note} (hn : ns[i]? = some n) (h : n.alt = Sw68.keyAlt kk n.letter) : oth kk (ns.take (i + 1)) = oth kk (ns.take i) := by
  unfold oth
  rw [take_at hn, List.filter_append, List.filter_cons_of_neg (by simpa using h), List.filter_nil, List.append_nil]
theorem oth_yes {kk : Int} {ns : List Sw68.Note} {i : Nat} {n : Sw68.Note} (hn : ns[i]? = some n) (h : ¬ n.alt = Sw68.keyAlt kk n.letter) : oth kk (ns.take (i + 1)) = oth kk (ns.take i) ++ [n.letter] := by
  unfold oth
  rw [take_at hn, List.filter_append, List.filter_cons_of_pos (by simpa using h), List.filter_nil, List.map_append]
  rfl
theorem oth_le (kk : Int) (ns : List Sw68.Note) : (oth kk ns).length ≤ ns.length := by
  unfold oth
  rw [List.length_map]
  exact List.length_filter_le _ _
def sp_letters_raised_otherwise : Sp := fun vs H Q _ => ∃ (kk : Int) (a : Addr) (ns : List Sw68.Note), vs = [.int kk, .ref a] ∧ NotesAt H a ns ∧ ns.all Sw68.noteOk = true ∧ ns.length ≤ 60 ∧
  ∀ (H' : Hp) (p : Addr), H' p = some (.lst ((oth kk ns).map V.int)) → Same H H' → Q (.ref p) H'
theorem ok_letters_raised_otherwise {P : Program} {w : World} {K : PySem.W.Frag} {mg : Str → Option Value} {base : Heap} (T : Txt K mg) {f : Addr} {fd : FuncData} (D : Def K mg "letters_raised_otherwise" s_letters_raised_otherwise ["in_key", "notes"] f fd) : FnOk P w K mg base CX0 2 f fd ["in_key", "notes"] (sp_letters_raised_otherwise) := by
  refine D.F.ok sc_letters_raised_otherwise (fun vs H Q E h => ?_) (fun cdv A outer s H vs Q E hr h => ⟨_, (pss_one (ps_ret (pe_lc (own := [("letter", 2), ("raised", 3), ("octave", 4)]) (g := (gTup K 3 (gCons (gName 2) (gCons (gName 3) (gCons (gName 4) gNil))))) (te := (tVar 2)) (tt := (tTest (tOp rNe (tVar 3) (tCall (sp_raised_by_key) [] E0 (tCons (tVar 0) (tCons (tVar 2) tNil)))))) rfl sc_letters_raised_otherwise.nd (pi_list (pv 1)) (blkOk_by (N := ["in_key", "notes", "letter", "raised", "octave"]) (sc := defScope s_letters_raised_otherwise) (by decide +kernel)) (fun _ _ _ _ _ => (pg_tup rfl (pgs_cons (pg_name (i := 2) sc_letters_raised_otherwise.nd rfl (Or.inl rfl)) (pgs_cons (pg_name (i := 3) sc_letters_raised_otherwise.nd rfl (Or.inl rfl)) (pgs_cons (pg_name (i := 4) sc_letters_raised_otherwise.nd rfl (Or.inl rfl)) pgs_nil))))) (fun _ _ _ _ _ => (pts_one (pt_cmpR op_ne (pv 3) (pe_has (has_raised_by_key T) (hr.mono (by decide)) (pa_cons (pv 0) (pa_cons (pv 2) pa_nil))) (nomark _)))) (fun _ _ _ _ _ => (pv 2))))), ?_⟩)
  · obtain ⟨kk, a, ns, rfl, _⟩ := h
    rfl
  · obtain ⟨kk, a, ns, rfl, ⟨rs, hrs, hp⟩, all, hl, k⟩ := h
    simp only [tSeq, tAsg, tIfS, tRet, tNext, tOp, tUn, tTest, tB, tNot, tAnd, tOr, tAndV, tOrV, tNotV, tChain, tVar, tC, tCons, tNil, tCall, tCB, tIf, tDrop, gName, tAug, ipI, rI, rI0, rU, CMul, CDiv, rEq, rNe, scal, tTab, tInTab, cxOf_K, L2.start, Nat.reduceAdd, Nat.reduceSub, Nat.sub_self, List.map_cons, List.map_nil, List.length_cons, List.length_nil, List.replicate, List.append_nil, List.cons_append, List.nil_append, List.set_cons_zero, List.set_cons_succ, List.getElem?_cons_zero, List.getElem?_cons_succ, Option.some.injEq, List.cons.injEq, V.int.injEq, V.bl.injEq, V.ref.injEq, and_true, true_and, exists_eq_left, and_assoc, exists_eq_left', exists_and_left, decide_eq_true_eq, Bool.true_eq_false, if_true, if_false]
    refine ⟨_, rfl, a, rfl, ⟨_, SqL.of hrs⟩, fun D hD => lc_list (xs := rs.map V.ref) (fun i Hc => Same H Hc ∧ Hc D = some (.lst ((oth kk (ns.take i)).map V.int))) ⟨Same.new hD, upd_same⟩ ?_ ?_ ?_⟩
    · rintro i Hc _ ⟨sm, _⟩
      exact SqL.of (sm _ _ hrs)
    · rintro i x Hc hx ⟨sm, hd⟩
      obtain ⟨r, hr', rfl⟩ := ref_at hx
      obtain ⟨n, hn, ht⟩ := paired_at hp hr'
      have on := List.all_eq_true.mp all n (List.mem_of_getElem? hn)
      have b := ok_l (l := n.letter) (r := n.alt) (o := n.octave) on
      refine ⟨r, vN n, rfl, SqT.of (sm _ _ ht), rfl, _, _, rfl, _, _, rfl, _, _, rfl, rfl, ?_⟩
      simp only [tSeq, tAsg, tIfS, tRet, tNext, tOp, tUn, tTest, tB, tNot, tAnd, tOr, tAndV, tOrV, tNotV, tChain, tVar, tC, tCons, tNil, tCall, tCB, tIf, tDrop, gName, tAug, ipI, rI, rI0, rU, CMul, CDiv, rEq, rNe, scal, tTab, tInTab, cxOf_K, L2.start, Nat.reduceAdd, Nat.reduceSub, Nat.sub_self, List.map_cons, List.map_nil, List.length_cons, List.length_nil, List.replicate, List.append_nil, List.cons_append, List.nil_append, List.set_cons_zero, List.set_cons_succ, List.getElem?_cons_zero, List.getElem?_cons_succ, Option.some.injEq, List.cons.injEq, V.int.injEq, V.bl.injEq, V.ref.injEq, and_true, true_and, exists_eq_left, and_assoc, exists_eq_left', exists_and_left, decide_eq_true_eq, Bool.true_eq_false, if_true, if_false, sp_raised_by_key]
      refine ⟨rfl, _, rfl, _, rfl, _, rfl, _, rfl, _, rfl, b.1, b.2, rfl, ?_⟩
      by_cases h : n.alt = Sw68.keyAlt kk n.letter
      · rw [decide_eq_true (show V.int n.alt = V.int (Sw68.keyAlt kk n.letter) from by rw [h])]
        refine iteF ⟨sm, ?_⟩
        rw [oth_no hn h]
        exact hd
      · rw [decide_eq_false (show ¬ V.int n.alt = V.int (Sw68.keyAlt kk n.letter) from fun z => h (by injection z))]
        refine iteT ⟨_, rfl, _, hd, line ?_, Same.upd sm hD, ?_⟩
        · rw [List.length_map]
          have := oth_le kk (ns.take i)
          rw [List.length_take] at this
          omega
        · rw [upd_same, oth_yes hn h, List.map_append]
          rfl
    · rintro Hc ⟨sm, hd⟩
      rw [List.length_map, hp.length, List.take_length] at hd
      exact k Hc D hd sm
theorem has_letters_raised_otherwise {P : Program} {w : World} {K : PySem.W.Frag} {mg : Str → Option Value} {base : Heap} (T : Txt K mg) : Has P w K mg base "letters_raised_otherwise" 2 ["in_key", "notes"] (sp_letters_raised_otherwise) :=
  has_of T.d_letters_raised_otherwise fun f fd D => ok_letters_raised_otherwise T D
/-- the dict by steps is the table by letter and octave -/
def Forc (kvs : List (Key × V)) (f : Sw68.Force) : Prop := ∀ l o : Int, 0 ≤ l → l ≤ 6 → valV kvs (Sum.inl (7 * o + l)) = (f.lookup (l, o)).map V.int
theorem Forc.put {kvs : List (Key × V)} {f : Sw68.Force} (h : Forc kvs f) {l o r : Int} (h0 : 0 ≤ l) (h1 : l ≤ 6) : Forc (putK kvs (Sum.inl (7 * o + l)) (.int r)) (((l, o), r) :: f) := by
  intro l' o' h0' h1'
  rw [valV_put, List.lookup_cons]
  by_cases e : (l', o') = (l, o)
  · injection e with e1 e2
    subst e1 e2
    simp
  · have ne : ¬ (Sum.inl (7 * o' + l') : Key) = Sum.inl (7 * o + l) := by
      intro z
      injection z with z
      have e1 : l' = l := by omega
      have e2 : o' = o := by omega
      exact e (by rw [e1, e2])
    have e' : ((l', o') == (l, o)) = false := by simpa using e
    rw [if_neg ne, e', h l' o' h0' h1']
theorem sign_rd {kvs : List (Key × V)} {f : Sw68.Force} {kk : Int} {n : Sw68.Note} {d : Addr} {σ : L2.St} {H : Hp} {Qc : VK} (h6 : σ[6]? = some (some (.int n.alt))) (h3 : σ[3]? = some (some (.ref d))) (h8 : σ[8]? = some (some (.int (7 * n.octave + n.letter))))
    (h9 : σ[9]? = some (some (.int (Sw68.keyAlt kk n.letter)))) (hD : H d = some (.dK kvs)) (fo : Forc kvs f) (bd : 0 ≤ n.letter ∧ n.letter ≤ 6)
    (k : ∀ g, H g = none → Qc (.ref g) (upd H g (.lst ((sgn (Sw68.inForce kk f n.letter n.octave) n.alt).map V.int)))) :
    tIf (tTest (tOp rEq (tVar 6) (tDGet2 (tVar 3) (tVar 8) (tVar 9)))) (tLst (tCons (tC (V.int 0)) (tCons (tC (V.int 0)) tNil))) (tLst (tCons (tC (V.int 1)) (tCons (tVar 6) tNil))) σ H Qc := by
  obtain ⟨o, ho, eo⟩ : ∃ o, DGet H d (.int (7 * n.octave + n.letter)) o ∧ o.getD (.int (Sw68.keyAlt kk n.letter)) = .int (Sw68.inForce kk f n.letter n.octave) := by
    refine ⟨_, DGet.k (k := Sum.inl _) hD, ?_⟩
    rw [fo _ _ bd.1 bd.2]
    unfold Sw68.inForce
    cases f.lookup (n.letter, n.octave) <;> rfl
  refine ⟨_, h6, _, h3, d, rfl, .inl ⟨kvs, .inl hD⟩, _, h8, _, h9, o, ho, ?_⟩
  show rEq (.int n.alt) (o.getD (.int (Sw68.keyAlt kk n.letter))) H _
  rw [eo]
  refine ⟨rfl, _, rfl, ?_⟩
  unfold sgn at k
  by_cases h : n.alt = Sw68.inForce kk f n.letter n.octave
  · rw [decide_eq_true (show V.int n.alt = V.int (Sw68.inForce kk f n.letter n.octave) from by rw [h])]
    rw [if_pos h] at k
    exact iteT ⟨line (by decide), fun g hg => k g hg⟩
  · rw [decide_eq_false (show ¬ V.int n.alt = V.int (Sw68.inForce kk f n.letter n.octave) from fun z => h (by injection z))]
    rw [if_neg h] at k
    exact iteF ⟨_, h6, line (show 2 ≤ 1000000 by decide), fun g hg => k g hg⟩
theorem warn_rd {K : PySem.W.Frag} {kvs : List (Key × V)} {f : Sw68.Force} {kk : Int} {n : Sw68.Note} {d b : Addr} {ls : List Int} {σ : L2.St} {H : Hp} {Qc : VK} (h6 : σ[6]? = some (some (.int n.alt))) (h3 : σ[3]? = some (some (.ref d))) (h8 : σ[8]? = some (some (.int (7 * n.octave + n.letter))))
    (h9 : σ[9]? = some (some (.int (Sw68.keyAlt kk n.letter)))) (h5 : σ[5]? = some (some (.int n.letter))) (h2 : σ[2]? = some (some (.ref b))) (hD : H d = some (.dK kvs)) (fo : Forc kvs f) (bd : 0 ≤ n.letter ∧ n.letter ≤ 6)
    (hb : H b = some (.lst (ls.map V.int))) (k : Qc (.bl (wrn kk ls f n)) H) :
    tAndV (tDNotIn (tVar 8) (tVar 3)) (tAndV (tOp rEq (tVar 6) (tVar 9)) (tOp (rIn K false) (tVar 5) (tVar 2))) σ H Qc := by
  refine ⟨_, h8, _, h3, d, _, rfl, DGet.k (k := Sum.inl _) hD, _, rfl, ?_⟩
  unfold wrn at k
  have e := fo n.letter n.octave bd.1 bd.2
  rw [e]
  cases c : f.lookup (n.letter, n.octave) with
  | some v =>
    rw [c] at k
    exact iteF k
  | none =>
    rw [c] at k
    refine iteT ⟨_, h6, _, h9, rfl, _, rfl, ?_⟩
    by_cases h : n.alt = Sw68.keyAlt kk n.letter
    · rw [decide_eq_true (show V.int n.alt = V.int (Sw68.keyAlt kk n.letter) from by rw [h])]
      rw [decide_eq_true h] at k
      refine iteT ⟨_, h5, _, h2, b, _, rfl, .inl (SqL.of hb), rfl, ?_, ?_⟩
      · rw [List.all_map]
        exact List.all_eq_true.mpr fun _ _ => rfl
      · have z := in_ints (i := n.letter) (ns := ls)
        show Qc (.bl (inV (.int n.letter) (ls.map V.int))) H
        rw [z]
        exact k
    · rw [decide_eq_false (show ¬ V.int n.alt = V.int (Sw68.keyAlt kk n.letter) from fun z => h (by injection z))]
      rw [decide_eq_false h] at k
      exact iteF k
theorem if01 {Qc : VK} {σ : L2.St} {H : Hp} {b : Bool} (h : Qc (.int (if b = true then 1 else 0)) H) : if b = true then tC (.int 1) σ H Qc else tC (.int 0) σ H Qc := by
  cases b <;> exact h
theorem sgn_length (a r : Int) : (sgn a r).length = 2 := by
  unfold sgn
  split <;> rfl
def sp_written_bar (K : PySem.W.Frag) : Sp := fun vs H Q _ => ∃ (kk : Int) (a b : Addr) (ns : List Sw68.Note) (ls : List Int), vs = [.int kk, .ref a, .ref b] ∧ NotesAt H a ns ∧ H b = some (.lst (ls.map V.int)) ∧ ns.all Sw68.noteOk = true ∧ ns.length ≤ 60 ∧
  ∀ (H' : Hp) (p : Addr), H' p = some (.lst ((wBar kk ls [] ns).map V.int)) → Same H H' → Q (.ref p) H'
theorem ok_written_bar {P : Program} {w : World} {K : PySem.W.Frag} {mg : Str → Option Value} {base : Heap} (T : Txt K mg) {f : Addr} {fd : FuncData} (D : Def K mg "written_bar" s_written_bar ["in_key", "notes", "letters_otherwise"] f fd) : FnOk P w K mg base CX0 2 f fd ["in_key", "notes", "letters_otherwise"] (sp_written_bar K) := by
  refine D.F.ok sc_written_bar (fun vs H Q E h => ?_) (fun cdv A outer s H vs Q E hr h => ⟨_, (pss_cons (ps_set (i := 3) sc_written_bar.nd rfl (Or.inl rfl) pe_dnewK)
      (pss_cons (ps_set (i := 4) sc_written_bar.nd rfl (Or.inl rfl) (pe_lst pa_nil))
      (pss_cons (ps_for PassesOwn.never rfl (pi_list (pv 1)) (pg_tup rfl (pgs_cons (pg_name (i := 5) sc_written_bar.nd rfl (Or.inl rfl)) (pgs_cons (pg_name (i := 6) sc_written_bar.nd rfl (Or.inl rfl)) (pgs_cons (pg_name (i := 7) sc_written_bar.nd rfl (Or.inl rfl)) pgs_nil))))
      (pss_cons (ps_set (i := 8) sc_written_bar.nd rfl (Or.inl rfl) (pe_has (has_step_of T) (hr.mono (by decide)) (pa_cons (pv 5) (pa_cons (pv 7) pa_nil))))
      (pss_cons (ps_set (i := 9) sc_written_bar.nd rfl (Or.inl rfl) (pe_has (has_raised_by_key T) (hr.mono (by decide)) (pa_cons (pv 0) (pa_cons (pv 5) pa_nil))))
      (pss_cons (ps_set (i := 10) sc_written_bar.nd rfl (Or.inl rfl) (pe_ifExp (pt_cmpR op_eq (pv 6) (pe_dget2 (hu_of hr) (pv 3) (pv 8) (pv 9) ⟨rfl, rfl, rfl, rfl⟩) (nomark _)) (pe_lst (pa_cons pe_int (pa_cons pe_int pa_nil))) (pe_lst (pa_cons pe_int (pa_cons (pv 6) pa_nil)))))
      (pss_cons (ps_set (i := 11) sc_written_bar.nd rfl (Or.inl rfl) (pe_and (pe_cmp (pc_dnotin (hu_of hr) (pv 8) (pv 3))) (pe_and (pe_cmpR op_eq (pv 6) (pv 9) (nomark _)) (pe_one (pe_cmpR op_in_seq (pv 5) (pv 2) (by rfl))))))
      (pss_cons (ps_expr (pe_bm PySem.F.plainAttrs_list PySem.F.slot_list_extend PySem.F.type_list_extend mt_extend (pv 4) (pa_cons (pe_op op_cat (pe_op op_cat (pe_lst (pa_cons (pv 5) (pa_cons (pv 7) pa_nil))) (pv 10)) (pe_lst (pa_cons (pe_ifExp (pt_val (pv 11)) pe_int pe_int) pa_nil))) pa_nil)))
      (pss_one (ps_dput (hu_of hr) (pv 3) (pv 8) (pv 6) rfl))))))))
      (pss_one (ps_ret (pv 4)))))), ?_⟩)
  · obtain ⟨kk, a, b, ns, ls, rfl, _⟩ := h
    rfl
  · obtain ⟨kk, a, b, ns, ls, rfl, ⟨rs, hrs, hp⟩, hb, all, hl, k⟩ := h
    intro d hd
    refine ⟨line (by decide), fun w hw => ?_⟩
    have wd : w ≠ d := ne_new hw
    have hw0 : H w = none := by rw [upd_ne wd] at hw; exact hw
    refine ⟨_, rfl, a, rfl, ⟨_, SqL.of (Same.new hw _ _ (Same.new hd _ _ hrs))⟩, for_list (xs := rs.map V.ref) (fun i σ Hc => Same H Hc ∧ ∃ (kvs : List (Key × V)) (f : Sw68.Force) (acc : List Int) (s5 s6 s7 s8 s9 s10 s11 : Option V),
      σ = [some (.int kk), some (.ref a), some (.ref b), some (.ref d), some (.ref w), s5, s6, s7, s8, s9, s10, s11] ∧ Hc d = some (.dK kvs) ∧ kvs.length ≤ i ∧ Forc kvs f ∧ Hc w = some (.lst (acc.map V.int)) ∧
      acc ++ wBar kk ls f (ns.drop i) = wBar kk ls [] ns)
      ⟨Same.trans (Same.new hd) (Same.new hw), [], [], [], _, _, _, _, _, _, _, rfl, (upd_ne wd.symm).trans upd_same, Nat.le_refl _, fun _ _ _ _ => rfl, upd_same, rfl⟩ ?_ ?_ ?_⟩
    · rintro i σ Hc _ ⟨sm, _⟩
      exact SqL.of (sm _ _ hrs)
    · rintro i x σ Hc hx ⟨sm, kvs, f, acc, s5, s6, s7, s8, s9, s10, s11, rfl, hD, hkl, fo, hW, eq⟩
      obtain ⟨r, hr', rfl⟩ := ref_at hx
      obtain ⟨n, hn, ht⟩ := paired_at hp hr'
      have on := List.all_eq_true.mp all n (List.mem_of_getElem? hn)
      have bd := ok_l (l := n.letter) (r := n.alt) (o := n.octave) on
      refine ⟨r, vN n, rfl, SqT.of (sm _ _ ht), rfl, _, _, rfl, _, _, rfl, _, _, rfl, rfl, ?_⟩
      refine ⟨_, rfl, _, rfl, _, _, rfl, ?_⟩
      refine ⟨_, rfl, _, rfl, _, _, rfl, bd, ?_⟩
      refine sign_rd (n := n) (kk := kk) (d := d) (f := f) rfl rfl rfl rfl hD fo bd fun g hg => ?_
      have s1 : Same Hc (upd Hc g (.lst ((sgn (Sw68.inForce kk f n.letter n.octave) n.alt).map V.int))) := Same.new hg
      have hg1 : upd Hc g (.lst ((sgn (Sw68.inForce kk f n.letter n.octave) n.alt).map V.int)) g = some (.lst ((sgn (Sw68.inForce kk f n.letter n.octave) n.alt).map V.int)) := upd_same
      revert s1 hg1
      generalize upd Hc g (.lst ((sgn (Sw68.inForce kk f n.letter n.octave) n.alt).map V.int)) = H1
      intro s1 hg1
      refine warn_rd (n := n) (kk := kk) (d := d) (f := f) (ls := ls) (b := b) rfl rfl rfl rfl rfl rfl (s1 _ _ hD) fo bd (s1 _ _ (sm _ _ hb)) ?_
      refine ⟨_, rfl, .inl ⟨rfl, _, SqL.of (s1 _ _ hW)⟩, _, rfl, _, rfl, line (show 2 ≤ 1000000 by decide), fun p1 hp1 => ⟨_, rfl, p1, g, _, _, rfl, rfl, upd_same, Same.new hp1 _ _ hg1, line ?_, fun p2 hp2 => ⟨_, rfl, _, rfl, ?_⟩⟩⟩
      · rw [List.length_map, sgn_length]
        show 2 + 2 ≤ _
        decide
      have one : [V.int n.letter, V.int n.octave] ++ (sgn (Sw68.inForce kk f n.letter n.octave) n.alt).map V.int ++ [V.int (if wrn kk ls f n = true then 1 else 0)] = (oneW kk ls f n).map V.int := by
        unfold oneW
        rw [List.map_append, List.map_append]
        rfl
      have eq' : (acc ++ oneW kk ls f n) ++ wBar kk ls (((n.letter, n.octave), n.alt) :: f) (ns.drop (i + 1)) = wBar kk ls [] ns := by
        rw [← eq, drop_at hn, List.append_assoc]
        rfl
      have bound : acc.length + 5 ≤ 300 := by
        have z := congrArg List.length eq'
        rw [List.length_append, List.length_append, oneW_length, wBar_length, wBar_length] at z
        omega
      have hi : i < 60 := by
        have := (List.getElem?_eq_some_iff.mp hn).1
        omega
      refine if01 ⟨line (show 1 ≤ 1000000 by decide), fun p3 hp3 => ⟨p2, p3, _, _, rfl, rfl, Same.new hp3 _ _ upd_same, upd_same, line ?_, fun p4 hp4 => ⟨w, p4, _, _, rfl, rfl, Same.new hp4 _ _ (Same.new hp3 _ _ (Same.new hp2 _ _ (Same.new hp1 _ _ (s1 _ _ hW)))), upd_same, line ?_, ?_⟩⟩⟩
      · rw [List.length_append, List.length_map, sgn_length]
        show 2 + 2 + 1 ≤ _
        decide
      · rw [one, List.length_map, List.length_map, oneW_length]
        omega
      · rw [one]
        have sX := Same.trans (Same.trans (Same.trans (Same.new hp1) (Same.new hp2)) (Same.new hp3)) (Same.new (o := .lst ((oneW kk ls f n).map V.int)) hp4)
        revert sX
        generalize upd (upd (upd (upd H1 p1 _) p2 _) p3 _) p4 _ = HX
        intro sX
        have s2 : Same Hc HX := Same.trans s1 sX
        refine ⟨_, rfl, _, rfl, _, rfl, d, _, rfl, DPut.k (k := Sum.inl _) ((upd_ne wd.symm).trans (s2 _ _ hD)) (by rw [sizeLine_eq]; omega), ?_⟩
        refine ⟨Same.upd (Same.upd (Same.trans sm s2) hw0) hd, _, _, acc ++ oneW kk ls f n, _, _, _, _, _, _, _, rfl, upd_same, ?_, fo.put bd.1 bd.2, ?_, eq'⟩
        · have := length_putK kvs (Sum.inl (7 * n.octave + n.letter) : Key) (.int n.alt)
          omega
        · rw [upd_ne wd, upd_same, List.map_append]
    · rintro σ Hc ⟨sm, kvs, f, acc, s5, s6, s7, s8, s9, s10, s11, rfl, hD, hkl, fo, hW, eq⟩
      rw [List.length_map, hp.length, List.drop_length] at eq
      have e : acc = wBar kk ls [] ns := by rw [← eq]; exact (List.append_nil _).symm
      rw [e] at hW
      exact ⟨_, rfl, k Hc w hW sm⟩
theorem has_written_bar {P : Program} {w : World} {K : PySem.W.Frag} {mg : Str → Option Value} {base : Heap} (T : Txt K mg) : Has P w K mg base "written_bar" 2 ["in_key", "notes", "letters_otherwise"] (sp_written_bar K) :=
  has_of T.d_written_bar fun f fd D => ok_written_bar T D
/-- counted: a new list, how many ahead -/
def sp_counted (K : PySem.W.Frag) : Sp := fun vs H Q _ => ∃ (a : Addr) (xs : List Int), vs = [.ref a] ∧ (SqL K H a (xs.map V.int) ∨ SqT K H a (xs.map V.int)) ∧ xs.length ≤ 100000 ∧
  ∀ (H' : Hp) (p : Addr), H' p = some (.lst (((xs.length : Int) :: xs).map V.int)) → Same H H' → Q (.ref p) H'
theorem ok_counted {P : Program} {w : World} {K : PySem.W.Frag} {mg : Str → Option Value} {base : Heap} (T : Txt K mg) {f : Addr} {fd : FuncData} (D : Def K mg "counted" s_counted ["numbers"] f fd) : FnOk P w K mg base CX0 1 f fd ["numbers"] (sp_counted K) := by
  refine D.F.ok sc_counted (fun vs H Q E h => ?_) (fun cdv A outer s H vs Q E hr h => ⟨_, (pss_one (ps_ret (pe_op op_cat (pe_lst (pa_cons (pe_callB call_len_seq (by rfl) T.b_len PySem.boot_len (pa_cons (pv 0) pa_nil)) pa_nil)) (pe_callTy call_list_of (by rfl) T.b_list (by decide +kernel) (pa_cons (pv 0) pa_nil))))), ?_⟩)
  · obtain ⟨a, xs, rfl, _⟩ := h
    rfl
  · obtain ⟨a, xs, rfl, hs, hl, k⟩ := h
    simp only [tSeq, tAsg, tIfS, tRet, tNext, tOp, tUn, tTest, tB, tNot, tAnd, tOr, tAndV, tOrV, tNotV, tChain, tVar, tC, tCons, tNil, tCall, tCB, tIf, tDrop, gName, tAug, ipI, rI, rI0, rU, CMul, CDiv, rEq, rNe, scal, tTab, tInTab, cxOf_K, L2.start, Nat.reduceAdd, Nat.reduceSub, Nat.sub_self, List.map_cons, List.map_nil, List.length_cons, List.length_nil, List.replicate, List.append_nil, List.cons_append, List.nil_append, List.set_cons_zero, List.set_cons_succ, List.getElem?_cons_zero, List.getElem?_cons_succ, Option.some.injEq, List.cons.injEq, V.int.injEq, V.bl.injEq, V.ref.injEq, and_true, true_and, exists_eq_left, and_assoc, exists_eq_left', exists_and_left, decide_eq_true_eq, Bool.true_eq_false, if_true, if_false, tLst]
    refine ⟨_, hs, line (by decide), fun p hp => ⟨xs.map V.int, hs.imp (Same.seq (Same.new hp)) (Same.tup (Same.new hp)), fun q hq => ?_⟩⟩
    have np : q ≠ p := ne_new hq
    refine ⟨p, q, _, _, rfl, rfl, (upd_ne np.symm).trans upd_same, upd_same, line (by simp; omega), fun p' hp' => k _ p' ?_ ?_⟩
    · rw [upd_same]
      simp
    · exact ((Same.new hp).trans (Same.new hq)).trans (Same.new hp')
theorem has_counted {P : Program} {w : World} {K : PySem.W.Frag} {mg : Str → Option Value} {base : Heap} (T : Txt K mg) : Has P w K mg base "counted" 1 ["numbers"] (sp_counted K) :=
  has_of T.d_counted fun f fd D => ok_counted T D
theorem ne_refs {H : Hp} {l a : Addr} {n : Int} {xs : List V} {rs : List Addr} (hl : H l = some (.lst (.int n :: xs))) (ha : H a = some (.lst (rs.map V.ref))) : a ≠ l := by
  intro z
  rw [z, hl] at ha
  injection ha with h1
  injection h1 with h1
  cases rs with
  | nil => cases h1
  | cons r rs =>
    rw [List.map_cons] at h1
    injection h1 with h1
    cases h1
def sp_write (K : PySem.W.Frag) : Sp := fun vs H Q _ => ∃ (kk : Int) (a : Addr) (bs : List (List Sw68.Note)), vs = [.int kk, .ref a] ∧ SqL K H a ((encB bs).map V.int) ∧ bs.length ≤ 60 ∧ (∀ b ∈ bs, b.length ≤ 60) ∧
  ∀ (H' : Hp) (p : Addr), H' p = some (.lst ((ansW kk bs).map V.int)) → Q (.ref p) H'
theorem ok_write {P : Program} {w : World} {K : PySem.W.Frag} {mg : Str → Option Value} {base : Heap} (T : Txt K mg) {f : Addr} {fd : FuncData} (D : Def K mg "write" s_write ["in_key", "bars"] f fd) : FnOk P w K mg base CX0 3 f fd ["in_key", "bars"] (sp_write K) := by
  refine D.F.ok sc_write (fun vs H Q E h => ?_) (fun cdv A outer s H vs Q E hr h => ⟨_, (pss_cons (ps_if (pt_not (pt_val (pe_has (has_is_key T) (hr.mono (by decide)) (pa_cons (pv 0) pa_nil)))) (pss_one (ps_ret (pe_lst (pa_cons (pe_globI T.c_REFUSED) pa_nil)))) pss_nil)
      (pss_cons (ps_set (i := 2) sc_write.nd rfl (Or.inl rfl) (pe_lst (pa_cons (pe_ix ix_list (pv 1) pe_int (fun _ _ => rfl)) pa_nil)))
      (pss_cons (ps_set (i := 3) sc_write.nd rfl (Or.inl rfl) (pe_lst pa_nil))
      (pss_cons (ps_for PassesOwn.never rfl (pi_list (pe_has (has_bars_in T) (hr.mono (by decide)) (pa_cons (pv 1) pa_nil))) (pg_name (i := 4) sc_write.nd rfl (Or.inl rfl))
      (pss_cons (ps_if (pt_not (pt_val (pe_has (has_are_notes T) (hr.mono (by decide)) (pa_cons (pv 4) pa_nil)))) (pss_one (ps_ret (pe_lst (pa_cons (pe_globI T.c_REFUSED) pa_nil)))) pss_nil)
      (pss_cons (ps_expr (pe_bm PySem.F.plainAttrs_list PySem.F.slot_list_extend PySem.F.type_list_extend mt_extend (pv 2) (pa_cons (pe_has (has_counted T) (hr.mono (by decide)) (pa_cons (pe_has (has_written_bar T) (hr.mono (by decide)) (pa_cons (pv 0) (pa_cons (pv 4) (pa_cons (pv 3) pa_nil)))) pa_nil)) pa_nil)))
      (pss_one (ps_set (i := 3) sc_write.nd rfl (Or.inl rfl) (pe_has (has_letters_raised_otherwise T) (hr.mono (by decide)) (pa_cons (pv 0) (pa_cons (pv 4) pa_nil))))))))
      (pss_one (ps_ret (pv 2))))))), ?_⟩)
  · obtain ⟨kk, a, bs, rfl, _⟩ := h
    rfl
  · obtain ⟨kk, a, bs, rfl, ha, hl, hb, k⟩ := h
    refine ⟨_, rfl, kk, rfl, _, rfl, ?_⟩
    have ref : (Sw68.keyOk kk && bs.all fun b => b.all Sw68.noteOk) = false → ∀ (σ : L2.St) (H' : Hp), tLst (tCons (tC (V.int (-1))) tNil) σ H' Q := fun c σ H' =>
      ⟨line (by decide), fun p hp => k _ p (by rw [upd_same, ansW_no c]; rfl)⟩
    cases c1 : Sw68.keyOk kk with
    | false => exact iteT (ref (by rw [c1] <;> rfl) _ _)
    | true =>
      refine iteF ?_
      refine ⟨_, rfl, a, _, 0, .int (bs.length : Int), rfl, rfl, ha, atI_nat (show ((encB bs).map V.int)[0]? = some (.int (bs.length : Int)) from rfl), line (show 1 ≤ 1000000 by decide), fun l hl0 => ?_⟩
      refine ⟨line (by decide), fun lo hlo0 => ?_⟩
      have s0 := Same.trans (Same.new (o := .lst [V.int (bs.length : Int)]) hl0) (Same.new (o := .lst []) hlo0)
      refine ⟨_, rfl, a, bs, rfl, Same.seq s0 ha, hl, hb, fun H1 B hB s1 => ?_⟩
      obtain ⟨rs, hrs, hp⟩ := hB
      have hl1 : H1 l = some (.lst [V.int (bs.length : Int)]) := s1 _ _ (Same.new hlo0 _ _ upd_same)
      refine ⟨B, rfl, ⟨_, SqL.of hrs⟩, for_list (xs := rs.map V.ref) (fun i σ Hc => SameB l H1 Hc ∧ ∃ (lo : Addr) (before : List Sw68.Note) (acc : List Int) (s4 : Option V),
        σ = [some (.int kk), some (.ref a), some (.ref l), some (.ref lo), s4] ∧ Hc lo = some (.lst ((oth kk before).map V.int)) ∧ Hc l = some (.lst (((bs.length : Int) :: acc).map V.int)) ∧
        acc ++ wBars kk before (bs.drop i) = wBars kk [] bs ∧ ((bs.take i).all fun b => b.all Sw68.noteOk) = true)
        ⟨SameB.refl, lo, [], [], _, rfl, s1 _ _ upd_same, hl1, rfl, rfl⟩ ?_ ?_ ?_⟩
      · rintro i σ Hc _ ⟨sm, _⟩
        exact SqL.of (sm _ _ (ne_refs hl1 hrs) hrs)
      · rintro i x σ Hc hx ⟨sm, lo, before, acc, s4, rfl, hlo, hL, eq, all⟩
        obtain ⟨r, hr', rfl⟩ := ref_at hx
        obtain ⟨b, hb', nt⟩ := paired_at hp hr'
        have bl := hb b (List.mem_of_getElem? hb')
        refine ⟨_, rfl, r, b, rfl, SameB.notes sm hl1 nt, _, rfl, ?_⟩
        cases c : b.all Sw68.noteOk with
        | false =>
          refine iteT (ref ?_ _ _)
          rw [c1, Bool.true_and, ← Bool.not_eq_true]
          intro z
          have := List.all_eq_true.mp z b (List.mem_of_getElem? hb')
          rw [c] at this
          cases this
        | true =>
          refine iteF ?_
          have eq' : (acc ++ (((wBar kk (oth kk before) [] b).length : Int) :: wBar kk (oth kk before) [] b)) ++ wBars kk b (bs.drop (i + 1)) = wBars kk [] bs := by
            rw [← eq, drop_at hb', List.append_assoc]
            rfl
          refine ⟨_, rfl, .inl ⟨rfl, _, SqL.of hL⟩, _, rfl, _, rfl, _, rfl, kk, r, lo, b, oth kk before, rfl, SameB.notes sm hl1 nt, hlo, c, bl, fun H2 p2 hp2 s2 => ⟨p2, _, rfl, .inl (SqL.of hp2), ?_, fun H3 p3 hp3 s3 => ⟨l, p3, _, _, rfl, rfl, s3 _ _ (s2 _ _ hL), hp3, line ?_, ?_⟩⟩⟩
          · rw [wBar_length]
            omega
          · have z := congrArg List.length eq'
            have z2 := wBars_length kk [] bs hb
            rw [List.length_append, List.length_append] at z
            rw [List.length_map, List.length_map, List.length_cons]
            omega
          · have s4 : SameB l H1 (upd H3 l (.lst (((bs.length : Int) :: acc).map V.int ++ (((wBar kk (oth kk before) [] b).length : Int) :: wBar kk (oth kk before) [] b).map V.int))) := SameB.upd (SameB.same (SameB.same sm s2) s3)
            refine ⟨_, rfl, _, rfl, kk, r, b, rfl, SameB.notes s4 hl1 nt, c, bl, fun H5 lo' hlo' s5 => ?_⟩
            refine ⟨SameB.same s4 s5, lo', b, _, _, rfl, hlo', (s5 _ _ upd_same).trans ?_, eq', ?_⟩
            · rw [← List.map_append]
              rfl
            · rw [take_at hb', List.all_append, all, List.all_cons, c]
              rfl
      · rintro σ Hc ⟨sm, lo, before, acc, s4, rfl, hlo, hL, eq, all⟩
        rw [List.length_map, hp.length, List.drop_length] at eq
        rw [List.length_map, hp.length, List.take_length] at all
        refine ⟨_, rfl, k Hc l ?_⟩
        rw [hL, ansW_ok c1 all, ← eq]
        show _ = some (HO.lst (((bs.length : Int) :: (acc ++ [])).map V.int))
        rw [List.append_nil]
end Sn
namespace Sn
open PySem PySem.Spec PyProof.Rows L2
/-! ### The end: what the top has written -/
theorem txt_mk {K : PySem.W.Frag} {h : Heap} {mg : Str → Option Value} (X : K.In h) (G : h.Ns mainGlobals mg)
    {t_REFUSED : Tok}
    {t_LETTERS : Tok}
    {t_MOST_RAISED : Tok}
    {t_LOWEST_OCTAVE : Tok}
    {t_HIGHEST_OCTAVE : Tok}
    {t_MOST_IN_KEY : Tok}
    {t_NUMBERS_IN_NOTE : Tok}
    {a_FIFTHS_OF_LETTERS : Addr} {o_FIFTHS_OF_LETTERS : Option Addr} {n_FIFTHS_OF_LETTERS : Nat} {l_FIFTHS_OF_LETTERS : Array (Option Value)} {t_FIFTHS_OF_LETTERS_0 t_FIFTHS_OF_LETTERS_1 t_FIFTHS_OF_LETTERS_2 t_FIFTHS_OF_LETTERS_3 t_FIFTHS_OF_LETTERS_4 t_FIFTHS_OF_LETTERS_5 t_FIFTHS_OF_LETTERS_6 : Tok}
    {f_is_note : Addr} {od_is_note an_is_note : Option Addr} {sl_is_note : Array (Option Value)} {oc_is_note kV_is_note dc_is_note pm_is_note cd_is_note ct_is_note : Value}
    {f_is_key : Addr} {od_is_key an_is_key : Option Addr} {sl_is_key : Array (Option Value)} {oc_is_key kV_is_key dc_is_key pm_is_key cd_is_key ct_is_key : Value}
    {f_step_of : Addr} {od_step_of an_step_of : Option Addr} {sl_step_of : Array (Option Value)} {oc_step_of kV_step_of dc_step_of pm_step_of cd_step_of ct_step_of : Value}
    {f_raised_by_key : Addr} {od_raised_by_key an_raised_by_key : Option Addr} {sl_raised_by_key : Array (Option Value)} {oc_raised_by_key kV_raised_by_key dc_raised_by_key pm_raised_by_key cd_raised_by_key ct_raised_by_key : Value}
    {f_notes_in : Addr} {od_notes_in an_notes_in : Option Addr} {sl_notes_in : Array (Option Value)} {oc_notes_in kV_notes_in dc_notes_in pm_notes_in cd_notes_in ct_notes_in : Value}
    {f_bars_in : Addr} {od_bars_in an_bars_in : Option Addr} {sl_bars_in : Array (Option Value)} {oc_bars_in kV_bars_in dc_bars_in pm_bars_in cd_bars_in ct_bars_in : Value}
    {f_are_notes : Addr} {od_are_notes an_are_notes : Option Addr} {sl_are_notes : Array (Option Value)} {oc_are_notes kV_are_notes dc_are_notes pm_are_notes cd_are_notes ct_are_notes : Value}
    {f_letters_raised_otherwise : Addr} {od_letters_raised_otherwise an_letters_raised_otherwise : Option Addr} {sl_letters_raised_otherwise : Array (Option Value)} {oc_letters_raised_otherwise kV_letters_raised_otherwise dc_letters_raised_otherwise pm_letters_raised_otherwise cd_letters_raised_otherwise ct_letters_raised_otherwise : Value}
    {f_written_bar : Addr} {od_written_bar an_written_bar : Option Addr} {sl_written_bar : Array (Option Value)} {oc_written_bar kV_written_bar dc_written_bar pm_written_bar cd_written_bar ct_written_bar : Value}
    {f_counted : Addr} {od_counted an_counted : Option Addr} {sl_counted : Array (Option Value)} {oc_counted kV_counted dc_counted pm_counted cd_counted ct_counted : Value}
    {f_write : Addr} {od_write an_write : Option Addr} {sl_write : Array (Option Value)} {oc_write kV_write dc_write pm_write cd_write ct_write : Value}
    (g_REFUSED : PySem.W.nsIn K mainGlobals "REFUSED" = some (some (.int (-1) t_REFUSED)))
    (g_LETTERS : PySem.W.nsIn K mainGlobals "LETTERS" = some (some (.int (7) t_LETTERS)))
    (g_MOST_RAISED : PySem.W.nsIn K mainGlobals "MOST_RAISED" = some (some (.int (3) t_MOST_RAISED)))
    (g_LOWEST_OCTAVE : PySem.W.nsIn K mainGlobals "LOWEST_OCTAVE" = some (some (.int (-1) t_LOWEST_OCTAVE)))
    (g_HIGHEST_OCTAVE : PySem.W.nsIn K mainGlobals "HIGHEST_OCTAVE" = some (some (.int (9) t_HIGHEST_OCTAVE)))
    (g_MOST_IN_KEY : PySem.W.nsIn K mainGlobals "MOST_IN_KEY" = some (some (.int (7) t_MOST_IN_KEY)))
    (g_NUMBERS_IN_NOTE : PySem.W.nsIn K mainGlobals "NUMBERS_IN_NOTE" = some (some (.int (3) t_NUMBERS_IN_NOTE)))
    (g_FIFTHS_OF_LETTERS : PySem.W.nsIn K mainGlobals "FIFTHS_OF_LETTERS" = some (some (.ref a_FIFTHS_OF_LETTERS)))
    (k_FIFTHS_OF_LETTERS : K.lookup a_FIFTHS_OF_LETTERS = some ⟨.type "tuple", o_FIFTHS_OF_LETTERS, .seq #[.int (0) t_FIFTHS_OF_LETTERS_0, .int (2) t_FIFTHS_OF_LETTERS_1, .int (4) t_FIFTHS_OF_LETTERS_2, .int (-1) t_FIFTHS_OF_LETTERS_3, .int (1) t_FIFTHS_OF_LETTERS_4, .int (3) t_FIFTHS_OF_LETTERS_5, .int (5) t_FIFTHS_OF_LETTERS_6] n_FIFTHS_OF_LETTERS, l_FIFTHS_OF_LETTERS⟩)
    (g_len : PySem.W.nsIn K mainGlobals "len" = some none)
    (g_list : PySem.W.nsIn K mainGlobals "list" = some none)
    (g_range : PySem.W.nsIn K mainGlobals "range" = some none)
    (g_tuple : PySem.W.nsIn K mainGlobals "tuple" = some none)
    (g_is_note : PySem.W.nsIn K mainGlobals "is_note" = some (some (.ref f_is_note)))
    (l_is_note : K.lookup f_is_note = some ⟨oc_is_note, od_is_note, .func (PySem.W.fnOf "is_note" "is_note" (defArgs s_is_note) (defBody s_is_note) (defScope s_is_note) .none kV_is_note dc_is_note pm_is_note an_is_note cd_is_note ct_is_note), sl_is_note⟩)
    (e_is_note : PySem.W.codeIn K cd_is_note "is_note" = true)
    (p_is_note : PySem.W.keepIn K (.ref f_is_note) = true)
    (g_is_key : PySem.W.nsIn K mainGlobals "is_key" = some (some (.ref f_is_key)))
    (l_is_key : K.lookup f_is_key = some ⟨oc_is_key, od_is_key, .func (PySem.W.fnOf "is_key" "is_key" (defArgs s_is_key) (defBody s_is_key) (defScope s_is_key) .none kV_is_key dc_is_key pm_is_key an_is_key cd_is_key ct_is_key), sl_is_key⟩)
    (e_is_key : PySem.W.codeIn K cd_is_key "is_key" = true)
    (p_is_key : PySem.W.keepIn K (.ref f_is_key) = true)
    (g_step_of : PySem.W.nsIn K mainGlobals "step_of" = some (some (.ref f_step_of)))
    (l_step_of : K.lookup f_step_of = some ⟨oc_step_of, od_step_of, .func (PySem.W.fnOf "step_of" "step_of" (defArgs s_step_of) (defBody s_step_of) (defScope s_step_of) .none kV_step_of dc_step_of pm_step_of an_step_of cd_step_of ct_step_of), sl_step_of⟩)
    (e_step_of : PySem.W.codeIn K cd_step_of "step_of" = true)
    (p_step_of : PySem.W.keepIn K (.ref f_step_of) = true)
    (g_raised_by_key : PySem.W.nsIn K mainGlobals "raised_by_key" = some (some (.ref f_raised_by_key)))
    (l_raised_by_key : K.lookup f_raised_by_key = some ⟨oc_raised_by_key, od_raised_by_key, .func (PySem.W.fnOf "raised_by_key" "raised_by_key" (defArgs s_raised_by_key) (defBody s_raised_by_key) (defScope s_raised_by_key) .none kV_raised_by_key dc_raised_by_key pm_raised_by_key an_raised_by_key cd_raised_by_key ct_raised_by_key), sl_raised_by_key⟩)
    (e_raised_by_key : PySem.W.codeIn K cd_raised_by_key "raised_by_key" = true)
    (p_raised_by_key : PySem.W.keepIn K (.ref f_raised_by_key) = true)
    (g_notes_in : PySem.W.nsIn K mainGlobals "notes_in" = some (some (.ref f_notes_in)))
    (l_notes_in : K.lookup f_notes_in = some ⟨oc_notes_in, od_notes_in, .func (PySem.W.fnOf "notes_in" "notes_in" (defArgs s_notes_in) (defBody s_notes_in) (defScope s_notes_in) .none kV_notes_in dc_notes_in pm_notes_in an_notes_in cd_notes_in ct_notes_in), sl_notes_in⟩)
    (e_notes_in : PySem.W.codeIn K cd_notes_in "notes_in" = true)
    (p_notes_in : PySem.W.keepIn K (.ref f_notes_in) = true)
    (g_bars_in : PySem.W.nsIn K mainGlobals "bars_in" = some (some (.ref f_bars_in)))
    (l_bars_in : K.lookup f_bars_in = some ⟨oc_bars_in, od_bars_in, .func (PySem.W.fnOf "bars_in" "bars_in" (defArgs s_bars_in) (defBody s_bars_in) (defScope s_bars_in) .none kV_bars_in dc_bars_in pm_bars_in an_bars_in cd_bars_in ct_bars_in), sl_bars_in⟩)
    (e_bars_in : PySem.W.codeIn K cd_bars_in "bars_in" = true)
    (p_bars_in : PySem.W.keepIn K (.ref f_bars_in) = true)
    (g_are_notes : PySem.W.nsIn K mainGlobals "are_notes" = some (some (.ref f_are_notes)))
    (l_are_notes : K.lookup f_are_notes = some ⟨oc_are_notes, od_are_notes, .func (PySem.W.fnOf "are_notes" "are_notes" (defArgs s_are_notes) (defBody s_are_notes) (defScope s_are_notes) .none kV_are_notes dc_are_notes pm_are_notes an_are_notes cd_are_notes ct_are_notes), sl_are_notes⟩)
    (e_are_notes : PySem.W.codeIn K cd_are_notes "are_notes" = true)
    (p_are_notes : PySem.W.keepIn K (.ref f_are_notes) = true)
    (g_letters_raised_otherwise : PySem.W.nsIn K mainGlobals "letters_raised_otherwise" = some (some (.ref f_letters_raised_otherwise)))
    (l_letters_raised_otherwise : K.lookup f_letters_raised_otherwise = some ⟨oc_letters_raised_otherwise, od_letters_raised_otherwise, .func (PySem.W.fnOf "letters_raised_otherwise" "letters_raised_otherwise" (defArgs s_letters_raised_otherwise) (defBody s_letters_raised_otherwise) (defScope s_letters_raised_otherwise) .none kV_letters_raised_otherwise dc_letters_raised_otherwise pm_letters_raised_otherwise an_letters_raised_otherwise cd_letters_raised_otherwise ct_letters_raised_otherwise), sl_letters_raised_otherwise⟩)
    (e_letters_raised_otherwise : PySem.W.codeIn K cd_letters_raised_otherwise "letters_raised_otherwise" = true)
    (p_letters_raised_otherwise : PySem.W.keepIn K (.ref f_letters_raised_otherwise) = true)
    (g_written_bar : PySem.W.nsIn K mainGlobals "written_bar" = some (some (.ref f_written_bar)))
    (l_written_bar : K.lookup f_written_bar = some ⟨oc_written_bar, od_written_bar, .func (PySem.W.fnOf "written_bar" "written_bar" (defArgs s_written_bar) (defBody s_written_bar) (defScope s_written_bar) .none kV_written_bar dc_written_bar pm_written_bar an_written_bar cd_written_bar ct_written_bar), sl_written_bar⟩)
    (e_written_bar : PySem.W.codeIn K cd_written_bar "written_bar" = true)
    (p_written_bar : PySem.W.keepIn K (.ref f_written_bar) = true)
    (g_counted : PySem.W.nsIn K mainGlobals "counted" = some (some (.ref f_counted)))
    (l_counted : K.lookup f_counted = some ⟨oc_counted, od_counted, .func (PySem.W.fnOf "counted" "counted" (defArgs s_counted) (defBody s_counted) (defScope s_counted) .none kV_counted dc_counted pm_counted an_counted cd_counted ct_counted), sl_counted⟩)
    (e_counted : PySem.W.codeIn K cd_counted "counted" = true)
    (p_counted : PySem.W.keepIn K (.ref f_counted) = true)
    (g_write : PySem.W.nsIn K mainGlobals "write" = some (some (.ref f_write)))
    (l_write : K.lookup f_write = some ⟨oc_write, od_write, .func (PySem.W.fnOf "write" "write" (defArgs s_write) (defBody s_write) (defScope s_write) .none kV_write dc_write pm_write an_write cd_write ct_write), sl_write⟩)
    (e_write : PySem.W.codeIn K cd_write "write" = true)
    (p_write : PySem.W.keepIn K (.ref f_write) = true) : Txt K mg :=
  ⟨⟨_, PySem.W.mg_of X G g_REFUSED⟩,
   ⟨_, PySem.W.mg_of X G g_LETTERS⟩,
   ⟨_, PySem.W.mg_of X G g_MOST_RAISED⟩,
   ⟨_, PySem.W.mg_of X G g_LOWEST_OCTAVE⟩,
   ⟨_, PySem.W.mg_of X G g_HIGHEST_OCTAVE⟩,
   ⟨_, PySem.W.mg_of X G g_MOST_IN_KEY⟩,
   ⟨_, PySem.W.mg_of X G g_NUMBERS_IN_NOTE⟩,
   ⟨a_FIFTHS_OF_LETTERS, PySem.W.mg_of X G g_FIFTHS_OF_LETTERS, fun H => .inr ⟨_, _, _, k_FIFTHS_OF_LETTERS, rfl, rfl, line (show 7 ≤ 1000000 from by decide), (Paired.cons ⟨t_FIFTHS_OF_LETTERS_0, rfl⟩ (Paired.cons ⟨t_FIFTHS_OF_LETTERS_1, rfl⟩ (Paired.cons ⟨t_FIFTHS_OF_LETTERS_2, rfl⟩ (Paired.cons ⟨t_FIFTHS_OF_LETTERS_3, rfl⟩ (Paired.cons ⟨t_FIFTHS_OF_LETTERS_4, rfl⟩ (Paired.cons ⟨t_FIFTHS_OF_LETTERS_5, rfl⟩ (Paired.cons ⟨t_FIFTHS_OF_LETTERS_6, rfl⟩ Paired.nil)))))))⟩⟩,
   (PySem.W.mg_none_of X G g_len),
   (PySem.W.mg_none_of X G g_list),
   (PySem.W.mg_none_of X G g_range),
   (PySem.W.mg_none_of X G g_tuple),
   ⟨_, _, fun_mk (st := s_is_note) l_is_note e_is_note p_is_note, PySem.W.mg_of X G g_is_note, fun s us hu => match us, hu with | [_, _, _], _ => .of_eq rfl⟩,
   ⟨_, _, fun_mk (st := s_is_key) l_is_key e_is_key p_is_key, PySem.W.mg_of X G g_is_key, fun s us hu => match us, hu with | [_], _ => .of_eq rfl⟩,
   ⟨_, _, fun_mk (st := s_step_of) l_step_of e_step_of p_step_of, PySem.W.mg_of X G g_step_of, fun s us hu => match us, hu with | [_, _], _ => .of_eq rfl⟩,
   ⟨_, _, fun_mk (st := s_raised_by_key) l_raised_by_key e_raised_by_key p_raised_by_key, PySem.W.mg_of X G g_raised_by_key, fun s us hu => match us, hu with | [_, _], _ => .of_eq rfl⟩,
   ⟨_, _, fun_mk (st := s_notes_in) l_notes_in e_notes_in p_notes_in, PySem.W.mg_of X G g_notes_in, fun s us hu => match us, hu with | [_], _ => .of_eq rfl⟩,
   ⟨_, _, fun_mk (st := s_bars_in) l_bars_in e_bars_in p_bars_in, PySem.W.mg_of X G g_bars_in, fun s us hu => match us, hu with | [_], _ => .of_eq rfl⟩,
   ⟨_, _, fun_mk (st := s_are_notes) l_are_notes e_are_notes p_are_notes, PySem.W.mg_of X G g_are_notes, fun s us hu => match us, hu with | [_], _ => .of_eq rfl⟩,
   ⟨_, _, fun_mk (st := s_letters_raised_otherwise) l_letters_raised_otherwise e_letters_raised_otherwise p_letters_raised_otherwise, PySem.W.mg_of X G g_letters_raised_otherwise, fun s us hu => match us, hu with | [_, _], _ => .of_eq rfl⟩,
   ⟨_, _, fun_mk (st := s_written_bar) l_written_bar e_written_bar p_written_bar, PySem.W.mg_of X G g_written_bar, fun s us hu => match us, hu with | [_, _, _], _ => .of_eq rfl⟩,
   ⟨_, _, fun_mk (st := s_counted) l_counted e_counted p_counted, PySem.W.mg_of X G g_counted, fun s us hu => match us, hu with | [_], _ => .of_eq rfl⟩,
   ⟨_, _, fun_mk (st := s_write) l_write e_write p_write, PySem.W.mg_of X G g_write, fun s us hu => match us, hu with | [_, _], _ => .of_eq rfl⟩⟩
theorem all_of {P : Program} {w : World} {K : PySem.W.Frag} {mg : Str → Option Value} {fa : Addr} (hfa : mg "write" = some (.ref fa)) (T : Txt K mg) :
    ∃ fd : FuncData, (∀ (s : Shared) (us : List Value), us.length = (["in_key", "bars"] : List Str).length → BindsTo s fd ⟨us, []⟩ ((["in_key", "bars"] : List Str).zip us)) ∧ ∀ base : Heap, K.In base → base.Ns mainGlobals mg → FnOk P w K mg base CX0 3 fa fd ["in_key", "bars"] (sp_write K) := by
  obtain ⟨f, fd, D⟩ := T.d_write
  have e : f = fa := by have z := D.g.symm.trans hfa; injection z with z; injection z
  subst e
  exact ⟨fd, D.bt, fun base _ _ => ok_write T D⟩
end Sn
open PySem PySem.W PyProof.Rows
set_option maxRecDepth 100000 in
set_option maxHeartbeats 8000000 in
theorem PySem.Challenge.cw_spellednotes_s04_write_holds : PySem.Challenge.rw_spellednotes_s04_write.Holds := by
  w_on; k_headS; (case hw => exact ⟨[.int 0, .list [.int 0]], by decide +kernel, by decide +kernel⟩)
  k_fillS
  refine L2.walk_specK (r := PySem.Challenge.rw_spellednotes_s04_write) (k := 3) (CX := L2.CX0) (ps := ["in_key", "bars"]) (sp := Sn.sp_write) (by decide +kernel) rfl rfl ⟨rfl, by decide, by decide⟩ (fun w h Y => PySem.W.kIn_of Y) ?F ?S (fun _ _ _ _ z => z)
  case F =>
    intro w mg fa h Y KX G hmg
    refine Sn.all_of hmg ?_
    refine' Sn.txt_mk KX G ?g_REFUSED ?g_LETTERS ?g_MOST_RAISED ?g_LOWEST_OCTAVE ?g_HIGHEST_OCTAVE ?g_MOST_IN_KEY ?g_NUMBERS_IN_NOTE ?g_FIFTHS_OF_LETTERS ?k_FIFTHS_OF_LETTERS ?g_len ?g_list ?g_range ?g_tuple ?g_is_note ?l_is_note ?e_is_note ?p_is_note ?g_is_key ?l_is_key ?e_is_key ?p_is_key ?g_step_of ?l_step_of ?e_step_of ?p_step_of ?g_raised_by_key ?l_raised_by_key ?e_raised_by_key ?p_raised_by_key ?g_notes_in ?l_notes_in ?e_notes_in ?p_notes_in ?g_bars_in ?l_bars_in ?e_bars_in ?p_bars_in ?g_are_notes ?l_are_notes ?e_are_notes ?p_are_notes ?g_letters_raised_otherwise ?l_letters_raised_otherwise ?e_letters_raised_otherwise ?p_letters_raised_otherwise ?g_written_bar ?l_written_bar ?e_written_bar ?p_written_bar ?g_counted ?l_counted ?e_counted ?p_counted ?g_write ?l_write ?e_write ?p_write
    (case g_REFUSED => k_is)
    (case g_LETTERS => k_is)
    (case g_MOST_RAISED => k_is)
    (case g_LOWEST_OCTAVE => k_is)
    (case g_HIGHEST_OCTAVE => k_is)
    (case g_MOST_IN_KEY => k_is)
    (case g_NUMBERS_IN_NOTE => k_is)
    (case g_FIFTHS_OF_LETTERS => k_is)
    (case k_FIFTHS_OF_LETTERS => k_is)
    (case g_len => k_is)
    (case g_list => k_is)
    (case g_range => k_is)
    (case g_tuple => k_is)
    (case g_is_note => k_is)
    (case l_is_note => k_is)
    (case e_is_note => k_is)
    (case p_is_note => k_is)
    (case g_is_key => k_is)
    (case l_is_key => k_is)
    (case e_is_key => k_is)
    (case p_is_key => k_is)
    (case g_step_of => k_is)
    (case l_step_of => k_is)
    (case e_step_of => k_is)
    (case p_step_of => k_is)
    (case g_raised_by_key => k_is)
    (case l_raised_by_key => k_is)
    (case e_raised_by_key => k_is)
    (case p_raised_by_key => k_is)
    (case g_notes_in => k_is)
    (case l_notes_in => k_is)
    (case e_notes_in => k_is)
    (case p_notes_in => k_is)
    (case g_bars_in => k_is)
    (case l_bars_in => k_is)
    (case e_bars_in => k_is)
    (case p_bars_in => k_is)
    (case g_are_notes => k_is)
    (case l_are_notes => k_is)
    (case e_are_notes => k_is)
    (case p_are_notes => k_is)
    (case g_letters_raised_otherwise => k_is)
    (case l_letters_raised_otherwise => k_is)
    (case e_letters_raised_otherwise => k_is)
    (case p_letters_raised_otherwise => k_is)
    (case g_written_bar => k_is)
    (case l_written_bar => k_is)
    (case e_written_bar => k_is)
    (case p_written_bar => k_is)
    (case g_counted => k_is)
    (case l_counted => k_is)
    (case e_counted => k_is)
    (case p_counted => k_is)
    (case g_write => k_is)
    (case l_write => k_is)
    (case e_write => k_is)
    (case p_write => k_is)
  case S =>
    intro K H xs a hO hwi hask hx
    obtain ⟨k, ns, u⟩ := a
    cases hx with
    | cons h1 hx => cases hx with
      | cons h2 hx =>
        cases hx; cases h1
        have h2' : L2.Dw K H _ (WData.list (ns.map WData.int)) := h2
        cases h2' with
        | lst h3 h4 =>
          rw [L2.ints_dw _ _ h4] at h3
          have hask' : PySw68.write_asked k ns = true := hask
          obtain ⟨bs, e, hl, hb, ew⟩ := Sn.write_inv hask'
          refine ⟨k, _, bs, rfl, e ▸ h3, hl, hb, fun H' p hp => ?_⟩
          show L2.Dw K H' (.ref p) (WData.list ((PySw68.write k ns).map WData.int))
          rw [ew]
          exact .lst (L2.SqL.of hp) (L2.dw_ints _)
#print axioms PySem.Challenge.cw_spellednotes_s04_write_holds
